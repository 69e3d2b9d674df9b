/- Part 15 of the proof: PotI, PotM. -/
import Derived.Deep.WholeRow
import Derived.Test.YtbebofmpimfbgaaB12
import Derived.Test.YtbebofmpimfbgaaB07
import Derived.Test.YtbebofmpimfbgaaB11
/- Contract of Inner. -/
namespace Go.Proofs.Ytbebofmpimfbgaa
set_option linter.all false
open Go.RowKit

set_option maxHeartbeats 400000 in
theorem innerP (b : Nat) (lo hi : Int) (w : World) (hp : Pt w b) (h : -400 ≤ lo ∧ lo ≤ hi ∧ hi ≤ 400) : Calls Try.prog 43 #[.pointer (some ⟨b, 0, none⟩), .agg #[.int .i64 lo, .int .i64 hi]] w (PotEnd b w fun x => lo ≤ x ∧ x ≤ hi) := by
  have hlt := hp.lt
  have b0 : Bk (w.alloc (.cells #[.int .i64 lo, .int .i64 hi] 23)) w.heap.size 23 #[.int .i64 lo, .int .i64 hi] := Bk.new w _ _
  have p0 := hp.alloc (.cells #[.int .i64 lo, .int .i64 hi] 23)
  have k0 : PB b w.heap.size w (w.alloc (.cells #[.int .i64 lo, .int .i64 hi] 23)) := (PB.refl _ _ _).alloc (Nat.le_refl _) _
  go_enter Try.func43, Try.ntmps43
  have hne : w.heap.size ≠ b := by omega
  have hne' : b ≠ w.heap.size := by omega
  go_wp2_with fail
  go_region_held3 (fun w' => w'.cell? ⟨w.heap.size, 0, none⟩ = some (.int .i64 lo) ∧ w'.cell? ⟨w.heap.size, 1, none⟩ = some (.int .i64 hi)) (first | exact ⟨b2.at_ 0 _ rfl, b2.at_ 1 _ rfl⟩ | exact ⟨b0.at_ 0 _ rfl, b0.at_ 1 _ rfl⟩ | exact ⟨b1.at_ 0 _ rfl, b1.at_ 1 _ rfl⟩ | go_keep)
    (first
    | (go_at_call 20; refine (withinP _ _ _ _ (by first | exact p0 | exact p0.drew) h).mono ?_; rintro e w1 ⟨x, rfl, hx, hk1, hp1⟩; have hz1 := hk1.size; have b1 := (by first | exact b0.pb hk1 (by simp) hne | exact b0.drew.pb hk1 (by simp) hne : Bk w1 w.heap.size 23 #[.int .i64 lo, .int .i64 hi]); have k1 := (by first | exact k0.trans hk1 (by simp) | exact PB.trans (PB.below k0 (Below.refl _ _).drew (Nat.le_refl _)) hk1 (by simp) : PB b w.heap.size w w1); simp at hz1)
    | (go_at_call 24; refine (of3P b w1.heap.size lo hi x _ _ (by first | exact hp1.alloc _ | exact (hp1.alloc _).drew) (by have := hp1.lt; omega) (by first | exact Bk.new _ _ _ | exact (Bk.new _ _ _).drew)).mono ?_; rintro e w2 ⟨y, rfl, hy, hk2, hp2⟩; have hl1 := b1.lt; have b2 := (by first | exact (b1.alloc _).pb hk2 (by simp; omega) hne | exact (b1.alloc _).drew.pb hk2 (by simp; omega) hne : Bk w2 w.heap.size 23 #[.int .i64 lo, .int .i64 hi])))
  go_wp2
  go_ret
  refine ⟨y, rfl, by omega, ?_, hp2⟩
  exact (k1.alloc (by omega) _).trans hk2 (by simp; omega)
end Go.Proofs.Ytbebofmpimfbgaa
/- Contract of Narrow. -/
namespace Go.Proofs.Ytbebofmpimfbgaa
set_option linter.all false
open Go.RowKit
noncomputable def nabody : Code := Try.f42.body.getD .skip
noncomputable def narest1 : Code := sndB nabody
set_option maxRecDepth 1000000 in
theorem nabody_eq : nabody = .seq (Code.region 0 #[⟨some 4, .box 23 (.tmp 1), 0, "base.go:59", #[], none⟩, ⟨some 6, .alloc 23, 0, "base.go:59", #[], none⟩] false) narest1 := by kernel_rfl
set_option maxRecDepth 1000000 in
theorem narest1_eq : narest1 = .seq (Code.region 1 #[⟨some 7, .move (.tmp 0), 34, "base.go:60", #[], none⟩, ⟨some 8, .fieldAddr 23 (.tmp 4) 0, 0, "base.go:60", #[], none⟩, ⟨some 9, .load 3 (.tmp 8), 3, "base.go:60", #[⟨1, .data⟩], none⟩, ⟨some 10, .move (.tmp 2), 3, "base.go:60", #[], none⟩, ⟨some 11, .move (.tmp 0), 34, "base.go:60", #[], none⟩, ⟨some 12, .fieldAddr 23 (.tmp 4) 0, 0, "base.go:60", #[], none⟩, ⟨some 13, .load 3 (.tmp 12), 3, "base.go:60", #[⟨5, .data⟩], none⟩, ⟨some 14, .move (.tmp 2), 3, "base.go:60", #[], none⟩, ⟨some 15, .call { callee := .value (.func 20), args := #[.tmp 11, .tmp 13, .tmp 14], argTypes := #[34, 3, 3] }, 3, "base.go:60", #[⟨4, .data⟩, ⟨6, .data⟩, ⟨7, .data⟩], none⟩, ⟨some 16, .buildSlice 31 3 #[(0, .tmp 9), (1, .tmp 10), (2, .tmp 15)], 31, "base.go:60", #[⟨2, .data⟩, ⟨3, .data⟩, ⟨8, .data⟩], none⟩, ⟨some 17, .call { callee := .value (.func 24), args := #[.tmp 7, .tmp 16], argTypes := #[34, 31] }, 3, "base.go:60", #[⟨0, .data⟩, ⟨9, .data⟩, ⟨8, .chain⟩], none⟩, ⟨some 18, .move (.tmp 0), 34, "base.go:60", #[], none⟩, ⟨some 19, .fieldAddr 23 (.tmp 4) 1, 0, "base.go:60", #[], none⟩, ⟨some 20, .load 3 (.tmp 19), 3, "base.go:60", #[⟨12, .data⟩], none⟩, ⟨some 21, .move (.tmp 2), 3, "base.go:60", #[], none⟩, ⟨some 22, .move (.tmp 0), 34, "base.go:60", #[], none⟩, ⟨some 23, .move (.tmp 2), 3, "base.go:60", #[], none⟩, ⟨some 24, .fieldAddr 23 (.tmp 4) 1, 0, "base.go:60", #[], none⟩, ⟨some 25, .load 3 (.tmp 24), 3, "base.go:60", #[⟨17, .data⟩], none⟩, ⟨some 26, .call { callee := .value (.func 20), args := #[.tmp 22, .tmp 23, .tmp 25], argTypes := #[34, 3, 3] }, 3, "base.go:60", #[⟨15, .data⟩, ⟨16, .data⟩, ⟨18, .data⟩, ⟨10, .chain⟩], none⟩, ⟨some 27, .buildSlice 31 3 #[(0, .tmp 20), (1, .tmp 21), (2, .tmp 26)], 31, "base.go:60", #[⟨13, .data⟩, ⟨14, .data⟩, ⟨19, .data⟩], none⟩, ⟨some 28, .call { callee := .value (.func 24), args := #[.tmp 18, .tmp 27], argTypes := #[34, 31] }, 3, "base.go:60", #[⟨11, .data⟩, ⟨20, .data⟩, ⟨19, .chain⟩], none⟩, ⟨some 29, .build 23 #[(0, .tmp 17), (1, .tmp 28)], 23, "base.go:60", #[⟨10, .data⟩, ⟨21, .data⟩], none⟩, ⟨none, .store 23 (.tmp 6) (.tmp 29), 0, "base.go:60", #[⟨22, .data⟩, ⟨21, .chain⟩, ⟨0, .phase⟩, ⟨1, .phase⟩, ⟨2, .phase⟩, ⟨3, .phase⟩, ⟨4, .phase⟩, ⟨5, .phase⟩, ⟨6, .phase⟩, ⟨7, .phase⟩, ⟨8, .phase⟩, ⟨9, .phase⟩, ⟨10, .phase⟩, ⟨11, .phase⟩, ⟨12, .phase⟩, ⟨13, .phase⟩, ⟨14, .phase⟩, ⟨15, .phase⟩, ⟨16, .phase⟩, ⟨17, .phase⟩, ⟨18, .phase⟩, ⟨19, .phase⟩, ⟨20, .phase⟩, ⟨21, .phase⟩, ⟨22, .phase⟩], none⟩] true) .ret := by kernel_rfl

/-- What lies about in Narrow. -/
structure NSt (b B0 : Nat) (w0 : World) (g g6 : Nat) (lo hi : Int) (w : World) : Prop where
  bk : Bk w g 23 #[.int .i64 lo, .int .i64 hi]
  r6 : ∃ x y, Bk w g6 23 #[.int .i64 x, .int .i64 y]
  pt : Pt w b
  pb : PB b B0 w0 w
  ne : g ≠ b ∧ g6 ≠ b ∧ g ≠ g6 ∧ B0 ≤ g6 ∧ B0 ≤ w.heap.size
theorem NSt.pot {b B0 : Nat} {w0 : World} {g g6 : Nat} {lo hi : Int} {w w' : World} (h : NSt b B0 w0 g g6 lo hi w) (hk : PB b w.heap.size w w') (hp : Pt w' b) : NSt b B0 w0 g g6 lo hi w' := by
  obtain ⟨x, y, h6⟩ := h.r6
  obtain ⟨n1, n2, n3, n4, n5⟩ := h.ne
  exact ⟨h.bk.pb hk h.bk.lt n1, ⟨x, y, h6.pb hk h6.lt n2⟩, hp, h.pb.trans hk n5, n1, n2, n3, n4, Nat.le_trans n5 hk.size⟩
theorem NSt.next {b B0 : Nat} {w0 : World} {g g6 : Nat} {lo hi : Int} {w w' : World} (h : NSt b B0 w0 g g6 lo hi w) (hb : Below w.heap.size w w') : NSt b B0 w0 g g6 lo hi w' := by
  obtain ⟨x, y, h6⟩ := h.r6
  obtain ⟨n1, n2, n3, n4, n5⟩ := h.ne
  exact ⟨h.bk.below hb h.bk.lt, ⟨x, y, h6.below hb h6.lt⟩, h.pt.below hb h.pt.lt, h.pb.below hb n5, n1, n2, n3, n4, Nat.le_trans n5 hb.size⟩
theorem NSt.set6 {b B0 : Nat} {w0 : World} {g g6 : Nat} {lo hi : Int} {w : World} (h : NSt b B0 w0 g g6 lo hi w) (y v : Int) {c1 c2 : Int} (h6 : Bk w g6 23 #[.int .i64 c1, .int .i64 c2]) : NSt b B0 w0 g g6 lo hi ((w.setCell ⟨g6, 0, none⟩ (.int .i64 y)).setCell ⟨g6, 1, none⟩ (.int .i64 v)) := by
  obtain ⟨n1, n2, n3, n4, n5⟩ := h.ne
  obtain ⟨t, s, hp⟩ := h.pt
  refine ⟨(h.bk.other (by exact n3) _).other (by exact n3) _, ⟨y, v, h6.put2 _ _⟩, ⟨t, s, (hp.other (by exact n2.symm) _).other (by exact n2.symm) _⟩, (h.pb.setCell (by exact n4) _).setCell (by exact n4) _, n1, n2, n3, n4, ?_⟩
  have q : Below B0 w ((w.setCell ⟨g6, 0, none⟩ (.int .i64 y)).setCell ⟨g6, 1, none⟩ (.int .i64 v)) := ((Below.refl _ _).setCell (p := ⟨g6, 0, none⟩) n4 _).setCell (p := ⟨g6, 1, none⟩) n4 _
  exact Nat.le_trans n5 q.size
set_option maxHeartbeats 4000000 in
set_option maxRecDepth 1000000 in
/-- Narrow: a range inside of another one, that still holds a number of it. -/
theorem narrowP (b : Nat) (lo hi n : Int) (w : World) (hp : Pt w b) (h : -400 ≤ lo ∧ lo ≤ n ∧ n ≤ hi ∧ hi ≤ 400) :
    Calls Try.prog 42 #[.pointer (some ⟨b, 0, none⟩), .agg #[.int .i64 lo, .int .i64 hi], .int .i64 n] w fun e w' => ∃ y v, e = .returned (.agg #[.int .i64 y, .int .i64 v]) ∧ (lo ≤ y ∧ y ≤ n ∧ n ≤ v ∧ v ≤ hi) ∧ PB b w.heap.size w w' ∧ Pt w' b := by
  have hlt := hp.lt
  have hs : NSt b w.heap.size w w.heap.size (w.heap.size + 1) lo hi ((w.alloc (.cells #[.int .i64 lo, .int .i64 hi] 23)).alloc (.cells #[.int .i64 0, .int .i64 0] 23)) :=
    ⟨(Bk.new _ _ _).alloc _, ⟨0, 0, Bk.newAt _ _ _ _ (by simp)⟩, (hp.alloc _).alloc _, ((PB.refl _ _ _).alloc (Nat.le_refl _) _).alloc (by simp) _, by omega, by omega, by omega, by omega, by simp; omega⟩
  have HS := hidMk hs
  clear hs hp
  go_enter Try.func42, Try.ntmps42
  show Code.wp Try.prog nabody _ _ _
  rw [nabody_eq]
  go_wp2_with fail
  generalize hG : w.heap.size + 1 = g6 at HS ⊢
  generalize hW : ((w.alloc (.cells #[.int .i64 lo, .int .i64 hi] 23)).alloc (.cells #[.int .i64 0, .int .i64 0] 23)) = wn at HS ⊢
  obtain ⟨B0, hB0⟩ : ∃ B0, B0 = w.heap.size := ⟨_, rfl⟩
  rw [← hB0] at HS ⊢
  clear hG hW
  rw [narest1_eq]
  refine wp_seq_k fun K0 hKK => ?_
  refine region_via (R := fun a_ e a' w' => e = .normal ∧ ∃ (v7 v8 v9 v10 v11 v12 v13 v14 v15 v16 v17 v18 v19 v20 v21 v22 v23 v24 v25 v26 v27 v28 v29 : Value) (y v : Int), a' = (((((((((((((((((((((((a_.put (some 7) v7).put (some 8) v8).put (some 9) v9).put (some 10) v10).put (some 11) v11).put (some 12) v12).put (some 13) v13).put (some 14) v14).put (some 15) v15).put (some 16) v16).put (some 17) v17).put (some 18) v18).put (some 19) v19).put (some 20) v20).put (some 21) v21).put (some 22) v22).put (some 23) v23).put (some 24) v24).put (some 25) v25).put (some 26) v26).put (some 27) v27).put (some 28) v28).put (some 29) v29) ∧ (lo ≤ y ∧ y ≤ n ∧ n ≤ v ∧ v ≤ hi) ∧ Bk w' g6 23 #[.int .i64 y, .int .i64 v] ∧ NSt b B0 w B0 g6 lo hi w') ?_ ?_
  rotate_left
  · rintro e a' w' ⟨rfl, v7, v8, v9, v10, v11, v12, v13, v14, v15, v16, v17, v18, v19, v20, v21, v22, v23, v24, v25, v26, v27, v28, v29, y, v, rfl, hyv, h6, hS⟩
    refine hKK _ _ ?_
    simp only [Act.put, aT, aZ, aS]
    refine wp_ret ?_
    refine bodyPost_ret (results_cell_row Try.results42 _ _ _ _ _ _ _ rfl h6 Try.underlying23 rfl szRange) rfl ⟨y, v, rfl, hyv, ?_, hS.pt⟩
    have hpb := hS.pb
    rw [hB0] at hpb
    exact hpb
  have hS := (HS.out).next (Below.refl _ _).drew
  refine wp_region_held_drew (S := fun w' => NSt b B0 w B0 g6 lo hi w') (by kernel_rfl) hS (fun hS0 => ?_)
  clear hS0 HS hB0
  generalize wn.drew = wd at hS ⊢
  refine wpAnyH_take (i := 0) (oi := ⟨some 7, .move (.tmp 0), 34, "base.go:60", #[], none⟩) (v := ?_) rfl (by kernel_rfl) (by kernel_rfl) (by kernel_rfl) (fun _ _ _ h => by cases h.1) (.inl ⟨by rfl, ?_⟩) (by assumption) ?_
  rotate_left
  · (intro w' hSw; (try dsimp only at hSw); skip; go_simp <;> with_reducible rfl)
  (try simp only [Act.put, aT, aZ, aS])
  refine wpAnyH_take (i := 1) (oi := ⟨some 8, .fieldAddr 23 (.tmp 4) 0, 0, "base.go:60", #[], none⟩) (v := ?_) rfl (by kernel_rfl) (by kernel_rfl) (by kernel_rfl) (fun _ _ _ h => by cases h.1) (.inl ⟨by rfl, ?_⟩) (by assumption) ?_
  rotate_left
  · (intro w' hSw; (try dsimp only at hSw); skip; go_simp <;> with_reducible rfl)
  (try simp only [Act.put, aT, aZ, aS])
  refine wpAnyH_take (i := 2) (oi := ⟨some 9, .load 3 (.tmp 8), 3, "base.go:60", #[⟨1, .data⟩], none⟩) (v := ?_) rfl (by kernel_rfl) (by kernel_rfl) (by kernel_rfl) (fun _ _ _ h => by cases h.1) (.inl ⟨by rfl, ?_⟩) (by assumption) ?_
  rotate_left
  · (intro w' hSw; (try dsimp only at hSw); have q := hSw.bk.at_ 0 (.int .i64 lo) rfl; go_simp <;> with_reducible rfl)
  (try simp only [Act.put, aT, aZ, aS])
  refine wpAnyH_take (i := 3) (oi := ⟨some 10, .move (.tmp 2), 3, "base.go:60", #[], none⟩) (v := ?_) rfl (by kernel_rfl) (by kernel_rfl) (by kernel_rfl) (fun _ _ _ h => by cases h.1) (.inl ⟨by rfl, ?_⟩) (by assumption) ?_
  rotate_left
  · (intro w' hSw; (try dsimp only at hSw); skip; go_simp <;> with_reducible rfl)
  (try simp only [Act.put, aT, aZ, aS])
  refine wpAnyH_take (i := 4) (oi := ⟨some 11, .move (.tmp 0), 34, "base.go:60", #[], none⟩) (v := ?_) rfl (by kernel_rfl) (by kernel_rfl) (by kernel_rfl) (fun _ _ _ h => by cases h.1) (.inl ⟨by rfl, ?_⟩) (by assumption) ?_
  rotate_left
  · (intro w' hSw; (try dsimp only at hSw); skip; go_simp <;> with_reducible rfl)
  (try simp only [Act.put, aT, aZ, aS])
  refine wpAnyH_take (i := 5) (oi := ⟨some 12, .fieldAddr 23 (.tmp 4) 0, 0, "base.go:60", #[], none⟩) (v := ?_) rfl (by kernel_rfl) (by kernel_rfl) (by kernel_rfl) (fun _ _ _ h => by cases h.1) (.inl ⟨by rfl, ?_⟩) (by assumption) ?_
  rotate_left
  · (intro w' hSw; (try dsimp only at hSw); skip; go_simp <;> with_reducible rfl)
  (try simp only [Act.put, aT, aZ, aS])
  refine wpAnyH_take (i := 6) (oi := ⟨some 13, .load 3 (.tmp 12), 3, "base.go:60", #[⟨5, .data⟩], none⟩) (v := ?_) rfl (by kernel_rfl) (by kernel_rfl) (by kernel_rfl) (fun _ _ _ h => by cases h.1) (.inl ⟨by rfl, ?_⟩) (by assumption) ?_
  rotate_left
  · (intro w' hSw; (try dsimp only at hSw); have q := hSw.bk.at_ 0 (.int .i64 lo) rfl; go_simp <;> with_reducible rfl)
  (try simp only [Act.put, aT, aZ, aS])
  refine wpAnyH_take (i := 7) (oi := ⟨some 14, .move (.tmp 2), 3, "base.go:60", #[], none⟩) (v := ?_) rfl (by kernel_rfl) (by kernel_rfl) (by kernel_rfl) (fun _ _ _ h => by cases h.1) (.inl ⟨by rfl, ?_⟩) (by assumption) ?_
  rotate_left
  · (intro w' hSw; (try dsimp only at hSw); skip; go_simp <;> with_reducible rfl)
  (try simp only [Act.put, aT, aZ, aS])
  refine wpAnyH_take (i := 11) (oi := ⟨some 18, .move (.tmp 0), 34, "base.go:60", #[], none⟩) (v := ?_) rfl (by kernel_rfl) (by kernel_rfl) (by kernel_rfl) (fun _ _ _ h => by cases h.1) (.inl ⟨by rfl, ?_⟩) (by assumption) ?_
  rotate_left
  · (intro w' hSw; (try dsimp only at hSw); skip; go_simp <;> with_reducible rfl)
  (try simp only [Act.put, aT, aZ, aS])
  refine wpAnyH_take (i := 12) (oi := ⟨some 19, .fieldAddr 23 (.tmp 4) 1, 0, "base.go:60", #[], none⟩) (v := ?_) rfl (by kernel_rfl) (by kernel_rfl) (by kernel_rfl) (fun _ _ _ h => by cases h.1) (.inl ⟨by rfl, ?_⟩) (by assumption) ?_
  rotate_left
  · (intro w' hSw; (try dsimp only at hSw); skip; go_simp <;> with_reducible rfl)
  (try simp only [Act.put, aT, aZ, aS])
  refine wpAnyH_take (i := 13) (oi := ⟨some 20, .load 3 (.tmp 19), 3, "base.go:60", #[⟨12, .data⟩], none⟩) (v := ?_) rfl (by kernel_rfl) (by kernel_rfl) (by kernel_rfl) (fun _ _ _ h => by cases h.1) (.inl ⟨by rfl, ?_⟩) (by assumption) ?_
  rotate_left
  · (intro w' hSw; (try dsimp only at hSw); have q := hSw.bk.at_ 1 (.int .i64 hi) rfl; go_simp <;> with_reducible rfl)
  (try simp only [Act.put, aT, aZ, aS])
  refine wpAnyH_take (i := 14) (oi := ⟨some 21, .move (.tmp 2), 3, "base.go:60", #[], none⟩) (v := ?_) rfl (by kernel_rfl) (by kernel_rfl) (by kernel_rfl) (fun _ _ _ h => by cases h.1) (.inl ⟨by rfl, ?_⟩) (by assumption) ?_
  rotate_left
  · (intro w' hSw; (try dsimp only at hSw); skip; go_simp <;> with_reducible rfl)
  (try simp only [Act.put, aT, aZ, aS])
  refine wpAnyH_take (i := 15) (oi := ⟨some 22, .move (.tmp 0), 34, "base.go:60", #[], none⟩) (v := ?_) rfl (by kernel_rfl) (by kernel_rfl) (by kernel_rfl) (fun _ _ _ h => by cases h.1) (.inl ⟨by rfl, ?_⟩) (by assumption) ?_
  rotate_left
  · (intro w' hSw; (try dsimp only at hSw); skip; go_simp <;> with_reducible rfl)
  (try simp only [Act.put, aT, aZ, aS])
  refine wpAnyH_take (i := 16) (oi := ⟨some 23, .move (.tmp 2), 3, "base.go:60", #[], none⟩) (v := ?_) rfl (by kernel_rfl) (by kernel_rfl) (by kernel_rfl) (fun _ _ _ h => by cases h.1) (.inl ⟨by rfl, ?_⟩) (by assumption) ?_
  rotate_left
  · (intro w' hSw; (try dsimp only at hSw); skip; go_simp <;> with_reducible rfl)
  (try simp only [Act.put, aT, aZ, aS])
  refine wpAnyH_take (i := 17) (oi := ⟨some 24, .fieldAddr 23 (.tmp 4) 1, 0, "base.go:60", #[], none⟩) (v := ?_) rfl (by kernel_rfl) (by kernel_rfl) (by kernel_rfl) (fun _ _ _ h => by cases h.1) (.inl ⟨by rfl, ?_⟩) (by assumption) ?_
  rotate_left
  · (intro w' hSw; (try dsimp only at hSw); skip; go_simp <;> with_reducible rfl)
  (try simp only [Act.put, aT, aZ, aS])
  refine wpAnyH_take (i := 18) (oi := ⟨some 25, .load 3 (.tmp 24), 3, "base.go:60", #[⟨17, .data⟩], none⟩) (v := ?_) rfl (by kernel_rfl) (by kernel_rfl) (by kernel_rfl) (fun _ _ _ h => by cases h.1) (.inl ⟨by rfl, ?_⟩) (by assumption) ?_
  rotate_left
  · (intro w' hSw; (try dsimp only at hSw); have q := hSw.bk.at_ 1 (.int .i64 hi) rfl; go_simp <;> with_reducible rfl)
  (try simp only [Act.put, aT, aZ, aS])
  refine wpAnyH_ready (rs := [8]) (by kernel_rfl) (by simp) ?_
  refine AllReadyH.cons (o := ⟨some 15, .call { callee := .value (.func 20), args := #[.tmp 11, .tmp 13, .tmp 14], argTypes := #[34, 3, 3] }, 3, "base.go:60", #[⟨4, .data⟩, ⟨6, .data⟩, ⟨7, .data⟩], none⟩) rfl (fun K hK => ?_) ?_
  · go_simp
    go_at_call 20
    refine (withinP b lo n _ hS.pt (by omega)).mono ?_
    rintro e wx ⟨x, rfl, hx, hk, hp⟩
    have hS_ := hS.pot hk hp
    clear hp
    clear hS hk
    have hS := hS_
    clear hS_
    go_wp2_with fail
    refine hK.out _ _ hS (fun _ => ?_)
    clear hK K
    (try simp only [Act.put, aT, aZ, aS])
    refine wpAnyH_ready (rs := [9]) (by kernel_rfl) (by simp) ?_
    refine AllReadyH.cons (o := ⟨some 16, .buildSlice 31 3 #[(0, .tmp 9), (1, .tmp 10), (2, .tmp 15)], 31, "base.go:60", #[⟨2, .data⟩, ⟨3, .data⟩, ⟨8, .data⟩], none⟩) rfl (fun K hK => ?_) ?_
    · have hs1 : Bk (wx.alloc (.cells #[.int .i64 lo, .int .i64 n, .int .i64 x] 3)) wx.heap.size 3 #[.int .i64 lo, .int .i64 n, .int .i64 x] := Bk.new _ _ _
      have al_ : Below wx.heap.size wx (wx.alloc (.cells #[.int .i64 lo, .int .i64 n, .int .i64 x] 3)) := (Below.refl _ _).alloc (Nat.le_refl _) _
      have hnes1 : b ≠ wx.heap.size := by have := hS.pt.lt; omega
      have hS_ := hS.next al_
      go_simp
      show K _ (wx.alloc (.cells #[.int .i64 lo, .int .i64 n, .int .i64 x] 3))
      refine hK.out _ _ hS_ (fun _ => ?_)
      clear hS al_
      have hS := hS_
      clear hS_
      generalize wx.heap.size = gs1 at hs1 hnes1 ⊢
      generalize (wx.alloc (.cells #[.int .i64 lo, .int .i64 n, .int .i64 x] 3)) = ws1 at hs1 hS ⊢
      clear hK K
      (try simp only [Act.put, aT, aZ, aS])
      refine wpAnyH_ready (rs := [10]) (by kernel_rfl) (by simp) ?_
      refine AllReadyH.cons (o := ⟨some 17, .call { callee := .value (.func 24), args := #[.tmp 7, .tmp 16], argTypes := #[34, 31] }, 3, "base.go:60", #[⟨0, .data⟩, ⟨9, .data⟩, ⟨8, .chain⟩], none⟩) rfl (fun K hK => ?_) ?_
      · go_simp
        go_at_call 24
        refine (of3P b gs1 lo n x _ _ hS.pt hnes1 hs1).mono ?_
        rintro e wy ⟨y, rfl, hy, hk, hp⟩
        have hS_ := hS.pot hk hp
        clear hp hs1 hnes1
        clear hS hk
        have hS := hS_
        clear hS_
        go_wp2_with fail
        refine hK.out _ _ hS (fun _ => ?_)
        clear hK K
        (try simp only [Act.put, aT, aZ, aS])
        refine wpAnyH_ready (rs := [19]) (by kernel_rfl) (by simp) ?_
        refine AllReadyH.cons (o := ⟨some 26, .call { callee := .value (.func 20), args := #[.tmp 22, .tmp 23, .tmp 25], argTypes := #[34, 3, 3] }, 3, "base.go:60", #[⟨15, .data⟩, ⟨16, .data⟩, ⟨18, .data⟩, ⟨10, .chain⟩], none⟩) rfl (fun K hK => ?_) ?_
        · go_simp
          go_at_call 20
          refine (withinP b n hi _ hS.pt (by omega)).mono ?_
          rintro e wz ⟨z, rfl, hz, hk, hp⟩
          have hS_ := hS.pot hk hp
          clear hp
          clear hS hk
          have hS := hS_
          clear hS_
          go_wp2_with fail
          refine hK.out _ _ hS (fun _ => ?_)
          clear hK K
          (try simp only [Act.put, aT, aZ, aS])
          refine wpAnyH_ready (rs := [20]) (by kernel_rfl) (by simp) ?_
          refine AllReadyH.cons (o := ⟨some 27, .buildSlice 31 3 #[(0, .tmp 20), (1, .tmp 21), (2, .tmp 26)], 31, "base.go:60", #[⟨13, .data⟩, ⟨14, .data⟩, ⟨19, .data⟩], none⟩) rfl (fun K hK => ?_) ?_
          · have hs2 : Bk (wz.alloc (.cells #[.int .i64 hi, .int .i64 n, .int .i64 z] 3)) wz.heap.size 3 #[.int .i64 hi, .int .i64 n, .int .i64 z] := Bk.new _ _ _
            have al_ : Below wz.heap.size wz (wz.alloc (.cells #[.int .i64 hi, .int .i64 n, .int .i64 z] 3)) := (Below.refl _ _).alloc (Nat.le_refl _) _
            have hnes2 : b ≠ wz.heap.size := by have := hS.pt.lt; omega
            have hS_ := hS.next al_
            go_simp
            show K _ (wz.alloc (.cells #[.int .i64 hi, .int .i64 n, .int .i64 z] 3))
            refine hK.out _ _ hS_ (fun _ => ?_)
            clear hS al_
            have hS := hS_
            clear hS_
            generalize wz.heap.size = gs2 at hs2 hnes2 ⊢
            generalize (wz.alloc (.cells #[.int .i64 hi, .int .i64 n, .int .i64 z] 3)) = ws2 at hs2 hS ⊢
            clear hK K
            (try simp only [Act.put, aT, aZ, aS])
            refine wpAnyH_ready (rs := [21]) (by kernel_rfl) (by simp) ?_
            refine AllReadyH.cons (o := ⟨some 28, .call { callee := .value (.func 24), args := #[.tmp 18, .tmp 27], argTypes := #[34, 31] }, 3, "base.go:60", #[⟨11, .data⟩, ⟨20, .data⟩, ⟨19, .chain⟩], none⟩) rfl (fun K hK => ?_) ?_
            · go_simp
              go_at_call 24
              refine (of3P b gs2 hi n z _ _ hS.pt hnes2 hs2).mono ?_
              rintro e wv ⟨v, rfl, hv, hk, hp⟩
              have hS_ := hS.pot hk hp
              clear hp hs2 hnes2
              clear hS hk
              have hS := hS_
              clear hS_
              go_wp2_with fail
              refine hK.out _ _ hS (fun _ => ?_)
              clear hK K
              (try simp only [Act.put, aT, aZ, aS])
              refine wpAnyH_take (i := 22) (oi := ⟨some 29, .build 23 #[(0, .tmp 17), (1, .tmp 28)], 23, "base.go:60", #[⟨10, .data⟩, ⟨21, .data⟩], none⟩) (v := ?_) rfl (by kernel_rfl) (by kernel_rfl) (by kernel_rfl) (fun _ _ _ h => by cases h.1) (.inl ⟨by rfl, ?_⟩) (by assumption) ?_
              rotate_left
              · (intro w' hSw; (try dsimp only at hSw); skip; go_simp <;> with_reducible rfl)
              (try simp only [Act.put, aT, aZ, aS])
              refine wpAnyH_ready (rs := [23]) (by kernel_rfl) (by simp) ?_
              refine AllReadyH.cons (o := ⟨none, .store 23 (.tmp 6) (.tmp 29), 0, "base.go:60", #[⟨22, .data⟩, ⟨21, .chain⟩, ⟨0, .phase⟩, ⟨1, .phase⟩, ⟨2, .phase⟩, ⟨3, .phase⟩, ⟨4, .phase⟩, ⟨5, .phase⟩, ⟨6, .phase⟩, ⟨7, .phase⟩, ⟨8, .phase⟩, ⟨9, .phase⟩, ⟨10, .phase⟩, ⟨11, .phase⟩, ⟨12, .phase⟩, ⟨13, .phase⟩, ⟨14, .phase⟩, ⟨15, .phase⟩, ⟨16, .phase⟩, ⟨17, .phase⟩, ⟨18, .phase⟩, ⟨19, .phase⟩, ⟨20, .phase⟩, ⟨21, .phase⟩, ⟨22, .phase⟩], none⟩) rfl (fun K hK => ?_) ?_
              · obtain ⟨c1, c2, h6⟩ := hS.r6
                have z0 := h6.at_ 0 _ rfl
                have z1 := h6.at_ 1 _ rfl
                have f0 := h6.free 0
                have f1 := h6.free 1
                go_simp
                have h6_ := h6.put2 (.int .i64 y) (.int .i64 v)
                have hS_ := hS.set6 y v h6
                refine hK.out _ _ hS_ (fun _ => ?_)
                clear z0 z1 f0 f1 hS
                clear hK K
                (try simp only [Act.put, aT, aZ, aS])
                refine wpAnyH_done (by kernel_rfl) ?_ _
                exact ⟨rfl, _, _, _, _, _, _, _, _, _, _, _, _, _, _, _, _, _, _, _, _, _, _, _, y, v, rfl, (by omega), h6_, hS_⟩
              exact AllReadyH.nil
            exact AllReadyH.nil
          exact AllReadyH.nil
        exact AllReadyH.nil
      exact AllReadyH.nil
    exact AllReadyH.nil
  exact AllReadyH.nil
end Go.Proofs.Ytbebofmpimfbgaa
