/- Part 15 of the proof: Pot, PotK, TxL, TxM, TxN, Sh0, Snd. -/
import Derived.Test.YtljefjngmembkaaGreatDoorProg
import Derived.WalkKit
import Derived.WalkLawsBesides
import Derived.Deep.RegionHeld3
import Derived.Test.YtljefjngmembkaaGreatDoorW12
import Derived.Test.YtljefjngmembkaaGreatDoorW14
import Derived.Test.YtljefjngmembkaaGreatDoorW13
/- Pots: step and Upto. -/
namespace Go.Proofs.YtljefjngmembkaaGreatDoor
set_option linter.all false
open Go.RowKit
def stepS (s : Int) : Int := IntKind.u64.wrap (IntKind.u64.wrap (s * 6364136223846793005) + 1442695040888963407)
def mixA (x c : Int) : Int := IntKind.u64.wrap (bits BinOp.xor IntKind.u64 x (x / 8589934592) * c)
def stepX (s : Int) : Int := bits BinOp.xor IntKind.u64 (mixA (mixA (stepS s) 18397679294719823053) 14181476777654086739) (mixA (mixA (stepS s) 18397679294719823053) 14181476777654086739 / 8589934592)
set_option maxHeartbeats 400000 in
theorem step_any (b : Nat) (s : Int) (w : World) (h : w.cell? ⟨b,0,none⟩ = some (.int .u64 s)) (hf : w.frozen? ⟨b,0,none⟩ = false) :
    Calls Tryz.prog 48 #[.pointer (some ⟨b,0,none⟩)] w fun e w' => e = .returned (.int .u64 (stepX s)) ∧ w' = w.setCell ⟨b,0,none⟩ (.int .u64 (stepS s)) := by
  go_enter Tryz.func48,Tryz.ntmps48
  go_wp2
  go_ret
  exact ⟨rfl,rfl⟩
/-- What Upto answers, and what the pot is then. -/
def uptoF (s m : Int) : Int := if m < 1 then 0 else wrap64 ((stepX s / 2048).tmod (m + 1))
def uptoS (s m : Int) : Int := if m < 1 then s else stepS s
theorem stepX_in (s : Int) : 0 ≤ stepX s ∧ stepX s ≤ 18446744073709551615 := bits_within .xor .u64 _ _
theorem uptoF_in (s m : Int) (h : m ≤ 1000) : 0 ≤ uptoF s m ∧ (uptoF s m ≤ m ∨ uptoF s m = 0) := by
  unfold uptoF
  by_cases h1 : m < 1
  · rw [if_pos h1]; omega
  · rw [if_neg h1]
    have h2 := stepX_in s
    have h3 : 0 ≤ stepX s / 2048 := by omega
    have h4 : (stepX s / 2048).tmod (m + 1) = (stepX s / 2048) % (m + 1) := Int.tmod_eq_emod_of_nonneg h3
    have h5 := Int.emod_nonneg (stepX s / 2048) (show m + 1 ≠ 0 by omega)
    have h6 := Int.emod_lt_of_pos (stepX s / 2048) (show 0 < m + 1 by omega)
    rw [h4,show wrap64 ((stepX s / 2048) % (m + 1)) = (stepX s / 2048) % (m + 1) from IntWalk.wrap64_in _ (by omega)]
    omega
/-- The pot's cell is another one, or nothing is. -/
def Put (w w' : World) (b : Nat) (s s' : Int) : Prop := w' = w.setCell ⟨b,0,none⟩ (.int .u64 s') ∨ (w' = w ∧ s' = s)
theorem Put.cell {w w' : World} {b q p : Nat} {s s' : Int} {v : Value} (h : Put w w' b s s') (hbq : b ≠ q) (hv : w.cell? ⟨q,p,none⟩ = some v) : w'.cell? ⟨q,p,none⟩ = some v := by
  rcases h with rfl | ⟨rfl,_⟩
  · exact (World.cell?_setCell_other w _ _ _ (by intro e; cases e; exact hbq rfl)).trans hv
  · exact hv
set_option maxHeartbeats 400000 in
theorem upto_less (b : Nat) (m : Int) (w : World) (hm : m < 1) :
    Calls Tryz.prog 26 #[.pointer (some ⟨b,0,none⟩),.int .i64 m] w fun e w' => e = .returned (.int .i64 0) ∧ w' = w := by
  go_enter Tryz.func26,Tryz.ntmps26
  go_wp2
  go_ret
  exact ⟨rfl,rfl⟩
set_option maxHeartbeats 400000 in
theorem upto_more (b : Nat) (s m : Int) (w : World) (hm : 1 ≤ m ∧ m ≤ 1000) (h : w.cell? ⟨b,0,none⟩ = some (.int .u64 s)) (hf : w.frozen? ⟨b,0,none⟩ = false) :
    Calls Tryz.prog 26 #[.pointer (some ⟨b,0,none⟩),.int .i64 m] w fun e w' => e = .returned (.int .i64 (wrap64 ((stepX s / 2048).tmod (m + 1)))) ∧ w' = w.setCell ⟨b,0,none⟩ (.int .u64 (stepS s)) := by
  obtain ⟨h1,h2⟩ := hm
  have hz : ¬ m < 1 := by omega
  go_enter Tryz.func26,Tryz.ntmps26
  go_wp2_with (go_at_call 48; refine (step_any _ _ _ h hf).mono ?_; rintro e w1 ⟨rfl,rfl⟩)
  go_ret
  exact ⟨rfl,rfl⟩
theorem upto_any (b : Nat) (s m : Int) (w : World) (hm : m ≤ 1000) (h : w.cell? ⟨b,0,none⟩ = some (.int .u64 s)) (hf : w.frozen? ⟨b,0,none⟩ = false) :
    Calls Tryz.prog 26 #[.pointer (some ⟨b,0,none⟩),.int .i64 m] w fun e w' => e = .returned (.int .i64 (uptoF s m)) ∧ Put w w' b s (uptoS s m) := by
  unfold uptoF uptoS
  by_cases h1 : m < 1
  · rw [if_pos h1,if_pos h1]
    exact (upto_less b m w h1).mono fun e w' ⟨he,hw⟩ => ⟨he,.inr ⟨hw,rfl⟩⟩
  · rw [if_neg h1,if_neg h1]
    exact (upto_more b s m w (by omega) h hf).mono fun e w' ⟨he,hw⟩ => ⟨he,.inl hw⟩
def pick3 (x y z u : Int) : Int := if u = 0 then x else if u = 1 then y else z
set_option maxHeartbeats 400000 in
theorem of3_any (b q o : Nat) (s x y z : Int) (w : World) (h : w.cell? ⟨b,0,none⟩ = some (.int .u64 s)) (hf : w.frozen? ⟨b,0,none⟩ = false) (hbq : b ≠ q)
    (h0 : w.cell? ⟨q,o,none⟩ = some (.int .i64 x)) (h1 : w.cell? ⟨q,o + 1,none⟩ = some (.int .i64 y)) (h2 : w.cell? ⟨q,o + 2,none⟩ = some (.int .i64 z)) :
    Calls Tryz.prog 25 #[.pointer (some ⟨b,0,none⟩),.slice (some ⟨q,o,none⟩) 3 3] w fun e w' => e = .returned (.int .i64 (pick3 x y z (uptoF s 2))) ∧ Put w w' b s (uptoS s 2) := by
  have hu := uptoF_in s 2 (by omega)
  have hcase : uptoF s 2 = 0 ∨ uptoF s 2 = 1 ∨ uptoF s 2 = 2 := by omega
  rcases hcase with e0 | e0 | e0
  · have he : pick3 x y z (uptoF s 2) = x := by rw [e0]; rfl
    clear hu
    go_enter Tryz.func25,Tryz.ntmps25
    go_wp2_with (go_at_call 26; refine (upto_any _ _ _ _ (by decide) h hf).mono ?_; rintro e w1 ⟨rfl,hp⟩; have g0 := hp.cell hbq h0; have g1 := hp.cell hbq h1; have g2 := hp.cell hbq h2)
    go_ret
    exact ⟨by rw [he]; rfl,hp⟩
  · have he : pick3 x y z (uptoF s 2) = y := by rw [e0]; rfl
    clear hu
    go_enter Tryz.func25,Tryz.ntmps25
    go_wp2_with (go_at_call 26; refine (upto_any _ _ _ _ (by decide) h hf).mono ?_; rintro e w1 ⟨rfl,hp⟩; have g0 := hp.cell hbq h0; have g1 := hp.cell hbq h1; have g2 := hp.cell hbq h2)
    go_ret
    exact ⟨by rw [he]; rfl,hp⟩
  · have he : pick3 x y z (uptoF s 2) = z := by rw [e0]; rfl
    clear hu
    go_enter Tryz.func25,Tryz.ntmps25
    go_wp2_with (go_at_call 26; refine (upto_any _ _ _ _ (by decide) h hf).mono ?_; rintro e w1 ⟨rfl,hp⟩; have g0 := hp.cell hbq h0; have g1 := hp.cell hbq h1; have g2 := hp.cell hbq h2)
    go_ret
    exact ⟨by rw [he]; rfl,hp⟩
end Go.Proofs.YtljefjngmembkaaGreatDoor
/- Contracts of what a pot hands out: which numbers, and what is changed. -/
namespace Go.Proofs.YtljefjngmembkaaGreatDoor
set_option linter.all false
open Go.RowKit

/-- Block b is a pot. -/
def Pt (w : World) (b : Nat) : Prop := ∃ t s,Bk w b t #[.int .u64 s]
/-- Of what lay under B, the pot alone may have been changed. -/
structure PB (b B : Nat) (w w' : World) : Prop where
  os : w'.os = w.os
  tape : w'.tape = w.tape
  output : w'.output = w.output
  size : w.heap.size ≤ w'.heap.size
  heap : ∀ k,k < B → k ≠ b → w'.heap[k]? = w.heap[k]?
section
variable {b B B' : Nat} {w w' w'' : World} {t : TypeId} {s : Int} {p : Addr}
theorem Pt.lt (h : Pt w b) : b < w.heap.size := by obtain ⟨t,s,h⟩ := h; exact h.lt
theorem Pt.alloc (h : Pt w b) (o : Obj) : Pt (w.alloc o) b := by obtain ⟨t,s,h⟩ := h; exact ⟨t,s,h.alloc o⟩
theorem Pt.drew (h : Pt w b) : Pt w.drew b := h
theorem Pt.other (h : Pt w b) (hp : b ≠ p.block) (u : Value) : Pt (w.setCell p u) b := by obtain ⟨t,s,h⟩ := h; exact ⟨t,s,h.other hp u⟩
theorem Pt.below (h : Pt w b) (hb : Below B w w') (hg : b < B) : Pt w' b := by obtain ⟨t,s,h⟩ := h; exact ⟨t,s,h.below hb hg⟩
theorem Pt.grown {row : Option Nat} (h : Pt w b) (hb : w.grownBy w' row) (hg : some b ≠ row) : Pt w' b := by obtain ⟨t,s,h⟩ := h; exact ⟨t,s,h.grown hb hg⟩
theorem Pt.rowOther (h : Pt w b) {g : Nat} (hk : b ≠ g) (ds : Array Value) : Pt (w.setRow g ds) b := by obtain ⟨t,s,h⟩ := h; exact ⟨t,s,h.rowOther hk ds⟩
theorem PB.refl (b B : Nat) (w : World) : PB b B w w := ⟨rfl,rfl,rfl,Nat.le_refl _,fun _ _ _ => rfl⟩
theorem PB.trans (h : PB b B w w') (h' : PB b B' w' w'') (hB : B ≤ B') : PB b B w w'' := ⟨h'.os.trans h.os,h'.tape.trans h.tape,h'.output.trans h.output,Nat.le_trans h.size h'.size,fun k hk hb => (h'.heap k (Nat.lt_of_lt_of_le hk hB) hb).trans (h.heap k hk hb)⟩
theorem PB.below (h : PB b B w w') (h' : Below B' w' w'') (hB : B ≤ B') : PB b B w w'' := ⟨h'.os.trans h.os,h'.tape.trans h.tape,h'.output.trans h.output,Nat.le_trans h.size h'.size,fun k hk hb => (h'.block k (Nat.lt_of_lt_of_le hk hB)).trans (h.heap k hk hb)⟩
theorem PB.of (h : Below B w w') : PB b B w w' := ⟨h.os,h.tape,h.output,h.size,fun k hk _ => h.block k hk⟩
theorem PB.toBelow (h : PB b B w w') (hB : B ≤ b) : Below B w w' := ⟨h.os,h.tape,h.output,h.size,fun k hk => h.heap k hk (by omega)⟩
theorem PB.mono (h : PB b B w w') (hB : B' ≤ B) : PB b B' w w' := ⟨h.os,h.tape,h.output,h.size,fun k hk => h.heap k (by omega)⟩
theorem PB.alloc (h : PB b B w w') (hB : B ≤ w'.heap.size) (o : Obj) : PB b B w (w'.alloc o) := h.below ((Below.refl _ _).alloc hB o) (Nat.le_refl _)
theorem PB.setCell (h : PB b B w w') (hp : B ≤ p.block) (u : Value) : PB b B w (w'.setCell p u) := h.below ((Below.refl _ _).setCell hp u) (Nat.le_refl _)
/-- Blocks, ranges and numbers that are no pot are as they were. -/
theorem Bk.pb {g : Nat} {cs : Array Value} (h : Bk w g t cs) (hk : PB b B w w') (hg : g < B) (hb : g ≠ b) : Bk w' g t cs := (hk.heap g hg hb).trans h
theorem Pt.cell {i : Nat} {v : Value} (h : Pt w b) (hc : w.cell? ⟨b,i,none⟩ = some v) : ∃ s,v = .int .u64 s := by
  obtain ⟨t,s,h⟩ := h
  rw [cell_of_row w b i _ t (0,0) h] at hc
  cases i with
  | zero => exact ⟨s,by simpa using hc.symm⟩
  | succ i => simp at hc
theorem PB.cell (h : PB b B w w') (hp : p.block < B) (hb : p.block ≠ b) : w'.cell? p = w.cell? p := World.cell?_of_block (h.heap _ hp hb)
theorem Rg.pb {a : Option Addr} {l : List R2} (h : Rg w w.heap.size a l) (hp : Pt w b) (hk : PB b w.heap.size w w') : Rg w' w'.heap.size a l := fun k r hr => by
  obtain ⟨g,off,e,hg,h1,h2⟩ := h k r hr
  have hne : g ≠ b := by
    rintro rfl
    obtain ⟨s,e⟩ := hp.cell h1
    cases e
  have := hk.size
  exact ⟨g,off,e,by omega,(hk.cell hg hne).trans h1,(hk.cell hg hne).trans h2⟩
theorem Is.pb {a : Option Addr} {l : List Int} (h : Is w w.heap.size a l) (hp : Pt w b) (hk : PB b w.heap.size w w') : Is w' w'.heap.size a l := fun k r hr => by
  obtain ⟨g,off,e,hg,h1⟩ := h k r hr
  have hne : g ≠ b := by
    rintro rfl
    obtain ⟨s,e⟩ := hp.cell h1
    cases e
  have := hk.size
  exact ⟨g,off,e,by omega,(hk.cell hg hne).trans h1⟩
theorem Put.pb {s' : Int} (hb : Bk w b t #[.int .u64 s]) (h : Put w w' b s s') : PB b w.heap.size w w' ∧ Pt w' b := by
  rcases h with rfl | ⟨rfl,_⟩
  · exact ⟨⟨rfl,rfl,rfl,by simp,fun k hk hkb => Below.heap_setCell w _ _ k hkb⟩,t,s',hb.put1 _⟩
  · exact ⟨PB.refl _ _ _,t,s,hb⟩
end

/-- What is said of a call that takes numbers out of a pot. -/
def PotEnd (b : Nat) (w : World) (P : Int → Prop) (e : Ending) (w' : World) : Prop := ∃ x,e = .returned (.int .i64 x) ∧ P x ∧ PB b w.heap.size w w' ∧ Pt w' b
theorem uptoP (b : Nat) (m : Int) (w : World) (hp : Pt w b) (hm : 0 ≤ m ∧ m ≤ 1000) : Calls Tryz.prog 26 #[.pointer (some ⟨b,0,none⟩),.int .i64 m] w (PotEnd b w fun x => 0 ≤ x ∧ x ≤ m) := by
  obtain ⟨t,s,hb⟩ := hp
  refine (upto_any b s m w hm.2 (hb.at_ 0 _ rfl) (hb.free 0)).mono ?_
  rintro e w' ⟨rfl,hput⟩
  have h1 := uptoF_in s m hm.2
  have h2 := hput.pb hb
  exact ⟨_,rfl,by omega,h2.1,h2.2⟩
set_option maxHeartbeats 400000 in
theorem withinP (b : Nat) (lo hi : Int) (w : World) (hp : Pt w b) (h : -400 ≤ lo ∧ lo ≤ hi ∧ hi ≤ 400) : Calls Tryz.prog 24 #[.pointer (some ⟨b,0,none⟩),.int .i64 lo,.int .i64 hi] w (PotEnd b w fun x => lo ≤ x ∧ x ≤ hi) := by
  obtain ⟨h1,h2,h3⟩ := h
  go_enter Tryz.func24,Tryz.ntmps24
  go_wp2_with (go_at_call 26; refine (uptoP _ _ _ hp (by omega)).mono ?_; rintro e w1 ⟨x,rfl,hx,hk,hp1⟩; obtain ⟨hx1,hx2⟩ := hx)
  go_ret
  exact ⟨_,rfl,by omega,hk,hp1⟩
theorem of3P (b q : Nat) (x y z : Int) (t : TypeId) (w : World) (hp : Pt w b) (hbq : b ≠ q) (hq : Bk w q t #[.int .i64 x,.int .i64 y,.int .i64 z]) : Calls Tryz.prog 25 #[.pointer (some ⟨b,0,none⟩),.slice (some ⟨q,0,none⟩) 3 3] w (PotEnd b w fun v => v = x ∨ v = y ∨ v = z) := by
  obtain ⟨tb,s,hb⟩ := hp
  refine (of3_any b q 0 s x y z w (hb.at_ 0 _ rfl) (hb.free 0) hbq (hq.at_ 0 _ rfl) (hq.at_ 1 _ rfl) (hq.at_ 2 _ rfl)).mono ?_
  rintro e w' ⟨rfl,hput⟩
  have h2 := hput.pb hb
  refine ⟨_,rfl,?_,h2.1,h2.2⟩
  unfold pick3
  split
  · exact .inl rfl
  · split
    · exact .inr (.inl rfl)
    · exact .inr (.inr rfl)
end Go.Proofs.YtljefjngmembkaaGreatDoor
/- What takes the numbers of the last line. -/
namespace Go.Proofs.YtljefjngmembkaaGreatDoor
set_option linter.all false
open Go.RowKit
theorem PB.put1 {w w' : World} {g B : Nat} (h : PB g B w w') (i : Nat) (u : Value) : PB g B w (w'.setCell ⟨g,i,none⟩ u) :=
  ⟨h.os,h.tape,h.output,by have := h.size; simpa [World.setCell] using this,fun k hk hb => (Below.heap_setCell w' ⟨g,i,none⟩ u k (fun e => hb e)).trans (h.heap k hk hb)⟩
set_option maxHeartbeats 1000000 in
set_option maxRecDepth 100000 in
theorem take4_any (x y : Int) (g h o nc : Nat) (ra : Option Addr) (rn rc : Nat) (cs : Array Value) (hcs : cs.size = 18) (w : World) (hb : Bk w g 30 cs) (hg : h ≠ g) (hx : w.cell? ⟨h,o,none⟩ = some (.int .i64 x)) (hy : w.cell? ⟨h,o + 1,none⟩ = some (.int .i64 y)) :
    Calls Tryz.prog 80 #[.pointer (some ⟨g,0,none⟩),.slice ra rn rc,.slice (some ⟨h,o,none⟩) 2 nc] w fun e w' => e = .returned (.tuple #[]) ∧ Bk w' g 30 ((cs.setIfInBounds 16 (.int .i64 x)).setIfInBounds 17 (.int .i64 y)) ∧ PB g w.heap.size w w' := by
  have hgb : g < w.heap.size := hb.lt
  have hS : (fun w' => w'.cell? ⟨h,o,none⟩ = some (.int .i64 x) ∧ w'.cell? ⟨h,o + 1,none⟩ = some (.int .i64 y)) w.drew := ⟨hx,hy⟩
  have hP : PB g w.heap.size w w.drew := PB.of (Below.refl _ _).drew
  clear hx hy
  go_enter Tryz.func80,Tryz.ntmps80
  go_wp2_with fail
  refine region_via (R := fun a_ e_ a' w' => e_ = .normal ∧ ∃ (v6 v7 v8 v9 v10 v11 v12 v13 v14 v15 v16 v17 : Value),a' = ((((((((((((a_.put (some 6) v6).put (some 7) v7).put (some 8) v8).put (some 9) v9).put (some 10) v10).put (some 11) v11).put (some 12) v12).put (some 13) v13).put (some 14) v14).put (some 15) v15).put (some 16) v16).put (some 17) v17) ∧ Bk w' g 30 ((cs.setIfInBounds 16 (.int .i64 x)).setIfInBounds 17 (.int .i64 y)) ∧ PB g w.heap.size w w') ?_ ?_
  rotate_left
  · rintro e_ a' w' ⟨rfl,v6,v7,v8,v9,v10,v11,v12,v13,v14,v15,v16,v17,rfl,h1,h2⟩
    simp only [Act.put,aT,aZ,aS]
    have HB' := hidMk h1
    have HP' := hidMk h2
    clear h1 h2 hb hS hP
    go_wp2_with fail
    refine bodyPost_end (v := .tuple #[]) (by simp [results,Tryz.results80,go_sem]) rfl ⟨rfl,HB'.out,HP'.out⟩
  refine wp_region_held_drew (S := (fun w' => w'.cell? ⟨h,o,none⟩ = some (.int .i64 x) ∧ w'.cell? ⟨h,o + 1,none⟩ = some (.int .i64 y))) (by kernel_rfl) hS (fun hS0 => ?_)
  clear hS0
  have hB : Bk w.drew g 30 cs := hb
  clear hb
  generalize w.drew = wd at hS hB hP ⊢
  refine wpAnyH_take (i := 0) (v := ?_) rfl (by kernel_rfl) (by kernel_rfl) (by kernel_rfl) (fun _ _ _ h => by cases h.1) (.inl ⟨by rfl,?_⟩) (by assumption) ?_
  rotate_left
  · (intro w' hSw; (try dsimp only at hSw); skip; go_simp <;> with_reducible rfl)
  (try simp only [Act.put,aT,aZ,aS])
  refine wpAnyH_take (i := 1) (v := ?_) rfl (by kernel_rfl) (by kernel_rfl) (by kernel_rfl) (fun _ _ _ h => by cases h.1) (.inl ⟨by rfl,?_⟩) (by assumption) ?_
  rotate_left
  · (intro w' hSw; (try dsimp only at hSw); skip; go_simp <;> with_reducible rfl)
  (try simp only [Act.put,aT,aZ,aS])
  refine wpAnyH_take (i := 2) (v := ?_) rfl (by kernel_rfl) (by kernel_rfl) (by kernel_rfl) (fun _ _ _ h => by cases h.1) (.inl ⟨by rfl,?_⟩) (by assumption) ?_
  rotate_left
  · (intro w' hSw; (try dsimp only at hSw); skip; go_simp <;> with_reducible rfl)
  (try simp only [Act.put,aT,aZ,aS])
  refine wpAnyH_take (i := 3) (v := ?_) rfl (by kernel_rfl) (by kernel_rfl) (by kernel_rfl) (fun _ _ _ h => by cases h.1) (.inl ⟨by rfl,?_⟩) (by assumption) ?_
  rotate_left
  · (intro w' hSw; (try dsimp only at hSw); skip; go_simp <;> with_reducible rfl)
  (try simp only [Act.put,aT,aZ,aS])
  refine wpAnyH_take (i := 4) (v := ?_) rfl (by kernel_rfl) (by kernel_rfl) (by kernel_rfl) (fun _ _ _ h => by cases h.1) (.inl ⟨by rfl,?_⟩) (by assumption) ?_
  rotate_left
  · (intro w' hSw; (try dsimp only at hSw); have q0 := hSw.1; go_simp <;> with_reducible rfl)
  (try simp only [Act.put,aT,aZ,aS])
  refine wpAnyH_take (i := 5) (v := ?_) rfl (by kernel_rfl) (by kernel_rfl) (by kernel_rfl) (fun _ _ _ h => by cases h.1) (.inl ⟨by rfl,?_⟩) (by assumption) ?_
  rotate_left
  · (intro w' hSw; (try dsimp only at hSw); skip; go_simp <;> with_reducible rfl)
  (try simp only [Act.put,aT,aZ,aS])
  refine wpAnyH_take (i := 6) (v := ?_) rfl (by kernel_rfl) (by kernel_rfl) (by kernel_rfl) (fun _ _ _ h => by cases h.1) (.inl ⟨by rfl,?_⟩) (by assumption) ?_
  rotate_left
  · (intro w' hSw; (try dsimp only at hSw); skip; go_simp <;> with_reducible rfl)
  (try simp only [Act.put,aT,aZ,aS])
  refine wpAnyH_take (i := 7) (v := ?_) rfl (by kernel_rfl) (by kernel_rfl) (by kernel_rfl) (fun _ _ _ h => by cases h.1) (.inl ⟨by rfl,?_⟩) (by assumption) ?_
  rotate_left
  · (intro w' hSw; (try dsimp only at hSw); have q1 := hSw.2; go_simp <;> with_reducible rfl)
  (try simp only [Act.put,aT,aZ,aS])
  refine wpAnyH_take (i := 8) (v := ?_) rfl (by kernel_rfl) (by kernel_rfl) (by kernel_rfl) (fun _ _ _ h => by cases h.1) (.inl ⟨by rfl,?_⟩) (by assumption) ?_
  rotate_left
  · (intro w' hSw; (try dsimp only at hSw); skip; go_simp <;> with_reducible rfl)
  (try simp only [Act.put,aT,aZ,aS])
  refine wpAnyH_take (i := 9) (v := ?_) rfl (by kernel_rfl) (by kernel_rfl) (by kernel_rfl) (fun _ _ _ h => by cases h.1) (.inl ⟨by rfl,?_⟩) (by assumption) ?_
  rotate_left
  · (intro w' hSw; (try dsimp only at hSw); skip; go_simp <;> with_reducible rfl)
  (try simp only [Act.put,aT,aZ,aS])
  refine wpAnyH_ready (rs := [10]) (by kernel_rfl) (by simp) ?_
  refine AllReadyH.cons rfl (fun K hK => ?_) ?_
  · have fz := hB.free 16
    have oz := hB.at_ 16 _ (Array.getElem?_eq_getElem (by simp [hcs]))
    go_simp
    have hS_ : (fun w' => w'.cell? ⟨h,o,none⟩ = some (.int .i64 x) ∧ w'.cell? ⟨h,o + 1,none⟩ = some (.int .i64 y)) (wd.setCell ⟨g,16,none⟩ (.int .i64 x)) := ⟨(cell_other wd g 16 h o _ (Ne.symm hg)).trans hS.1,(cell_other wd g 16 h (o + 1) _ (Ne.symm hg)).trans hS.2⟩
    have hB_ := hB.put 16 (.int .i64 x)
    have hP_ := hP.put1 16 (.int .i64 x)
    refine hK.out _ _ hS_ (fun _ => ?_)
    clear fz oz hS hB hP
    have hS := hS_
    have hB := hB_
    have hP := hP_
    clear hS_ hB_ hP_
    generalize wd.setCell _ _ = wd at hS hB hP ⊢
    clear hK K
    (try simp only [Act.put,aT,aZ,aS])
    refine wpAnyH_take (i := 11) (v := ?_) rfl (by kernel_rfl) (by kernel_rfl) (by kernel_rfl) (fun _ _ _ h => by cases h.1) (.inl ⟨by rfl,?_⟩) (by assumption) ?_
    rotate_left
    · (intro w' hSw; (try dsimp only at hSw); skip; go_simp <;> with_reducible rfl)
    (try simp only [Act.put,aT,aZ,aS])
    refine wpAnyH_take (i := 12) (v := ?_) rfl (by kernel_rfl) (by kernel_rfl) (by kernel_rfl) (fun _ _ _ h => by cases h.1) (.inl ⟨by rfl,?_⟩) (by assumption) ?_
    rotate_left
    · (intro w' hSw; (try dsimp only at hSw); skip; go_simp <;> with_reducible rfl)
    (try simp only [Act.put,aT,aZ,aS])
    refine wpAnyH_ready (rs := [13]) (by kernel_rfl) (by simp) ?_
    refine AllReadyH.cons rfl (fun K hK => ?_) ?_
    · have fz := hB.free 17
      have oz := hB.at_ 17 _ (Array.getElem?_eq_getElem (by simp [hcs]))
      go_simp
      have hS_ : (fun w' => w'.cell? ⟨h,o,none⟩ = some (.int .i64 x) ∧ w'.cell? ⟨h,o + 1,none⟩ = some (.int .i64 y)) (wd.setCell ⟨g,17,none⟩ (.int .i64 y)) := ⟨(cell_other wd g 17 h o _ (Ne.symm hg)).trans hS.1,(cell_other wd g 17 h (o + 1) _ (Ne.symm hg)).trans hS.2⟩
      have hB_ := hB.put 17 (.int .i64 y)
      have hP_ := hP.put1 17 (.int .i64 y)
      refine hK.out _ _ hS_ (fun _ => ?_)
      clear fz oz hS hB hP
      have hS := hS_
      have hB := hB_
      have hP := hP_
      clear hS_ hB_ hP_
      generalize wd.setCell _ _ = wd at hS hB hP ⊢
      clear hK K
      (try simp only [Act.put,aT,aZ,aS])
      refine wpAnyH_done (by kernel_rfl) ?_ _
      exact ⟨rfl,_,_,_,_,_,_,_,_,_,_,_,_,rfl,hB,hP⟩
    exact AllReadyH.nil
  exact AllReadyH.nil
end Go.Proofs.YtljefjngmembkaaGreatDoor
/- What takes the ranges of the first line. -/
namespace Go.Proofs.YtljefjngmembkaaGreatDoor
set_option linter.all false
open Go.RowKit
set_option maxHeartbeats 4000000 in
set_option maxRecDepth 100000 in
theorem take1_any (a0 b0 a1 b1 a2 b2 : Int) (g h o rc : Nat) (na : Option Addr) (nn nc : Nat) (cs : Array Value) (hcs : cs.size = 18) (w : World) (hb : Bk w g 30 cs) (hg : h ≠ g) (hx : w.cell? ⟨h,o,none⟩ = some (.int .i64 a0) ∧ w.cell? ⟨h,o + 1,none⟩ = some (.int .i64 b0) ∧ w.cell? ⟨h,o + 2,none⟩ = some (.int .i64 a1) ∧ w.cell? ⟨h,o + 3,none⟩ = some (.int .i64 b1) ∧ w.cell? ⟨h,o + 4,none⟩ = some (.int .i64 a2) ∧ w.cell? ⟨h,o + 5,none⟩ = some (.int .i64 b2)) :
    Calls Tryz.prog 77 #[.pointer (some ⟨g,0,none⟩),.slice (some ⟨h,o,none⟩) 3 rc,.slice na nn nc] w fun e w' => e = .returned (.tuple #[]) ∧ Bk w' g 30 ((((((cs.setIfInBounds 0 (.int .i64 a0)).setIfInBounds 1 (.int .i64 b0)).setIfInBounds 2 (.int .i64 a1)).setIfInBounds 3 (.int .i64 b1)).setIfInBounds 4 (.int .i64 a2)).setIfInBounds 5 (.int .i64 b2)) ∧ PB g w.heap.size w w' := by
  have hgb : g < w.heap.size := hb.lt
  have hS : (fun w' => w'.cell? ⟨h,o,none⟩ = some (.int .i64 a0) ∧ w'.cell? ⟨h,o + 1,none⟩ = some (.int .i64 b0) ∧ w'.cell? ⟨h,o + 2,none⟩ = some (.int .i64 a1) ∧ w'.cell? ⟨h,o + 3,none⟩ = some (.int .i64 b1) ∧ w'.cell? ⟨h,o + 4,none⟩ = some (.int .i64 a2) ∧ w'.cell? ⟨h,o + 5,none⟩ = some (.int .i64 b2)) w.drew := hx
  have hP : PB g w.heap.size w w.drew := PB.of (Below.refl _ _).drew
  clear hx
  go_enter Tryz.func77,Tryz.ntmps77
  go_wp2_with fail
  refine region_via (R := fun a_ e_ a' w' => e_ = .normal ∧ ∃ (v6 v7 v8 v9 v10 v11 v12 v13 v14 v15 v16 v17 v18 v19 v20 v21 v22 v23 v24 v25 v26 : Value),a' = (((((((((((((((((((((a_.put (some 6) v6).put (some 7) v7).put (some 8) v8).put (some 9) v9).put (some 10) v10).put (some 11) v11).put (some 12) v12).put (some 13) v13).put (some 14) v14).put (some 15) v15).put (some 16) v16).put (some 17) v17).put (some 18) v18).put (some 19) v19).put (some 20) v20).put (some 21) v21).put (some 22) v22).put (some 23) v23).put (some 24) v24).put (some 25) v25).put (some 26) v26) ∧ Bk w' g 30 ((((((cs.setIfInBounds 0 (.int .i64 a0)).setIfInBounds 1 (.int .i64 b0)).setIfInBounds 2 (.int .i64 a1)).setIfInBounds 3 (.int .i64 b1)).setIfInBounds 4 (.int .i64 a2)).setIfInBounds 5 (.int .i64 b2)) ∧ PB g w.heap.size w w' ∧ w'.cell? ⟨h,o,none⟩ = some (.int .i64 a0) ∧ w'.cell? ⟨h,o + 1,none⟩ = some (.int .i64 b0) ∧ w'.cell? ⟨h,o + 2,none⟩ = some (.int .i64 a1) ∧ w'.cell? ⟨h,o + 3,none⟩ = some (.int .i64 b1) ∧ w'.cell? ⟨h,o + 4,none⟩ = some (.int .i64 a2) ∧ w'.cell? ⟨h,o + 5,none⟩ = some (.int .i64 b2)) ?_ ?_
  rotate_left
  · rintro e_ a' w' ⟨rfl,v6,v7,v8,v9,v10,v11,v12,v13,v14,v15,v16,v17,v18,v19,v20,v21,v22,v23,v24,v25,v26,rfl,h1,h2,h3⟩
    simp only [Act.put,aT,aZ,aS]
    have HB' := hidMk h1
    have HP' := hidMk h2
    clear h1 h2 h3 hb hS hP
    go_wp2_with fail
    refine bodyPost_end (v := .tuple #[]) (by simp [results,Tryz.results77,go_sem]) rfl ⟨rfl,HB'.out,HP'.out⟩
  refine wp_region_held_drew (S := (fun w' => w'.cell? ⟨h,o,none⟩ = some (.int .i64 a0) ∧ w'.cell? ⟨h,o + 1,none⟩ = some (.int .i64 b0) ∧ w'.cell? ⟨h,o + 2,none⟩ = some (.int .i64 a1) ∧ w'.cell? ⟨h,o + 3,none⟩ = some (.int .i64 b1) ∧ w'.cell? ⟨h,o + 4,none⟩ = some (.int .i64 a2) ∧ w'.cell? ⟨h,o + 5,none⟩ = some (.int .i64 b2))) (by kernel_rfl) hS (fun hS0 => ?_)
  clear hS0
  have hB : Bk w.drew g 30 cs := hb
  clear hb
  generalize w.drew = wd at hS hB hP ⊢
  refine wpAnyH_take (i := 0) (v := ?_) rfl (by kernel_rfl) (by kernel_rfl) (by kernel_rfl) (fun _ _ _ h => by cases h.1) (.inl ⟨by rfl,?_⟩) (by assumption) ?_
  rotate_left
  · (intro w' hSw; (try dsimp only at hSw); skip; go_simp <;> with_reducible rfl)
  (try simp only [Act.put,aT,aZ,aS])
  refine wpAnyH_take (i := 1) (v := ?_) rfl (by kernel_rfl) (by kernel_rfl) (by kernel_rfl) (fun _ _ _ h => by cases h.1) (.inl ⟨by rfl,?_⟩) (by assumption) ?_
  rotate_left
  · (intro w' hSw; (try dsimp only at hSw); skip; go_simp <;> with_reducible rfl)
  (try simp only [Act.put,aT,aZ,aS])
  refine wpAnyH_take (i := 2) (v := ?_) rfl (by kernel_rfl) (by kernel_rfl) (by kernel_rfl) (fun _ _ _ h => by cases h.1) (.inl ⟨by rfl,?_⟩) (by assumption) ?_
  rotate_left
  · (intro w' hSw; (try dsimp only at hSw); skip; go_simp <;> with_reducible rfl)
  (try simp only [Act.put,aT,aZ,aS])
  refine wpAnyH_take (i := 3) (v := ?_) rfl (by kernel_rfl) (by kernel_rfl) (by kernel_rfl) (fun _ _ _ h => by cases h.1) (.inl ⟨by rfl,?_⟩) (by assumption) ?_
  rotate_left
  · (intro w' hSw; (try dsimp only at hSw); skip; go_simp <;> with_reducible rfl)
  (try simp only [Act.put,aT,aZ,aS])
  refine wpAnyH_take (i := 4) (v := ?_) rfl (by kernel_rfl) (by kernel_rfl) (by kernel_rfl) (fun _ _ _ h => by cases h.1) (.inl ⟨by rfl,?_⟩) (by assumption) ?_
  rotate_left
  · (intro w' hSw; (try dsimp only at hSw); skip; go_simp <;> with_reducible rfl)
  (try simp only [Act.put,aT,aZ,aS])
  refine wpAnyH_take (i := 5) (v := ?_) rfl (by kernel_rfl) (by kernel_rfl) (by kernel_rfl) (fun _ _ _ h => by cases h.1) (.inl ⟨by rfl,?_⟩) (by assumption) ?_
  rotate_left
  · (intro w' hSw; (try dsimp only at hSw); (have q0 := hSw.1; have q1 := hSw.2.1); go_simp <;> with_reducible rfl)
  (try simp only [Act.put,aT,aZ,aS])
  refine wpAnyH_take (i := 6) (v := ?_) rfl (by kernel_rfl) (by kernel_rfl) (by kernel_rfl) (fun _ _ _ h => by cases h.1) (.inl ⟨by rfl,?_⟩) (by assumption) ?_
  rotate_left
  · (intro w' hSw; (try dsimp only at hSw); skip; go_simp <;> with_reducible rfl)
  (try simp only [Act.put,aT,aZ,aS])
  refine wpAnyH_take (i := 7) (v := ?_) rfl (by kernel_rfl) (by kernel_rfl) (by kernel_rfl) (fun _ _ _ h => by cases h.1) (.inl ⟨by rfl,?_⟩) (by assumption) ?_
  rotate_left
  · (intro w' hSw; (try dsimp only at hSw); skip; go_simp <;> with_reducible rfl)
  (try simp only [Act.put,aT,aZ,aS])
  refine wpAnyH_take (i := 8) (v := ?_) rfl (by kernel_rfl) (by kernel_rfl) (by kernel_rfl) (fun _ _ _ h => by cases h.1) (.inl ⟨by rfl,?_⟩) (by assumption) ?_
  rotate_left
  · (intro w' hSw; (try dsimp only at hSw); (have q0 := hSw.2.2.1; have q1 := hSw.2.2.2.1); go_simp <;> with_reducible rfl)
  (try simp only [Act.put,aT,aZ,aS])
  refine wpAnyH_take (i := 9) (v := ?_) rfl (by kernel_rfl) (by kernel_rfl) (by kernel_rfl) (fun _ _ _ h => by cases h.1) (.inl ⟨by rfl,?_⟩) (by assumption) ?_
  rotate_left
  · (intro w' hSw; (try dsimp only at hSw); skip; go_simp <;> with_reducible rfl)
  (try simp only [Act.put,aT,aZ,aS])
  refine wpAnyH_take (i := 10) (v := ?_) rfl (by kernel_rfl) (by kernel_rfl) (by kernel_rfl) (fun _ _ _ h => by cases h.1) (.inl ⟨by rfl,?_⟩) (by assumption) ?_
  rotate_left
  · (intro w' hSw; (try dsimp only at hSw); skip; go_simp <;> with_reducible rfl)
  (try simp only [Act.put,aT,aZ,aS])
  refine wpAnyH_take (i := 11) (v := ?_) rfl (by kernel_rfl) (by kernel_rfl) (by kernel_rfl) (fun _ _ _ h => by cases h.1) (.inl ⟨by rfl,?_⟩) (by assumption) ?_
  rotate_left
  · (intro w' hSw; (try dsimp only at hSw); (have q0 := hSw.2.2.2.2.1; have q1 := hSw.2.2.2.2.2); go_simp <;> with_reducible rfl)
  (try simp only [Act.put,aT,aZ,aS])
  refine wpAnyH_take (i := 12) (v := ?_) rfl (by kernel_rfl) (by kernel_rfl) (by kernel_rfl) (fun _ _ _ h => by cases h.1) (.inl ⟨by rfl,?_⟩) (by assumption) ?_
  rotate_left
  · (intro w' hSw; (try dsimp only at hSw); skip; go_simp <;> with_reducible rfl)
  (try simp only [Act.put,aT,aZ,aS])
  refine wpAnyH_take (i := 13) (v := ?_) rfl (by kernel_rfl) (by kernel_rfl) (by kernel_rfl) (fun _ _ _ h => by cases h.1) (.inl ⟨by rfl,?_⟩) (by assumption) ?_
  rotate_left
  · (intro w' hSw; (try dsimp only at hSw); skip; go_simp <;> with_reducible rfl)
  (try simp only [Act.put,aT,aZ,aS])
  refine wpAnyH_take (i := 14) (v := ?_) rfl (by kernel_rfl) (by kernel_rfl) (by kernel_rfl) (fun _ _ _ h => by cases h.1) (.inl ⟨by rfl,?_⟩) (by assumption) ?_
  rotate_left
  · (intro w' hSw; (try dsimp only at hSw); skip; go_simp <;> with_reducible rfl)
  (try simp only [Act.put,aT,aZ,aS])
  refine wpAnyH_ready (rs := [15]) (by kernel_rfl) (by simp) ?_
  refine AllReadyH.cons rfl (fun K hK => ?_) ?_
  · have f0 := hB.free 0
    have f1 := hB.free 1
    have z0 := hB.at_ 0 _ (Array.getElem?_eq_getElem (by simp [hcs]))
    have z1 := hB.at_ 1 _ (Array.getElem?_eq_getElem (by simp [hcs]))
    go_simp
    have hS_ : (fun w' => w'.cell? ⟨h,o,none⟩ = some (.int .i64 a0) ∧ w'.cell? ⟨h,o + 1,none⟩ = some (.int .i64 b0) ∧ w'.cell? ⟨h,o + 2,none⟩ = some (.int .i64 a1) ∧ w'.cell? ⟨h,o + 3,none⟩ = some (.int .i64 b1) ∧ w'.cell? ⟨h,o + 4,none⟩ = some (.int .i64 a2) ∧ w'.cell? ⟨h,o + 5,none⟩ = some (.int .i64 b2)) ((wd.setCell ⟨g,0,none⟩ (.int .i64 a0)).setCell ⟨g,1,none⟩ (.int .i64 b0)) := ⟨((cell_other _ g 1 h o _ (Ne.symm hg)).trans (cell_other wd g 0 h o _ (Ne.symm hg))).trans hS.1,((cell_other _ g 1 h (o + 1) _ (Ne.symm hg)).trans (cell_other wd g 0 h (o + 1) _ (Ne.symm hg))).trans hS.2.1,((cell_other _ g 1 h (o + 2) _ (Ne.symm hg)).trans (cell_other wd g 0 h (o + 2) _ (Ne.symm hg))).trans hS.2.2.1,((cell_other _ g 1 h (o + 3) _ (Ne.symm hg)).trans (cell_other wd g 0 h (o + 3) _ (Ne.symm hg))).trans hS.2.2.2.1,((cell_other _ g 1 h (o + 4) _ (Ne.symm hg)).trans (cell_other wd g 0 h (o + 4) _ (Ne.symm hg))).trans hS.2.2.2.2.1,((cell_other _ g 1 h (o + 5) _ (Ne.symm hg)).trans (cell_other wd g 0 h (o + 5) _ (Ne.symm hg))).trans hS.2.2.2.2.2⟩
    have hB_ := (hB.put 0 (.int .i64 a0)).put 1 (.int .i64 b0)
    have hP_ := (hP.put1 0 (.int .i64 a0)).put1 1 (.int .i64 b0)
    refine hK.out _ _ hS_ (fun _ => ?_)
    clear f0 f1 z0 z1 hS hB hP
    have hS := hS_
    have hB := hB_
    have hP := hP_
    clear hS_ hB_ hP_
    generalize (wd.setCell _ _).setCell _ _ = wd at hS hB hP ⊢
    clear hK K
    (try simp only [Act.put,aT,aZ,aS])
    refine wpAnyH_take (i := 16) (v := ?_) rfl (by kernel_rfl) (by kernel_rfl) (by kernel_rfl) (fun _ _ _ h => by cases h.1) (.inl ⟨by rfl,?_⟩) (by assumption) ?_
    rotate_left
    · (intro w' hSw; (try dsimp only at hSw); skip; go_simp <;> with_reducible rfl)
    (try simp only [Act.put,aT,aZ,aS])
    refine wpAnyH_take (i := 17) (v := ?_) rfl (by kernel_rfl) (by kernel_rfl) (by kernel_rfl) (fun _ _ _ h => by cases h.1) (.inl ⟨by rfl,?_⟩) (by assumption) ?_
    rotate_left
    · (intro w' hSw; (try dsimp only at hSw); skip; go_simp <;> with_reducible rfl)
    (try simp only [Act.put,aT,aZ,aS])
    refine wpAnyH_take (i := 18) (v := ?_) rfl (by kernel_rfl) (by kernel_rfl) (by kernel_rfl) (fun _ _ _ h => by cases h.1) (.inl ⟨by rfl,?_⟩) (by assumption) ?_
    rotate_left
    · (intro w' hSw; (try dsimp only at hSw); skip; go_simp <;> with_reducible rfl)
    (try simp only [Act.put,aT,aZ,aS])
    refine wpAnyH_ready (rs := [19]) (by kernel_rfl) (by simp) ?_
    refine AllReadyH.cons rfl (fun K hK => ?_) ?_
    · have f0 := hB.free 2
      have f1 := hB.free 3
      have z0 := hB.at_ 2 _ (Array.getElem?_eq_getElem (by simp [hcs]))
      have z1 := hB.at_ 3 _ (Array.getElem?_eq_getElem (by simp [hcs]))
      go_simp
      have hS_ : (fun w' => w'.cell? ⟨h,o,none⟩ = some (.int .i64 a0) ∧ w'.cell? ⟨h,o + 1,none⟩ = some (.int .i64 b0) ∧ w'.cell? ⟨h,o + 2,none⟩ = some (.int .i64 a1) ∧ w'.cell? ⟨h,o + 3,none⟩ = some (.int .i64 b1) ∧ w'.cell? ⟨h,o + 4,none⟩ = some (.int .i64 a2) ∧ w'.cell? ⟨h,o + 5,none⟩ = some (.int .i64 b2)) ((wd.setCell ⟨g,2,none⟩ (.int .i64 a1)).setCell ⟨g,3,none⟩ (.int .i64 b1)) := ⟨((cell_other _ g 3 h o _ (Ne.symm hg)).trans (cell_other wd g 2 h o _ (Ne.symm hg))).trans hS.1,((cell_other _ g 3 h (o + 1) _ (Ne.symm hg)).trans (cell_other wd g 2 h (o + 1) _ (Ne.symm hg))).trans hS.2.1,((cell_other _ g 3 h (o + 2) _ (Ne.symm hg)).trans (cell_other wd g 2 h (o + 2) _ (Ne.symm hg))).trans hS.2.2.1,((cell_other _ g 3 h (o + 3) _ (Ne.symm hg)).trans (cell_other wd g 2 h (o + 3) _ (Ne.symm hg))).trans hS.2.2.2.1,((cell_other _ g 3 h (o + 4) _ (Ne.symm hg)).trans (cell_other wd g 2 h (o + 4) _ (Ne.symm hg))).trans hS.2.2.2.2.1,((cell_other _ g 3 h (o + 5) _ (Ne.symm hg)).trans (cell_other wd g 2 h (o + 5) _ (Ne.symm hg))).trans hS.2.2.2.2.2⟩
      have hB_ := (hB.put 2 (.int .i64 a1)).put 3 (.int .i64 b1)
      have hP_ := (hP.put1 2 (.int .i64 a1)).put1 3 (.int .i64 b1)
      refine hK.out _ _ hS_ (fun _ => ?_)
      clear f0 f1 z0 z1 hS hB hP
      have hS := hS_
      have hB := hB_
      have hP := hP_
      clear hS_ hB_ hP_
      generalize (wd.setCell _ _).setCell _ _ = wd at hS hB hP ⊢
      clear hK K
      (try simp only [Act.put,aT,aZ,aS])
      refine wpAnyH_take (i := 20) (v := ?_) rfl (by kernel_rfl) (by kernel_rfl) (by kernel_rfl) (fun _ _ _ h => by cases h.1) (.inl ⟨by rfl,?_⟩) (by assumption) ?_
      rotate_left
      · (intro w' hSw; (try dsimp only at hSw); skip; go_simp <;> with_reducible rfl)
      (try simp only [Act.put,aT,aZ,aS])
      refine wpAnyH_take (i := 21) (v := ?_) rfl (by kernel_rfl) (by kernel_rfl) (by kernel_rfl) (fun _ _ _ h => by cases h.1) (.inl ⟨by rfl,?_⟩) (by assumption) ?_
      rotate_left
      · (intro w' hSw; (try dsimp only at hSw); skip; go_simp <;> with_reducible rfl)
      (try simp only [Act.put,aT,aZ,aS])
      refine wpAnyH_take (i := 22) (v := ?_) rfl (by kernel_rfl) (by kernel_rfl) (by kernel_rfl) (fun _ _ _ h => by cases h.1) (.inl ⟨by rfl,?_⟩) (by assumption) ?_
      rotate_left
      · (intro w' hSw; (try dsimp only at hSw); skip; go_simp <;> with_reducible rfl)
      (try simp only [Act.put,aT,aZ,aS])
      refine wpAnyH_ready (rs := [23]) (by kernel_rfl) (by simp) ?_
      refine AllReadyH.cons rfl (fun K hK => ?_) ?_
      · have f0 := hB.free 4
        have f1 := hB.free 5
        have z0 := hB.at_ 4 _ (Array.getElem?_eq_getElem (by simp [hcs]))
        have z1 := hB.at_ 5 _ (Array.getElem?_eq_getElem (by simp [hcs]))
        go_simp
        have hS_ : (fun w' => w'.cell? ⟨h,o,none⟩ = some (.int .i64 a0) ∧ w'.cell? ⟨h,o + 1,none⟩ = some (.int .i64 b0) ∧ w'.cell? ⟨h,o + 2,none⟩ = some (.int .i64 a1) ∧ w'.cell? ⟨h,o + 3,none⟩ = some (.int .i64 b1) ∧ w'.cell? ⟨h,o + 4,none⟩ = some (.int .i64 a2) ∧ w'.cell? ⟨h,o + 5,none⟩ = some (.int .i64 b2)) ((wd.setCell ⟨g,4,none⟩ (.int .i64 a2)).setCell ⟨g,5,none⟩ (.int .i64 b2)) := ⟨((cell_other _ g 5 h o _ (Ne.symm hg)).trans (cell_other wd g 4 h o _ (Ne.symm hg))).trans hS.1,((cell_other _ g 5 h (o + 1) _ (Ne.symm hg)).trans (cell_other wd g 4 h (o + 1) _ (Ne.symm hg))).trans hS.2.1,((cell_other _ g 5 h (o + 2) _ (Ne.symm hg)).trans (cell_other wd g 4 h (o + 2) _ (Ne.symm hg))).trans hS.2.2.1,((cell_other _ g 5 h (o + 3) _ (Ne.symm hg)).trans (cell_other wd g 4 h (o + 3) _ (Ne.symm hg))).trans hS.2.2.2.1,((cell_other _ g 5 h (o + 4) _ (Ne.symm hg)).trans (cell_other wd g 4 h (o + 4) _ (Ne.symm hg))).trans hS.2.2.2.2.1,((cell_other _ g 5 h (o + 5) _ (Ne.symm hg)).trans (cell_other wd g 4 h (o + 5) _ (Ne.symm hg))).trans hS.2.2.2.2.2⟩
        have hB_ := (hB.put 4 (.int .i64 a2)).put 5 (.int .i64 b2)
        have hP_ := (hP.put1 4 (.int .i64 a2)).put1 5 (.int .i64 b2)
        refine hK.out _ _ hS_ (fun _ => ?_)
        clear f0 f1 z0 z1 hS hB hP
        have hS := hS_
        have hB := hB_
        have hP := hP_
        clear hS_ hB_ hP_
        generalize (wd.setCell _ _).setCell _ _ = wd at hS hB hP ⊢
        clear hK K
        (try simp only [Act.put,aT,aZ,aS])
        refine wpAnyH_done (by kernel_rfl) ?_ _
        exact ⟨rfl,_,_,_,_,_,_,_,_,_,_,_,_,_,_,_,_,_,_,_,_,_,rfl,hB,hP,hS⟩
      exact AllReadyH.nil
    exact AllReadyH.nil
  exact AllReadyH.nil
end Go.Proofs.YtljefjngmembkaaGreatDoor
/- What takes the second line. -/
namespace Go.Proofs.YtljefjngmembkaaGreatDoor
set_option linter.all false
open Go.RowKit
set_option maxHeartbeats 4000000 in
set_option maxRecDepth 100000 in
theorem take2_any (a0 b0 a1 b1 a2 b2 a3 b3 : Int) (g h o rc : Nat) (h2 o2 nc : Nat) (le : Int) (hg2 : h2 ≠ g) (cs : Array Value) (hcs : cs.size = 18) (w : World) (hb : Bk w g 30 cs) (hg : h ≠ g) (hx : w.cell? ⟨h,o,none⟩ = some (.int .i64 a0) ∧ w.cell? ⟨h,o + 1,none⟩ = some (.int .i64 b0) ∧ w.cell? ⟨h,o + 2,none⟩ = some (.int .i64 a1) ∧ w.cell? ⟨h,o + 3,none⟩ = some (.int .i64 b1) ∧ w.cell? ⟨h,o + 4,none⟩ = some (.int .i64 a2) ∧ w.cell? ⟨h,o + 5,none⟩ = some (.int .i64 b2) ∧ w.cell? ⟨h,o + 6,none⟩ = some (.int .i64 a3) ∧ w.cell? ⟨h,o + 7,none⟩ = some (.int .i64 b3) ∧ w.cell? ⟨h2,o2,none⟩ = some (.int .i64 le)) :
    Calls Tryz.prog 78 #[.pointer (some ⟨g,0,none⟩),.slice (some ⟨h,o,none⟩) 4 rc,.slice (some ⟨h2,o2,none⟩) 1 nc] w fun e w' => e = .returned (.tuple #[]) ∧ Bk w' g 30 (((((((((cs.setIfInBounds 6 (.int .i64 a0)).setIfInBounds 7 (.int .i64 b0)).setIfInBounds 8 (.int .i64 a1)).setIfInBounds 9 (.int .i64 b1)).setIfInBounds 10 (.int .i64 a2)).setIfInBounds 11 (.int .i64 b2)).setIfInBounds 12 (.int .i64 a3)).setIfInBounds 13 (.int .i64 b3)).setIfInBounds 14 (.int .i64 le)) ∧ PB g w.heap.size w w' := by
  have hgb : g < w.heap.size := hb.lt
  have hS : (fun w' => w'.cell? ⟨h,o,none⟩ = some (.int .i64 a0) ∧ w'.cell? ⟨h,o + 1,none⟩ = some (.int .i64 b0) ∧ w'.cell? ⟨h,o + 2,none⟩ = some (.int .i64 a1) ∧ w'.cell? ⟨h,o + 3,none⟩ = some (.int .i64 b1) ∧ w'.cell? ⟨h,o + 4,none⟩ = some (.int .i64 a2) ∧ w'.cell? ⟨h,o + 5,none⟩ = some (.int .i64 b2) ∧ w'.cell? ⟨h,o + 6,none⟩ = some (.int .i64 a3) ∧ w'.cell? ⟨h,o + 7,none⟩ = some (.int .i64 b3) ∧ w'.cell? ⟨h2,o2,none⟩ = some (.int .i64 le)) w.drew := hx
  have hP : PB g w.heap.size w w.drew := PB.of (Below.refl _ _).drew
  clear hx
  go_enter Tryz.func78,Tryz.ntmps78
  go_wp2_with fail
  refine region_via (R := fun a_ e_ a' w' => e_ = .normal ∧ ∃ (v6 v7 v8 v9 v10 v11 v12 v13 v14 v15 v16 v17 v18 v19 v20 v21 v22 v23 v24 v25 v26 v27 v28 v29 v30 v31 v32 v33 : Value),a' = ((((((((((((((((((((((((((((a_.put (some 6) v6).put (some 7) v7).put (some 8) v8).put (some 9) v9).put (some 10) v10).put (some 11) v11).put (some 12) v12).put (some 13) v13).put (some 14) v14).put (some 15) v15).put (some 16) v16).put (some 17) v17).put (some 18) v18).put (some 19) v19).put (some 20) v20).put (some 21) v21).put (some 22) v22).put (some 23) v23).put (some 24) v24).put (some 25) v25).put (some 26) v26).put (some 27) v27).put (some 28) v28).put (some 29) v29).put (some 30) v30).put (some 31) v31).put (some 32) v32).put (some 33) v33) ∧ Bk w' g 30 ((((((((cs.setIfInBounds 6 (.int .i64 a0)).setIfInBounds 7 (.int .i64 b0)).setIfInBounds 8 (.int .i64 a1)).setIfInBounds 9 (.int .i64 b1)).setIfInBounds 10 (.int .i64 a2)).setIfInBounds 11 (.int .i64 b2)).setIfInBounds 12 (.int .i64 a3)).setIfInBounds 13 (.int .i64 b3)) ∧ PB g w.heap.size w w' ∧ w'.cell? ⟨h,o,none⟩ = some (.int .i64 a0) ∧ w'.cell? ⟨h,o + 1,none⟩ = some (.int .i64 b0) ∧ w'.cell? ⟨h,o + 2,none⟩ = some (.int .i64 a1) ∧ w'.cell? ⟨h,o + 3,none⟩ = some (.int .i64 b1) ∧ w'.cell? ⟨h,o + 4,none⟩ = some (.int .i64 a2) ∧ w'.cell? ⟨h,o + 5,none⟩ = some (.int .i64 b2) ∧ w'.cell? ⟨h,o + 6,none⟩ = some (.int .i64 a3) ∧ w'.cell? ⟨h,o + 7,none⟩ = some (.int .i64 b3) ∧ w'.cell? ⟨h2,o2,none⟩ = some (.int .i64 le)) ?_ ?_
  rotate_left
  · rintro e_ a' w' ⟨rfl,v6,v7,v8,v9,v10,v11,v12,v13,v14,v15,v16,v17,v18,v19,v20,v21,v22,v23,v24,v25,v26,v27,v28,v29,v30,v31,v32,v33,rfl,h1,hp2,h3⟩
    simp only [Act.put,aT,aZ,aS]
    have HB' := hidMk h1
    have HP' := hidMk hp2
    have hle := h3.2.2.2.2.2.2.2.2
    clear h1 hp2 h3 hb hS hP
    have f0 := HB'.out.free 14
    have z0 := HB'.out.at_ 14 _ (Array.getElem?_eq_getElem (by simp [hcs]))
    go_wp2_with fail
    refine bodyPost_end (v := .tuple #[]) (by simp [results,Tryz.results78,go_sem]) rfl ⟨rfl,HB'.out.put 14 (.int .i64 le),HP'.out.put1 14 (.int .i64 le)⟩
  refine wp_region_held_drew (S := (fun w' => w'.cell? ⟨h,o,none⟩ = some (.int .i64 a0) ∧ w'.cell? ⟨h,o + 1,none⟩ = some (.int .i64 b0) ∧ w'.cell? ⟨h,o + 2,none⟩ = some (.int .i64 a1) ∧ w'.cell? ⟨h,o + 3,none⟩ = some (.int .i64 b1) ∧ w'.cell? ⟨h,o + 4,none⟩ = some (.int .i64 a2) ∧ w'.cell? ⟨h,o + 5,none⟩ = some (.int .i64 b2) ∧ w'.cell? ⟨h,o + 6,none⟩ = some (.int .i64 a3) ∧ w'.cell? ⟨h,o + 7,none⟩ = some (.int .i64 b3) ∧ w'.cell? ⟨h2,o2,none⟩ = some (.int .i64 le))) (by kernel_rfl) hS (fun hS0 => ?_)
  clear hS0
  have hB : Bk w.drew g 30 cs := hb
  clear hb
  generalize w.drew = wd at hS hB hP ⊢
  refine wpAnyH_take (i := 0) (v := ?_) rfl (by kernel_rfl) (by kernel_rfl) (by kernel_rfl) (fun _ _ _ h => by cases h.1) (.inl ⟨by rfl,?_⟩) (by assumption) ?_
  rotate_left
  · (intro w' hSw; (try dsimp only at hSw); skip; go_simp <;> with_reducible rfl)
  (try simp only [Act.put,aT,aZ,aS])
  refine wpAnyH_take (i := 1) (v := ?_) rfl (by kernel_rfl) (by kernel_rfl) (by kernel_rfl) (fun _ _ _ h => by cases h.1) (.inl ⟨by rfl,?_⟩) (by assumption) ?_
  rotate_left
  · (intro w' hSw; (try dsimp only at hSw); skip; go_simp <;> with_reducible rfl)
  (try simp only [Act.put,aT,aZ,aS])
  refine wpAnyH_take (i := 2) (v := ?_) rfl (by kernel_rfl) (by kernel_rfl) (by kernel_rfl) (fun _ _ _ h => by cases h.1) (.inl ⟨by rfl,?_⟩) (by assumption) ?_
  rotate_left
  · (intro w' hSw; (try dsimp only at hSw); skip; go_simp <;> with_reducible rfl)
  (try simp only [Act.put,aT,aZ,aS])
  refine wpAnyH_take (i := 3) (v := ?_) rfl (by kernel_rfl) (by kernel_rfl) (by kernel_rfl) (fun _ _ _ h => by cases h.1) (.inl ⟨by rfl,?_⟩) (by assumption) ?_
  rotate_left
  · (intro w' hSw; (try dsimp only at hSw); skip; go_simp <;> with_reducible rfl)
  (try simp only [Act.put,aT,aZ,aS])
  refine wpAnyH_take (i := 4) (v := ?_) rfl (by kernel_rfl) (by kernel_rfl) (by kernel_rfl) (fun _ _ _ h => by cases h.1) (.inl ⟨by rfl,?_⟩) (by assumption) ?_
  rotate_left
  · (intro w' hSw; (try dsimp only at hSw); skip; go_simp <;> with_reducible rfl)
  (try simp only [Act.put,aT,aZ,aS])
  refine wpAnyH_take (i := 5) (v := ?_) rfl (by kernel_rfl) (by kernel_rfl) (by kernel_rfl) (fun _ _ _ h => by cases h.1) (.inl ⟨by rfl,?_⟩) (by assumption) ?_
  rotate_left
  · (intro w' hSw; (try dsimp only at hSw); skip; go_simp <;> with_reducible rfl)
  (try simp only [Act.put,aT,aZ,aS])
  refine wpAnyH_take (i := 6) (v := ?_) rfl (by kernel_rfl) (by kernel_rfl) (by kernel_rfl) (fun _ _ _ h => by cases h.1) (.inl ⟨by rfl,?_⟩) (by assumption) ?_
  rotate_left
  · (intro w' hSw; (try dsimp only at hSw); (have q0 := hSw.1; have q1 := hSw.2.1); go_simp <;> with_reducible rfl)
  (try simp only [Act.put,aT,aZ,aS])
  refine wpAnyH_take (i := 7) (v := ?_) rfl (by kernel_rfl) (by kernel_rfl) (by kernel_rfl) (fun _ _ _ h => by cases h.1) (.inl ⟨by rfl,?_⟩) (by assumption) ?_
  rotate_left
  · (intro w' hSw; (try dsimp only at hSw); skip; go_simp <;> with_reducible rfl)
  (try simp only [Act.put,aT,aZ,aS])
  refine wpAnyH_take (i := 8) (v := ?_) rfl (by kernel_rfl) (by kernel_rfl) (by kernel_rfl) (fun _ _ _ h => by cases h.1) (.inl ⟨by rfl,?_⟩) (by assumption) ?_
  rotate_left
  · (intro w' hSw; (try dsimp only at hSw); skip; go_simp <;> with_reducible rfl)
  (try simp only [Act.put,aT,aZ,aS])
  refine wpAnyH_take (i := 9) (v := ?_) rfl (by kernel_rfl) (by kernel_rfl) (by kernel_rfl) (fun _ _ _ h => by cases h.1) (.inl ⟨by rfl,?_⟩) (by assumption) ?_
  rotate_left
  · (intro w' hSw; (try dsimp only at hSw); (have q0 := hSw.2.2.1; have q1 := hSw.2.2.2.1); go_simp <;> with_reducible rfl)
  (try simp only [Act.put,aT,aZ,aS])
  refine wpAnyH_take (i := 10) (v := ?_) rfl (by kernel_rfl) (by kernel_rfl) (by kernel_rfl) (fun _ _ _ h => by cases h.1) (.inl ⟨by rfl,?_⟩) (by assumption) ?_
  rotate_left
  · (intro w' hSw; (try dsimp only at hSw); skip; go_simp <;> with_reducible rfl)
  (try simp only [Act.put,aT,aZ,aS])
  refine wpAnyH_take (i := 11) (v := ?_) rfl (by kernel_rfl) (by kernel_rfl) (by kernel_rfl) (fun _ _ _ h => by cases h.1) (.inl ⟨by rfl,?_⟩) (by assumption) ?_
  rotate_left
  · (intro w' hSw; (try dsimp only at hSw); skip; go_simp <;> with_reducible rfl)
  (try simp only [Act.put,aT,aZ,aS])
  refine wpAnyH_take (i := 12) (v := ?_) rfl (by kernel_rfl) (by kernel_rfl) (by kernel_rfl) (fun _ _ _ h => by cases h.1) (.inl ⟨by rfl,?_⟩) (by assumption) ?_
  rotate_left
  · (intro w' hSw; (try dsimp only at hSw); (have q0 := hSw.2.2.2.2.1; have q1 := hSw.2.2.2.2.2.1); go_simp <;> with_reducible rfl)
  (try simp only [Act.put,aT,aZ,aS])
  refine wpAnyH_take (i := 13) (v := ?_) rfl (by kernel_rfl) (by kernel_rfl) (by kernel_rfl) (fun _ _ _ h => by cases h.1) (.inl ⟨by rfl,?_⟩) (by assumption) ?_
  rotate_left
  · (intro w' hSw; (try dsimp only at hSw); skip; go_simp <;> with_reducible rfl)
  (try simp only [Act.put,aT,aZ,aS])
  refine wpAnyH_take (i := 14) (v := ?_) rfl (by kernel_rfl) (by kernel_rfl) (by kernel_rfl) (fun _ _ _ h => by cases h.1) (.inl ⟨by rfl,?_⟩) (by assumption) ?_
  rotate_left
  · (intro w' hSw; (try dsimp only at hSw); skip; go_simp <;> with_reducible rfl)
  (try simp only [Act.put,aT,aZ,aS])
  refine wpAnyH_take (i := 15) (v := ?_) rfl (by kernel_rfl) (by kernel_rfl) (by kernel_rfl) (fun _ _ _ h => by cases h.1) (.inl ⟨by rfl,?_⟩) (by assumption) ?_
  rotate_left
  · (intro w' hSw; (try dsimp only at hSw); (have q0 := hSw.2.2.2.2.2.2.1; have q1 := hSw.2.2.2.2.2.2.2.1); go_simp <;> with_reducible rfl)
  (try simp only [Act.put,aT,aZ,aS])
  refine wpAnyH_take (i := 16) (v := ?_) rfl (by kernel_rfl) (by kernel_rfl) (by kernel_rfl) (fun _ _ _ h => by cases h.1) (.inl ⟨by rfl,?_⟩) (by assumption) ?_
  rotate_left
  · (intro w' hSw; (try dsimp only at hSw); skip; go_simp <;> with_reducible rfl)
  (try simp only [Act.put,aT,aZ,aS])
  refine wpAnyH_take (i := 17) (v := ?_) rfl (by kernel_rfl) (by kernel_rfl) (by kernel_rfl) (fun _ _ _ h => by cases h.1) (.inl ⟨by rfl,?_⟩) (by assumption) ?_
  rotate_left
  · (intro w' hSw; (try dsimp only at hSw); skip; go_simp <;> with_reducible rfl)
  (try simp only [Act.put,aT,aZ,aS])
  refine wpAnyH_take (i := 18) (v := ?_) rfl (by kernel_rfl) (by kernel_rfl) (by kernel_rfl) (fun _ _ _ h => by cases h.1) (.inl ⟨by rfl,?_⟩) (by assumption) ?_
  rotate_left
  · (intro w' hSw; (try dsimp only at hSw); skip; go_simp <;> with_reducible rfl)
  (try simp only [Act.put,aT,aZ,aS])
  refine wpAnyH_ready (rs := [19]) (by kernel_rfl) (by simp) ?_
  refine AllReadyH.cons rfl (fun K hK => ?_) ?_
  · have f0 := hB.free 6
    have f1 := hB.free 7
    have z0 := hB.at_ 6 _ (Array.getElem?_eq_getElem (by simp [hcs]))
    have z1 := hB.at_ 7 _ (Array.getElem?_eq_getElem (by simp [hcs]))
    go_simp
    have hS_ : (fun w' => w'.cell? ⟨h,o,none⟩ = some (.int .i64 a0) ∧ w'.cell? ⟨h,o + 1,none⟩ = some (.int .i64 b0) ∧ w'.cell? ⟨h,o + 2,none⟩ = some (.int .i64 a1) ∧ w'.cell? ⟨h,o + 3,none⟩ = some (.int .i64 b1) ∧ w'.cell? ⟨h,o + 4,none⟩ = some (.int .i64 a2) ∧ w'.cell? ⟨h,o + 5,none⟩ = some (.int .i64 b2) ∧ w'.cell? ⟨h,o + 6,none⟩ = some (.int .i64 a3) ∧ w'.cell? ⟨h,o + 7,none⟩ = some (.int .i64 b3) ∧ w'.cell? ⟨h2,o2,none⟩ = some (.int .i64 le)) ((wd.setCell ⟨g,6,none⟩ (.int .i64 a0)).setCell ⟨g,7,none⟩ (.int .i64 b0)) := ⟨((cell_other _ g 7 h o _ (Ne.symm hg)).trans (cell_other wd g 6 h o _ (Ne.symm hg))).trans hS.1,((cell_other _ g 7 h (o + 1) _ (Ne.symm hg)).trans (cell_other wd g 6 h (o + 1) _ (Ne.symm hg))).trans hS.2.1,((cell_other _ g 7 h (o + 2) _ (Ne.symm hg)).trans (cell_other wd g 6 h (o + 2) _ (Ne.symm hg))).trans hS.2.2.1,((cell_other _ g 7 h (o + 3) _ (Ne.symm hg)).trans (cell_other wd g 6 h (o + 3) _ (Ne.symm hg))).trans hS.2.2.2.1,((cell_other _ g 7 h (o + 4) _ (Ne.symm hg)).trans (cell_other wd g 6 h (o + 4) _ (Ne.symm hg))).trans hS.2.2.2.2.1,((cell_other _ g 7 h (o + 5) _ (Ne.symm hg)).trans (cell_other wd g 6 h (o + 5) _ (Ne.symm hg))).trans hS.2.2.2.2.2.1,((cell_other _ g 7 h (o + 6) _ (Ne.symm hg)).trans (cell_other wd g 6 h (o + 6) _ (Ne.symm hg))).trans hS.2.2.2.2.2.2.1,((cell_other _ g 7 h (o + 7) _ (Ne.symm hg)).trans (cell_other wd g 6 h (o + 7) _ (Ne.symm hg))).trans hS.2.2.2.2.2.2.2.1,((cell_other _ g 7 h2 o2 _ (Ne.symm hg2)).trans (cell_other wd g 6 h2 o2 _ (Ne.symm hg2))).trans hS.2.2.2.2.2.2.2.2⟩
    have hB_ := (hB.put 6 (.int .i64 a0)).put 7 (.int .i64 b0)
    have hP_ := (hP.put1 6 (.int .i64 a0)).put1 7 (.int .i64 b0)
    refine hK.out _ _ hS_ (fun _ => ?_)
    clear f0 f1 z0 z1 hS hB hP
    have hS := hS_
    have hB := hB_
    have hP := hP_
    clear hS_ hB_ hP_
    generalize (wd.setCell _ _).setCell _ _ = wd at hS hB hP ⊢
    clear hK K
    (try simp only [Act.put,aT,aZ,aS])
    refine wpAnyH_take (i := 20) (v := ?_) rfl (by kernel_rfl) (by kernel_rfl) (by kernel_rfl) (fun _ _ _ h => by cases h.1) (.inl ⟨by rfl,?_⟩) (by assumption) ?_
    rotate_left
    · (intro w' hSw; (try dsimp only at hSw); skip; go_simp <;> with_reducible rfl)
    (try simp only [Act.put,aT,aZ,aS])
    refine wpAnyH_take (i := 21) (v := ?_) rfl (by kernel_rfl) (by kernel_rfl) (by kernel_rfl) (fun _ _ _ h => by cases h.1) (.inl ⟨by rfl,?_⟩) (by assumption) ?_
    rotate_left
    · (intro w' hSw; (try dsimp only at hSw); skip; go_simp <;> with_reducible rfl)
    (try simp only [Act.put,aT,aZ,aS])
    refine wpAnyH_take (i := 22) (v := ?_) rfl (by kernel_rfl) (by kernel_rfl) (by kernel_rfl) (fun _ _ _ h => by cases h.1) (.inl ⟨by rfl,?_⟩) (by assumption) ?_
    rotate_left
    · (intro w' hSw; (try dsimp only at hSw); skip; go_simp <;> with_reducible rfl)
    (try simp only [Act.put,aT,aZ,aS])
    refine wpAnyH_ready (rs := [23]) (by kernel_rfl) (by simp) ?_
    refine AllReadyH.cons rfl (fun K hK => ?_) ?_
    · have f0 := hB.free 8
      have f1 := hB.free 9
      have z0 := hB.at_ 8 _ (Array.getElem?_eq_getElem (by simp [hcs]))
      have z1 := hB.at_ 9 _ (Array.getElem?_eq_getElem (by simp [hcs]))
      go_simp
      have hS_ : (fun w' => w'.cell? ⟨h,o,none⟩ = some (.int .i64 a0) ∧ w'.cell? ⟨h,o + 1,none⟩ = some (.int .i64 b0) ∧ w'.cell? ⟨h,o + 2,none⟩ = some (.int .i64 a1) ∧ w'.cell? ⟨h,o + 3,none⟩ = some (.int .i64 b1) ∧ w'.cell? ⟨h,o + 4,none⟩ = some (.int .i64 a2) ∧ w'.cell? ⟨h,o + 5,none⟩ = some (.int .i64 b2) ∧ w'.cell? ⟨h,o + 6,none⟩ = some (.int .i64 a3) ∧ w'.cell? ⟨h,o + 7,none⟩ = some (.int .i64 b3) ∧ w'.cell? ⟨h2,o2,none⟩ = some (.int .i64 le)) ((wd.setCell ⟨g,8,none⟩ (.int .i64 a1)).setCell ⟨g,9,none⟩ (.int .i64 b1)) := ⟨((cell_other _ g 9 h o _ (Ne.symm hg)).trans (cell_other wd g 8 h o _ (Ne.symm hg))).trans hS.1,((cell_other _ g 9 h (o + 1) _ (Ne.symm hg)).trans (cell_other wd g 8 h (o + 1) _ (Ne.symm hg))).trans hS.2.1,((cell_other _ g 9 h (o + 2) _ (Ne.symm hg)).trans (cell_other wd g 8 h (o + 2) _ (Ne.symm hg))).trans hS.2.2.1,((cell_other _ g 9 h (o + 3) _ (Ne.symm hg)).trans (cell_other wd g 8 h (o + 3) _ (Ne.symm hg))).trans hS.2.2.2.1,((cell_other _ g 9 h (o + 4) _ (Ne.symm hg)).trans (cell_other wd g 8 h (o + 4) _ (Ne.symm hg))).trans hS.2.2.2.2.1,((cell_other _ g 9 h (o + 5) _ (Ne.symm hg)).trans (cell_other wd g 8 h (o + 5) _ (Ne.symm hg))).trans hS.2.2.2.2.2.1,((cell_other _ g 9 h (o + 6) _ (Ne.symm hg)).trans (cell_other wd g 8 h (o + 6) _ (Ne.symm hg))).trans hS.2.2.2.2.2.2.1,((cell_other _ g 9 h (o + 7) _ (Ne.symm hg)).trans (cell_other wd g 8 h (o + 7) _ (Ne.symm hg))).trans hS.2.2.2.2.2.2.2.1,((cell_other _ g 9 h2 o2 _ (Ne.symm hg2)).trans (cell_other wd g 8 h2 o2 _ (Ne.symm hg2))).trans hS.2.2.2.2.2.2.2.2⟩
      have hB_ := (hB.put 8 (.int .i64 a1)).put 9 (.int .i64 b1)
      have hP_ := (hP.put1 8 (.int .i64 a1)).put1 9 (.int .i64 b1)
      refine hK.out _ _ hS_ (fun _ => ?_)
      clear f0 f1 z0 z1 hS hB hP
      have hS := hS_
      have hB := hB_
      have hP := hP_
      clear hS_ hB_ hP_
      generalize (wd.setCell _ _).setCell _ _ = wd at hS hB hP ⊢
      clear hK K
      (try simp only [Act.put,aT,aZ,aS])
      refine wpAnyH_take (i := 24) (v := ?_) rfl (by kernel_rfl) (by kernel_rfl) (by kernel_rfl) (fun _ _ _ h => by cases h.1) (.inl ⟨by rfl,?_⟩) (by assumption) ?_
      rotate_left
      · (intro w' hSw; (try dsimp only at hSw); skip; go_simp <;> with_reducible rfl)
      (try simp only [Act.put,aT,aZ,aS])
      refine wpAnyH_take (i := 25) (v := ?_) rfl (by kernel_rfl) (by kernel_rfl) (by kernel_rfl) (fun _ _ _ h => by cases h.1) (.inl ⟨by rfl,?_⟩) (by assumption) ?_
      rotate_left
      · (intro w' hSw; (try dsimp only at hSw); skip; go_simp <;> with_reducible rfl)
      (try simp only [Act.put,aT,aZ,aS])
      refine wpAnyH_take (i := 26) (v := ?_) rfl (by kernel_rfl) (by kernel_rfl) (by kernel_rfl) (fun _ _ _ h => by cases h.1) (.inl ⟨by rfl,?_⟩) (by assumption) ?_
      rotate_left
      · (intro w' hSw; (try dsimp only at hSw); skip; go_simp <;> with_reducible rfl)
      (try simp only [Act.put,aT,aZ,aS])
      refine wpAnyH_ready (rs := [27]) (by kernel_rfl) (by simp) ?_
      refine AllReadyH.cons rfl (fun K hK => ?_) ?_
      · have f0 := hB.free 10
        have f1 := hB.free 11
        have z0 := hB.at_ 10 _ (Array.getElem?_eq_getElem (by simp [hcs]))
        have z1 := hB.at_ 11 _ (Array.getElem?_eq_getElem (by simp [hcs]))
        go_simp
        have hS_ : (fun w' => w'.cell? ⟨h,o,none⟩ = some (.int .i64 a0) ∧ w'.cell? ⟨h,o + 1,none⟩ = some (.int .i64 b0) ∧ w'.cell? ⟨h,o + 2,none⟩ = some (.int .i64 a1) ∧ w'.cell? ⟨h,o + 3,none⟩ = some (.int .i64 b1) ∧ w'.cell? ⟨h,o + 4,none⟩ = some (.int .i64 a2) ∧ w'.cell? ⟨h,o + 5,none⟩ = some (.int .i64 b2) ∧ w'.cell? ⟨h,o + 6,none⟩ = some (.int .i64 a3) ∧ w'.cell? ⟨h,o + 7,none⟩ = some (.int .i64 b3) ∧ w'.cell? ⟨h2,o2,none⟩ = some (.int .i64 le)) ((wd.setCell ⟨g,10,none⟩ (.int .i64 a2)).setCell ⟨g,11,none⟩ (.int .i64 b2)) := ⟨((cell_other _ g 11 h o _ (Ne.symm hg)).trans (cell_other wd g 10 h o _ (Ne.symm hg))).trans hS.1,((cell_other _ g 11 h (o + 1) _ (Ne.symm hg)).trans (cell_other wd g 10 h (o + 1) _ (Ne.symm hg))).trans hS.2.1,((cell_other _ g 11 h (o + 2) _ (Ne.symm hg)).trans (cell_other wd g 10 h (o + 2) _ (Ne.symm hg))).trans hS.2.2.1,((cell_other _ g 11 h (o + 3) _ (Ne.symm hg)).trans (cell_other wd g 10 h (o + 3) _ (Ne.symm hg))).trans hS.2.2.2.1,((cell_other _ g 11 h (o + 4) _ (Ne.symm hg)).trans (cell_other wd g 10 h (o + 4) _ (Ne.symm hg))).trans hS.2.2.2.2.1,((cell_other _ g 11 h (o + 5) _ (Ne.symm hg)).trans (cell_other wd g 10 h (o + 5) _ (Ne.symm hg))).trans hS.2.2.2.2.2.1,((cell_other _ g 11 h (o + 6) _ (Ne.symm hg)).trans (cell_other wd g 10 h (o + 6) _ (Ne.symm hg))).trans hS.2.2.2.2.2.2.1,((cell_other _ g 11 h (o + 7) _ (Ne.symm hg)).trans (cell_other wd g 10 h (o + 7) _ (Ne.symm hg))).trans hS.2.2.2.2.2.2.2.1,((cell_other _ g 11 h2 o2 _ (Ne.symm hg2)).trans (cell_other wd g 10 h2 o2 _ (Ne.symm hg2))).trans hS.2.2.2.2.2.2.2.2⟩
        have hB_ := (hB.put 10 (.int .i64 a2)).put 11 (.int .i64 b2)
        have hP_ := (hP.put1 10 (.int .i64 a2)).put1 11 (.int .i64 b2)
        refine hK.out _ _ hS_ (fun _ => ?_)
        clear f0 f1 z0 z1 hS hB hP
        have hS := hS_
        have hB := hB_
        have hP := hP_
        clear hS_ hB_ hP_
        generalize (wd.setCell _ _).setCell _ _ = wd at hS hB hP ⊢
        clear hK K
        (try simp only [Act.put,aT,aZ,aS])
        refine wpAnyH_take (i := 28) (v := ?_) rfl (by kernel_rfl) (by kernel_rfl) (by kernel_rfl) (fun _ _ _ h => by cases h.1) (.inl ⟨by rfl,?_⟩) (by assumption) ?_
        rotate_left
        · (intro w' hSw; (try dsimp only at hSw); skip; go_simp <;> with_reducible rfl)
        (try simp only [Act.put,aT,aZ,aS])
        refine wpAnyH_take (i := 29) (v := ?_) rfl (by kernel_rfl) (by kernel_rfl) (by kernel_rfl) (fun _ _ _ h => by cases h.1) (.inl ⟨by rfl,?_⟩) (by assumption) ?_
        rotate_left
        · (intro w' hSw; (try dsimp only at hSw); skip; go_simp <;> with_reducible rfl)
        (try simp only [Act.put,aT,aZ,aS])
        refine wpAnyH_take (i := 30) (v := ?_) rfl (by kernel_rfl) (by kernel_rfl) (by kernel_rfl) (fun _ _ _ h => by cases h.1) (.inl ⟨by rfl,?_⟩) (by assumption) ?_
        rotate_left
        · (intro w' hSw; (try dsimp only at hSw); skip; go_simp <;> with_reducible rfl)
        (try simp only [Act.put,aT,aZ,aS])
        refine wpAnyH_ready (rs := [31]) (by kernel_rfl) (by simp) ?_
        refine AllReadyH.cons rfl (fun K hK => ?_) ?_
        · have f0 := hB.free 12
          have f1 := hB.free 13
          have z0 := hB.at_ 12 _ (Array.getElem?_eq_getElem (by simp [hcs]))
          have z1 := hB.at_ 13 _ (Array.getElem?_eq_getElem (by simp [hcs]))
          go_simp
          have hS_ : (fun w' => w'.cell? ⟨h,o,none⟩ = some (.int .i64 a0) ∧ w'.cell? ⟨h,o + 1,none⟩ = some (.int .i64 b0) ∧ w'.cell? ⟨h,o + 2,none⟩ = some (.int .i64 a1) ∧ w'.cell? ⟨h,o + 3,none⟩ = some (.int .i64 b1) ∧ w'.cell? ⟨h,o + 4,none⟩ = some (.int .i64 a2) ∧ w'.cell? ⟨h,o + 5,none⟩ = some (.int .i64 b2) ∧ w'.cell? ⟨h,o + 6,none⟩ = some (.int .i64 a3) ∧ w'.cell? ⟨h,o + 7,none⟩ = some (.int .i64 b3) ∧ w'.cell? ⟨h2,o2,none⟩ = some (.int .i64 le)) ((wd.setCell ⟨g,12,none⟩ (.int .i64 a3)).setCell ⟨g,13,none⟩ (.int .i64 b3)) := ⟨((cell_other _ g 13 h o _ (Ne.symm hg)).trans (cell_other wd g 12 h o _ (Ne.symm hg))).trans hS.1,((cell_other _ g 13 h (o + 1) _ (Ne.symm hg)).trans (cell_other wd g 12 h (o + 1) _ (Ne.symm hg))).trans hS.2.1,((cell_other _ g 13 h (o + 2) _ (Ne.symm hg)).trans (cell_other wd g 12 h (o + 2) _ (Ne.symm hg))).trans hS.2.2.1,((cell_other _ g 13 h (o + 3) _ (Ne.symm hg)).trans (cell_other wd g 12 h (o + 3) _ (Ne.symm hg))).trans hS.2.2.2.1,((cell_other _ g 13 h (o + 4) _ (Ne.symm hg)).trans (cell_other wd g 12 h (o + 4) _ (Ne.symm hg))).trans hS.2.2.2.2.1,((cell_other _ g 13 h (o + 5) _ (Ne.symm hg)).trans (cell_other wd g 12 h (o + 5) _ (Ne.symm hg))).trans hS.2.2.2.2.2.1,((cell_other _ g 13 h (o + 6) _ (Ne.symm hg)).trans (cell_other wd g 12 h (o + 6) _ (Ne.symm hg))).trans hS.2.2.2.2.2.2.1,((cell_other _ g 13 h (o + 7) _ (Ne.symm hg)).trans (cell_other wd g 12 h (o + 7) _ (Ne.symm hg))).trans hS.2.2.2.2.2.2.2.1,((cell_other _ g 13 h2 o2 _ (Ne.symm hg2)).trans (cell_other wd g 12 h2 o2 _ (Ne.symm hg2))).trans hS.2.2.2.2.2.2.2.2⟩
          have hB_ := (hB.put 12 (.int .i64 a3)).put 13 (.int .i64 b3)
          have hP_ := (hP.put1 12 (.int .i64 a3)).put1 13 (.int .i64 b3)
          refine hK.out _ _ hS_ (fun _ => ?_)
          clear f0 f1 z0 z1 hS hB hP
          have hS := hS_
          have hB := hB_
          have hP := hP_
          clear hS_ hB_ hP_
          generalize (wd.setCell _ _).setCell _ _ = wd at hS hB hP ⊢
          clear hK K
          (try simp only [Act.put,aT,aZ,aS])
          refine wpAnyH_done (by kernel_rfl) ?_ _
          exact ⟨rfl,_,_,_,_,_,_,_,_,_,_,_,_,_,_,_,_,_,_,_,_,_,_,_,_,_,_,_,_,rfl,hB,hP,hS⟩
        exact AllReadyH.nil
      exact AllReadyH.nil
    exact AllReadyH.nil
  exact AllReadyH.nil
end Go.Proofs.YtljefjngmembkaaGreatDoor
/- What Shortest hands back. -/
namespace Go.Proofs.YtljefjngmembkaaGreatDoor
set_option linter.all false
open Go.RowKit
end Go.Proofs.YtljefjngmembkaaGreatDoor
/- The second of two parts of code. -/
namespace Go.Proofs.YtljefjngmembkaaGreatDoor
set_option linter.all false
open Go
def sndB : Code → Code
  | .seq _ b => b
  | c => c
end Go.Proofs.YtljefjngmembkaaGreatDoor
