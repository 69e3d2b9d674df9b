/- Part 18 of the proof: TxO, TxP. -/
import Derived.Maps.AppendAt
import Derived.Test.YtljefjngmembkaaGreatDoorW15
import Derived.Test.YtljefjngmembkaaGreatDoorW17
/- What takes a line that may be repeated; a job as it is read so far. -/
namespace Go.Proofs.YtljefjngmembkaaGreatDoor
set_option linter.all false
open Go.RowKit
/-- A job as it is read so far: its cells, its shifts in rows of its own, and what lay below Bs. -/
structure PJ (g Bs : Nat) (w0 : World) (J : Jb) (sv : Value) (w : World) : Prop where
  bk : Bk w g 30 (jobC J sv)
  own : w.ownsRow Bs 23 2 sv J.sh.length (rgCells J.sh)
  pb : PB g Bs w0 w
  lt : g < Bs ∧ Bs ≤ w.heap.size
/-- The same without the row of its shifts. -/
structure PJ0 (g Bs : Nat) (w0 : World) (J : Jb) (sv : Value) (w : World) : Prop where
  bk : Bk w g 30 (jobC J sv)
  pb : PB g Bs w0 w
  lt : g < Bs ∧ Bs ≤ w.heap.size
section
variable {g Bs : Nat} {w0 w w' : World} {J : Jb} {sv v' : Value} {x : R2}
theorem PJ.of (h : PJ g Bs w0 J sv w) {J' : Jb} (he : J'.sh = J.sh) (hb : Bk w' g 30 (jobC J' sv)) (hk : PB g w.heap.size w w') : PJ g Bs w0 J' sv w' := by
  obtain ⟨l1,l2⟩ := h.lt
  refine ⟨hb,?_,h.pb.trans hk l2,l1,Nat.le_trans l2 hk.size⟩
  rw [he]
  exact own_of' h.own (fun q hq hlt => hk.heap q hlt (by omega))
theorem PJ.below (h : PJ g Bs w0 J sv w) {B : Nat} (hb : Below B w w') (hB : w.heap.size ≤ B) : PJ g Bs w0 J sv w' :=
  h.of rfl (h.bk.below hb (by have := h.bk.lt; omega)) (PB.of (hb.mono hB))
theorem PJ.drew (h : PJ g Bs w0 J sv w) : PJ g Bs w0 J sv w.drew := h.below (Below.refl _ _).drew (Nat.le_refl _)
/-- A shift more, in its row, but not yet in the job. -/
def PJx (g Bs : Nat) (w0 : World) (J : Jb) (sv v' : Value) (x : R2) (w : World) : Prop :=
  PJ0 g Bs w0 J sv w ∧ w.ownsRow Bs 23 2 v' (J.sh ++ [x]).length (rgCells (J.sh ++ [x]))
theorem PJ.grown (h : PJ g Bs w0 J sv w) (hown : w'.ownsRow Bs 23 2 v' (J.sh.length + 1) (rgCells J.sh ++ [.int .i64 x.1,.int .i64 x.2])) (hg : w.grownBy w' sv.ownBlock) :
    PJ0 g Bs w0 J sv w' ∧ w'.ownsRow Bs 23 2 v' (J.sh ++ [x]).length (rgCells (J.sh ++ [x])) := by
  obtain ⟨l1,l2⟩ := h.lt
  have hob : ∀ q,sv.ownBlock = some q → Bs ≤ q := fun q hq => (own_block' h.own q hq).1
  have hne : ∀ q,q < Bs → some q ≠ sv.ownBlock := fun q hql e => by have := hob q e.symm; omega
  refine ⟨⟨h.bk.grown hg (hne _ l1),⟨hg.os.trans h.pb.os,hg.tape.trans h.pb.tape,hg.output.trans h.pb.output,Nat.le_trans h.pb.size hg.size,fun q hq hqb => (hg.block q (Nat.lt_of_lt_of_le hq l2) (hne q hq)).trans (h.pb.heap q hq hqb)⟩,l1,Nat.le_trans l2 hg.size⟩,?_⟩
  rw [rgCells_snoc,List.length_append]
  exact hown
theorem PJx.put (h : PJx g Bs w0 J sv v' x w) : PJ g Bs w0 { J with sh := J.sh ++ [x] } v' (w.setCell ⟨g,15,none⟩ v') := by
  obtain ⟨⟨h1,h2,l1,l2⟩,h4⟩ := h
  have hz : w.heap.size ≤ (w.setCell ⟨g,15,none⟩ v').heap.size := by simp
  refine ⟨h1.put 15 v',own_of' h4 (fun q hq _ => Below.heap_setCell w ⟨g,15,none⟩ v' q (by show q ≠ g; omega)),h2.put1 15 v',l1,Nat.le_trans l2 hz⟩
end
set_option maxHeartbeats 1000000 in
set_option maxRecDepth 100000 in
theorem take3_any (x : R2) (g Bs h o rc : Nat) (w0 : World) (J : Jb) (sv na : Value) (w : World) (hJ : PJ g Bs w0 J sv w) (hx : w.cell? ⟨h,o,none⟩ = some (.int .i64 x.1)) (hy : w.cell? ⟨h,o + 1,none⟩ = some (.int .i64 x.2)) (hm : J.sh.length ≤ 1000000) :
    Calls Tryz.prog 79 #[.pointer (some ⟨g,0,none⟩),.slice (some ⟨h,o,none⟩) 1 rc,na] w fun e w' => e = .returned (.tuple #[]) ∧ ∃ v',PJ g Bs w0 { J with sh := J.sh ++ [x] } v' w' := by
  have hX : w.cell? ⟨h,o,none⟩ = some (.int .i64 x.1) ∧ w.cell? ⟨h,o + 1,none⟩ = some (.int .i64 x.2) := ⟨hx,hy⟩
  obtain ⟨ti,ti1,ti2,ti3,ti4⟩ := infoR
  have Hi := hidMk ti1
  have Hz := hidMk ti2
  have Hsz := hidMk ti3
  have Hby := hidMk ti4
  clear hx hy ti1 ti2 ti3 ti4
  go_enter Tryz.func79,Tryz.ntmps79
  go_wp2_with fail
  refine region_via (R := fun a_ e_ a' w' => e_ = .normal ∧ ∃ (v6 v7 v8 v9 v10 v11 v12 v13 v14 v15 v16 v17 v' : Value),a' = ((((((((((((a_.put (some 6) v6).put (some 7) v7).put (some 8) v8).put (some 9) v9).put (some 10) v10).put (some 11) v11).put (some 12) v12).put (some 13) v13).put (some 14) v14).put (some 15) v15).put (some 16) v16).put (some 17) v17) ∧ PJ g Bs w0 { J with sh := J.sh ++ [x] } v' w') ?_ ?_
  rotate_left
  · rintro e_ a' w' ⟨rfl,v6,v7,v8,v9,v10,v11,v12,v13,v14,v15,v16,v17,v',rfl,h1⟩
    simp only [Act.put,aT,aZ,aS]
    have HB' := hidMk h1
    clear h1 hX hJ
    go_wp2_with fail
    refine bodyPost_end (v := .tuple #[]) (by simp [results,Tryz.results79,go_sem]) rfl ⟨rfl,v',HB'.out⟩
  have hJ_ : PJ g Bs w0 J sv w.drew := hJ.drew
  have hX_ : w.drew.cell? ⟨h,o,none⟩ = some (.int .i64 x.1) ∧ w.drew.cell? ⟨h,o + 1,none⟩ = some (.int .i64 x.2) := hX
  clear hJ hX
  have hJ := hJ_
  have hX := hX_
  clear hJ_ hX_
  refine wp_region_held_drew (S := (fun _ => True)) (by kernel_rfl) trivial (fun _ => ?_)
  generalize w.drew = wd at hJ hX ⊢
  refine wpAnyH_take (i := 0) (v := ?_) rfl (by kernel_rfl) (by kernel_rfl) (by kernel_rfl) (fun _ _ _ h => by cases h.1) (.inl ⟨by rfl,?_⟩) (by assumption) ?_
  rotate_left
  · (intro w' hSw; (try dsimp only at hSw); skip; go_simp <;> with_reducible rfl)
  (try simp only [Act.put,aT,aZ,aS])
  refine wpAnyH_take (i := 1) (v := ?_) rfl (by kernel_rfl) (by kernel_rfl) (by kernel_rfl) (fun _ _ _ h => by cases h.1) (.inl ⟨by rfl,?_⟩) (by assumption) ?_
  rotate_left
  · (intro w' hSw; (try dsimp only at hSw); skip; go_simp <;> with_reducible rfl)
  (try simp only [Act.put,aT,aZ,aS])
  refine wpAnyH_take (i := 2) (v := ?_) rfl (by kernel_rfl) (by kernel_rfl) (by kernel_rfl) (fun _ _ _ h => by cases h.1) (.inl ⟨by rfl,?_⟩) (by assumption) ?_
  rotate_left
  · (intro w' hSw; (try dsimp only at hSw); skip; go_simp <;> with_reducible rfl)
  (try simp only [Act.put,aT,aZ,aS])
  refine wpAnyH_take (i := 3) (v := ?_) rfl (by kernel_rfl) (by kernel_rfl) (by kernel_rfl) (fun _ _ _ h => by cases h.1) (.inl ⟨by rfl,?_⟩) (by assumption) ?_
  rotate_left
  · (intro w' hSw; (try dsimp only at hSw); skip; go_simp <;> with_reducible rfl)
  (try simp only [Act.put,aT,aZ,aS])
  refine wpAnyH_take (i := 5) (v := ?_) rfl (by kernel_rfl) (by kernel_rfl) (by kernel_rfl) (fun _ _ _ h => by cases h.1) (.inl ⟨by rfl,?_⟩) (by assumption) ?_
  rotate_left
  · (intro w' hSw; (try dsimp only at hSw); skip; go_simp <;> with_reducible rfl)
  (try simp only [Act.put,aT,aZ,aS])
  refine wpAnyH_take (i := 6) (v := ?_) rfl (by kernel_rfl) (by kernel_rfl) (by kernel_rfl) (fun _ _ _ h => by cases h.1) (.inl ⟨by rfl,?_⟩) (by assumption) ?_
  rotate_left
  · (intro w' hSw; (try dsimp only at hSw); skip; go_simp <;> with_reducible rfl)
  (try simp only [Act.put,aT,aZ,aS])
  refine wpAnyH_ready (rs := [4,7]) (by kernel_rfl) (by simp) ?_
  refine AllReadyH.cons rfl (fun K hK => ?_) ?_
  · have c15 := hJ.bk.at_ 15 sv rfl
    go_simp
    refine hK.out _ _ trivial (fun _ => ?_)
    clear c15
    clear hK K
    (try simp only [Act.put,aT,aZ,aS])
    refine wpAnyH_ready (rs := [7]) (by kernel_rfl) (by simp) ?_
    refine AllReadyH.cons rfl (fun K hK => ?_) ?_
    · have q0 := hX.1
      have q1 := hX.2
      go_simp
      refine hK.out _ _ trivial (fun _ => ?_)
      clear q0 q1 hX
      clear hK K
      (try simp only [Act.put,aT,aZ,aS])
      refine wpAnyH_ready (rs := [8]) (by kernel_rfl) (by simp) ?_
      refine AllReadyH.cons rfl (fun K hK => ?_) ?_
      · have hA : Bk (wd.alloc (.cells #[.int .i64 x.1,.int .i64 x.2] 23)) wd.heap.size 23 #[.int .i64 x.1,.int .i64 x.2] := Bk.new _ _ _
        have hbl : Below wd.heap.size wd (wd.alloc (.cells #[.int .i64 x.1,.int .i64 x.2] 23)) := (Below.refl _ _).alloc (Nat.le_refl _) _
        have hJ_ := hJ.below hbl (Nat.le_refl _)
        go_simp
        show K _ (wd.alloc (.cells #[.int .i64 x.1,.int .i64 x.2] 23))
        refine hK.out _ _ trivial (fun _ => ?_)
        clear hJ hbl
        have hJ := hJ_
        clear hJ_
        generalize wd.heap.size = gA at hA ⊢
        generalize (wd.alloc (.cells #[.int .i64 x.1,.int .i64 x.2] 23)) = wz at hA hJ ⊢
        clear hK K
        (try simp only [Act.put,aT,aZ,aS])
        refine wpAnyH_ready (rs := [9]) (by kernel_rfl) (by simp) ?_
        refine AllReadyH.cons rfl (fun K hK => ?_) ?_
        · refine wp_append_own (.tmp 10) (.tmp 14) 28 rfl Bs 23 ti (.agg #[.int .i64 0,.int .i64 0]) 2 16 Tryz.underlying28 Hi.out Hz.out Hsz.out Hby.out rfl (by decide) sv J.sh.length (rgCells J.sh) rfl hJ.own ⟨gA,0,none⟩ 1 1 [.int .i64 x.1,.int .i64 x.2] rfl rfl (fun j u hu => by rw [Addr.add_mid,Nat.zero_add]; exact hA.at_ j u (by simpa using hu)) (by intro u hu; simp at hu; rcases hu with rfl | rfl <;> rfl) (by unfold maxLen; omega) (by omega) hJ.lt.2 ?_
          intro v' wu own' hg' _
          obtain ⟨qb,cp,rfl⟩ : ∃ qb cp,v' = .slice (some ⟨qb,0,none⟩) (J.sh.length + 1) cp := by
            rcases own'.2 with ⟨_,h⟩ | ⟨q,cap,cur,h,_⟩
            · omega
            · exact ⟨q,cap,h⟩
          obtain ⟨hq1,hq2⟩ := hJ.grown (x := x) own' hg'
          have hS_ : PJx g Bs w0 J sv (.slice (some ⟨qb,0,none⟩) (J.sh.length + 1) cp) x wu := ⟨hq1,hq2⟩
          refine hK.out _ _ trivial (fun _ => ?_)
          clear hJ hA own' hg' hq1 hq2
          have hJ := hS_
          clear hS_
          clear hK K
          (try simp only [Act.put,aT,aZ,aS])
          refine wpAnyH_take (i := 10) (v := ?_) rfl (by kernel_rfl) (by kernel_rfl) (by kernel_rfl) (fun _ _ _ h => by cases h.1) (.inl ⟨by rfl,?_⟩) (by assumption) ?_
          rotate_left
          · (intro w' hSw; (try dsimp only at hSw); skip; go_simp <;> with_reducible rfl)
          (try simp only [Act.put,aT,aZ,aS])
          refine wpAnyH_take (i := 11) (v := ?_) rfl (by kernel_rfl) (by kernel_rfl) (by kernel_rfl) (fun _ _ _ h => by cases h.1) (.inl ⟨by rfl,?_⟩) (by assumption) ?_
          rotate_left
          · (intro w' hSw; (try dsimp only at hSw); skip; go_simp <;> with_reducible rfl)
          (try simp only [Act.put,aT,aZ,aS])
          refine wpAnyH_ready (rs := [12]) (by kernel_rfl) (by simp) ?_
          refine AllReadyH.cons rfl (fun K hK => ?_) ?_
          · have z15 := hJ.1.bk.at_ 15 sv rfl
            have f15 := hJ.1.bk.free 15
            have hJ_ := hJ.put
            go_simp
            refine hK.out _ _ trivial (fun _ => ?_)
            clear hJ z15 f15
            have hJ := hJ_
            clear hJ_
            clear hK K
            (try simp only [Act.put,aT,aZ,aS])
            refine wpAnyH_done (by kernel_rfl) ?_ _
            exact ⟨rfl,_,_,_,_,_,_,_,_,_,_,_,_,_,rfl,hJ⟩
          exact AllReadyH.nil
        exact AllReadyH.nil
      exact AllReadyH.nil
    exact AllReadyH.nil
  refine AllReadyH.cons rfl (fun K hK => ?_) ?_
  · have q0 := hX.1
    have q1 := hX.2
    go_simp
    refine hK.out _ _ trivial (fun _ => ?_)
    clear q0 q1 hX
    clear hK K
    (try simp only [Act.put,aT,aZ,aS])
    refine wpAnyH_ready (rs := [4,8]) (by kernel_rfl) (by simp) ?_
    refine AllReadyH.cons rfl (fun K hK => ?_) ?_
    · have c15 := hJ.bk.at_ 15 sv rfl
      go_simp
      refine hK.out _ _ trivial (fun _ => ?_)
      clear c15
      clear hK K
      (try simp only [Act.put,aT,aZ,aS])
      refine wpAnyH_ready (rs := [8]) (by kernel_rfl) (by simp) ?_
      refine AllReadyH.cons rfl (fun K hK => ?_) ?_
      · have hA : Bk (wd.alloc (.cells #[.int .i64 x.1,.int .i64 x.2] 23)) wd.heap.size 23 #[.int .i64 x.1,.int .i64 x.2] := Bk.new _ _ _
        have hbl : Below wd.heap.size wd (wd.alloc (.cells #[.int .i64 x.1,.int .i64 x.2] 23)) := (Below.refl _ _).alloc (Nat.le_refl _) _
        have hJ_ := hJ.below hbl (Nat.le_refl _)
        go_simp
        show K _ (wd.alloc (.cells #[.int .i64 x.1,.int .i64 x.2] 23))
        refine hK.out _ _ trivial (fun _ => ?_)
        clear hJ hbl
        have hJ := hJ_
        clear hJ_
        generalize wd.heap.size = gA at hA ⊢
        generalize (wd.alloc (.cells #[.int .i64 x.1,.int .i64 x.2] 23)) = wz at hA hJ ⊢
        clear hK K
        (try simp only [Act.put,aT,aZ,aS])
        refine wpAnyH_ready (rs := [9]) (by kernel_rfl) (by simp) ?_
        refine AllReadyH.cons rfl (fun K hK => ?_) ?_
        · refine wp_append_own (.tmp 10) (.tmp 14) 28 rfl Bs 23 ti (.agg #[.int .i64 0,.int .i64 0]) 2 16 Tryz.underlying28 Hi.out Hz.out Hsz.out Hby.out rfl (by decide) sv J.sh.length (rgCells J.sh) rfl hJ.own ⟨gA,0,none⟩ 1 1 [.int .i64 x.1,.int .i64 x.2] rfl rfl (fun j u hu => by rw [Addr.add_mid,Nat.zero_add]; exact hA.at_ j u (by simpa using hu)) (by intro u hu; simp at hu; rcases hu with rfl | rfl <;> rfl) (by unfold maxLen; omega) (by omega) hJ.lt.2 ?_
          intro v' wu own' hg' _
          obtain ⟨qb,cp,rfl⟩ : ∃ qb cp,v' = .slice (some ⟨qb,0,none⟩) (J.sh.length + 1) cp := by
            rcases own'.2 with ⟨_,h⟩ | ⟨q,cap,cur,h,_⟩
            · omega
            · exact ⟨q,cap,h⟩
          obtain ⟨hq1,hq2⟩ := hJ.grown (x := x) own' hg'
          have hS_ : PJx g Bs w0 J sv (.slice (some ⟨qb,0,none⟩) (J.sh.length + 1) cp) x wu := ⟨hq1,hq2⟩
          refine hK.out _ _ trivial (fun _ => ?_)
          clear hJ hA own' hg' hq1 hq2
          have hJ := hS_
          clear hS_
          clear hK K
          (try simp only [Act.put,aT,aZ,aS])
          refine wpAnyH_take (i := 10) (v := ?_) rfl (by kernel_rfl) (by kernel_rfl) (by kernel_rfl) (fun _ _ _ h => by cases h.1) (.inl ⟨by rfl,?_⟩) (by assumption) ?_
          rotate_left
          · (intro w' hSw; (try dsimp only at hSw); skip; go_simp <;> with_reducible rfl)
          (try simp only [Act.put,aT,aZ,aS])
          refine wpAnyH_take (i := 11) (v := ?_) rfl (by kernel_rfl) (by kernel_rfl) (by kernel_rfl) (fun _ _ _ h => by cases h.1) (.inl ⟨by rfl,?_⟩) (by assumption) ?_
          rotate_left
          · (intro w' hSw; (try dsimp only at hSw); skip; go_simp <;> with_reducible rfl)
          (try simp only [Act.put,aT,aZ,aS])
          refine wpAnyH_ready (rs := [12]) (by kernel_rfl) (by simp) ?_
          refine AllReadyH.cons rfl (fun K hK => ?_) ?_
          · have z15 := hJ.1.bk.at_ 15 sv rfl
            have f15 := hJ.1.bk.free 15
            have hJ_ := hJ.put
            go_simp
            refine hK.out _ _ trivial (fun _ => ?_)
            clear hJ z15 f15
            have hJ := hJ_
            clear hJ_
            clear hK K
            (try simp only [Act.put,aT,aZ,aS])
            refine wpAnyH_done (by kernel_rfl) ?_ _
            exact ⟨rfl,_,_,_,_,_,_,_,_,_,_,_,_,_,rfl,hJ⟩
          exact AllReadyH.nil
        exact AllReadyH.nil
      exact AllReadyH.nil
    refine AllReadyH.cons rfl (fun K hK => ?_) ?_
    · have hA : Bk (wd.alloc (.cells #[.int .i64 x.1,.int .i64 x.2] 23)) wd.heap.size 23 #[.int .i64 x.1,.int .i64 x.2] := Bk.new _ _ _
      have hbl : Below wd.heap.size wd (wd.alloc (.cells #[.int .i64 x.1,.int .i64 x.2] 23)) := (Below.refl _ _).alloc (Nat.le_refl _) _
      have hJ_ := hJ.below hbl (Nat.le_refl _)
      go_simp
      show K _ (wd.alloc (.cells #[.int .i64 x.1,.int .i64 x.2] 23))
      refine hK.out _ _ trivial (fun _ => ?_)
      clear hJ hbl
      have hJ := hJ_
      clear hJ_
      generalize wd.heap.size = gA at hA ⊢
      generalize (wd.alloc (.cells #[.int .i64 x.1,.int .i64 x.2] 23)) = wz at hA hJ ⊢
      clear hK K
      (try simp only [Act.put,aT,aZ,aS])
      refine wpAnyH_ready (rs := [4]) (by kernel_rfl) (by simp) ?_
      refine AllReadyH.cons rfl (fun K hK => ?_) ?_
      · have c15 := hJ.bk.at_ 15 sv rfl
        go_simp
        refine hK.out _ _ trivial (fun _ => ?_)
        clear c15
        clear hK K
        (try simp only [Act.put,aT,aZ,aS])
        refine wpAnyH_ready (rs := [9]) (by kernel_rfl) (by simp) ?_
        refine AllReadyH.cons rfl (fun K hK => ?_) ?_
        · refine wp_append_own (.tmp 10) (.tmp 14) 28 rfl Bs 23 ti (.agg #[.int .i64 0,.int .i64 0]) 2 16 Tryz.underlying28 Hi.out Hz.out Hsz.out Hby.out rfl (by decide) sv J.sh.length (rgCells J.sh) rfl hJ.own ⟨gA,0,none⟩ 1 1 [.int .i64 x.1,.int .i64 x.2] rfl rfl (fun j u hu => by rw [Addr.add_mid,Nat.zero_add]; exact hA.at_ j u (by simpa using hu)) (by intro u hu; simp at hu; rcases hu with rfl | rfl <;> rfl) (by unfold maxLen; omega) (by omega) hJ.lt.2 ?_
          intro v' wu own' hg' _
          obtain ⟨qb,cp,rfl⟩ : ∃ qb cp,v' = .slice (some ⟨qb,0,none⟩) (J.sh.length + 1) cp := by
            rcases own'.2 with ⟨_,h⟩ | ⟨q,cap,cur,h,_⟩
            · omega
            · exact ⟨q,cap,h⟩
          obtain ⟨hq1,hq2⟩ := hJ.grown (x := x) own' hg'
          have hS_ : PJx g Bs w0 J sv (.slice (some ⟨qb,0,none⟩) (J.sh.length + 1) cp) x wu := ⟨hq1,hq2⟩
          refine hK.out _ _ trivial (fun _ => ?_)
          clear hJ hA own' hg' hq1 hq2
          have hJ := hS_
          clear hS_
          clear hK K
          (try simp only [Act.put,aT,aZ,aS])
          refine wpAnyH_take (i := 10) (v := ?_) rfl (by kernel_rfl) (by kernel_rfl) (by kernel_rfl) (fun _ _ _ h => by cases h.1) (.inl ⟨by rfl,?_⟩) (by assumption) ?_
          rotate_left
          · (intro w' hSw; (try dsimp only at hSw); skip; go_simp <;> with_reducible rfl)
          (try simp only [Act.put,aT,aZ,aS])
          refine wpAnyH_take (i := 11) (v := ?_) rfl (by kernel_rfl) (by kernel_rfl) (by kernel_rfl) (fun _ _ _ h => by cases h.1) (.inl ⟨by rfl,?_⟩) (by assumption) ?_
          rotate_left
          · (intro w' hSw; (try dsimp only at hSw); skip; go_simp <;> with_reducible rfl)
          (try simp only [Act.put,aT,aZ,aS])
          refine wpAnyH_ready (rs := [12]) (by kernel_rfl) (by simp) ?_
          refine AllReadyH.cons rfl (fun K hK => ?_) ?_
          · have z15 := hJ.1.bk.at_ 15 sv rfl
            have f15 := hJ.1.bk.free 15
            have hJ_ := hJ.put
            go_simp
            refine hK.out _ _ trivial (fun _ => ?_)
            clear hJ z15 f15
            have hJ := hJ_
            clear hJ_
            clear hK K
            (try simp only [Act.put,aT,aZ,aS])
            refine wpAnyH_done (by kernel_rfl) ?_ _
            exact ⟨rfl,_,_,_,_,_,_,_,_,_,_,_,_,_,rfl,hJ⟩
          exact AllReadyH.nil
        exact AllReadyH.nil
      exact AllReadyH.nil
    exact AllReadyH.nil
  exact AllReadyH.nil
end Go.Proofs.YtljefjngmembkaaGreatDoor
/- apply: what its loop does with lists; its first region. -/
namespace Go.Proofs.YtljefjngmembkaaGreatDoor
set_option linter.all false
open Go.RowKit
abbrev bytes (l : List ByteArray) : List (List UInt8) := l.map (·.data.toList)
/-- The cells of a rule. -/
abbrev rlC (word : ByteArray) (rep : Bool) (r n : Nat) (fv : Value) : Array Value := #[.string word,.bool rep,.int .i64 r,.int .i64 n,fv]
/-- apply at work: what lay there, its rule, the parts. -/
structure AW (word : ByteArray) (rep : Bool) (r n : Nat) (fv : Value) (bp o : Nat) (l : List ByteArray) (w0 w : World) : Prop where
  below : Below w0.heap.size w0 w
  bk : Bk w w0.heap.size 116 (rlC word rep r n fv)
  ss : Ss w0 w0.heap.size bp o l
section
variable {word : ByteArray} {rep : Bool} {r n : Nat} {fv : Value} {w0 w : World} {bp o c : Nat} {l : List ByteArray}
theorem AW.next {w' : World} (h : AW word rep r n fv bp o l w0 w) (hb : Below w.heap.size w w') : AW word rep r n fv bp o l w0 w' := ⟨h.below.trans (hb.mono h.below.size),h.bk.below hb h.bk.lt,h.ss⟩
theorem AW.part (h : AW word rep r n fv bp o l w0 w) {k : Nat} {x : ByteArray} (hx : l[k]? = some x) : w.cell? ⟨bp,o + k,none⟩ = some (.string x) := (h.below.cell h.ss.1).trans (h.ss.2 k x hx)
theorem AW.grown {w' : World} {ob : Option Nat} (h : AW word rep r n fv bp o l w0 w) (hg : w.grownBy w' ob) (hob : ∀ q,ob = some q → w0.heap.size + 1 ≤ q) : AW word rep r n fv bp o l w0 w' :=
  ⟨⟨hg.os.trans h.below.os,hg.tape.trans h.below.tape,hg.output.trans h.below.output,Nat.le_trans h.below.size hg.size,fun q hq => (hg.block q (Nat.lt_of_lt_of_le hq h.below.size) (fun e => by have := hob q e.symm; omega)).trans (h.below.block q hq)⟩,h.bk.grown hg (fun e => by have := hob _ e.symm; omega),h.ss⟩
end
theorem rdParts_go_r {r i : Nat} {tl : List (List UInt8)} {ss : List R2} {ns : List Int} {p : List UInt8} (h : rdParts r tl = (rdParts (r - i) (tl.drop i)).map fun q => (ss ++ q.1,ns ++ q.2)) (hi : i < r) (hp : tl[i]? = some p) :
    (Tx.rdS 58 (-999) 999 p = none → rdParts r tl = none) ∧ ∀ s,Tx.rdS 58 (-999) 999 p = some s → rdParts r tl = (rdParts (r - (i + 1)) (tl.drop (i + 1))).map fun q => ((ss ++ [s]) ++ q.1,ns ++ q.2) := by
  obtain ⟨hl,he⟩ := List.getElem?_eq_some_iff.1 hp
  have e1 : r - i = (r - (i + 1)) + 1 := by omega
  rw [h,List.drop_eq_getElem_cons hl,he,e1,rdParts]
  refine ⟨fun hn => by rw [hn]; rfl,fun s hs => ?_⟩
  rw [hs]
  simp only [Option.map_map]
  congr 1
  funext q
  simp
theorem rdParts_go_n {r i : Nat} {tl : List (List UInt8)} {ss : List R2} {ns : List Int} {p : List UInt8} (h : rdParts r tl = (rdParts (r - i) (tl.drop i)).map fun q => (ss ++ q.1,ns ++ q.2)) (hi : r ≤ i) (hp : tl[i]? = some p) :
    (Tx.rdN (-999) 999 p = none → rdParts r tl = none) ∧ ∀ s,Tx.rdN (-999) 999 p = some s → rdParts r tl = (rdParts (r - (i + 1)) (tl.drop (i + 1))).map fun q => (ss ++ q.1,(ns ++ [s]) ++ q.2) := by
  obtain ⟨hl,he⟩ := List.getElem?_eq_some_iff.1 hp
  have e1 : r - i = 0 := by omega
  have e2 : r - (i + 1) = 0 := by omega
  rw [h,List.drop_eq_getElem_cons hl,he,e1,e2,rdParts]
  refine ⟨fun hn => by rw [hn]; rfl,fun s hs => ?_⟩
  rw [hs]
  simp only [Option.map_map]
  congr 1
  funext q
  simp
theorem rdParts_begin (r : Nat) (tl : List (List UInt8)) : rdParts r tl = (rdParts (r - 0) (tl.drop 0)).map fun q => (([] : List R2) ++ q.1,([] : List Int) ++ q.2) := by
  simp
theorem rdParts_end {r i : Nat} {tl : List (List UInt8)} {ss : List R2} {ns : List Int} (h : rdParts r tl = (rdParts (r - i) (tl.drop i)).map fun q => (ss ++ q.1,ns ++ q.2)) (hi : tl.length ≤ i) : rdParts r tl = some (ss,ns) := by
  rw [h,List.drop_eq_nil_of_le hi]
  cases r - i <;> simp [rdParts]
/-- The rows of what was read so far: ranges first, then numbers. -/
def Rows (r B1 i : Nat) (ss : List R2) (ns : List Int) (rv nv : Value) (w : World) : Prop :=
  ss.length = min i r ∧ ns.length = i - r ∧ B1 ≤ w.heap.size ∧
  ((i ≤ r ∧ ns = [] ∧ nv = .slice none 0 0 ∧ w.ownsRow B1 23 2 rv ss.length (rgCells ss)) ∨
   (r ≤ i ∧ ∃ B2 ra rc,rv = .slice ra ss.length rc ∧ (∀ q o,ra = some ⟨q,o,none⟩ → B1 ≤ q) ∧ Rg w B2 ra ss ∧ B1 ≤ B2 ∧ B2 ≤ w.heap.size ∧ w.ownsRow B2 3 1 nv ns.length (ns.map (Value.int .i64))))
section
variable {r B1 i : Nat} {ss : List R2} {ns : List Int} {rv nv : Value} {w w' : World}
theorem Rows.next (h : Rows r B1 i ss ns rv nv w) (hb : Below w.heap.size w w') : Rows r B1 i ss ns rv nv w' := by
  obtain ⟨h1,h2,h3,h⟩ := h
  refine ⟨h1,h2,Nat.le_trans h3 hb.size,?_⟩
  rcases h with ⟨a1,a2,a3,a4⟩ | ⟨b0,B2,ra,rc,b1,b2,b3,b4,b5,b6⟩
  · exact .inl ⟨a1,a2,a3,own_of' a4 (fun q _ hl => hb.block q hl)⟩
  · exact .inr ⟨b0,B2,ra,rc,b1,b2,b3.below (hb.mono b5),b4,Nat.le_trans b5 hb.size,own_of' b6 (fun q _ hl => hb.block q hl)⟩
/-- The numbers' turn: the ranges stand. -/
theorem Rows.turn (h : Rows r B1 i ss ns rv nv w) (hi : r ≤ i) : ∃ B2 ra rc,rv = .slice ra ss.length rc ∧ (∀ q o,ra = some ⟨q,o,none⟩ → B1 ≤ q) ∧ Rg w B2 ra ss ∧ B1 ≤ B2 ∧ B2 ≤ w.heap.size ∧ w.ownsRow B2 3 1 nv ns.length (ns.map (Value.int .i64)) := by
  obtain ⟨h1,h2,h3,⟨a1,a2,a3,a4⟩ | ⟨_,h⟩⟩ := h
  · obtain ⟨ra,rc,e,_,hr,hq⟩ := rg_of_own a4
    subst a2 a3
    exact ⟨w.heap.size,ra,rc,e,hq,hr,h3,Nat.le_refl _,⟨rfl,.inl ⟨rfl,rfl⟩⟩⟩
  · exact h
theorem Rows.own (h : Rows r B1 i ss ns rv nv w) (hi : i < r) : ns = [] ∧ nv = .slice none 0 0 ∧ w.ownsRow B1 23 2 rv ss.length (rgCells ss) := by
  obtain ⟨h1,h2,h3,⟨a1,a2,a3,a4⟩ | ⟨h,_⟩⟩ := h
  · exact ⟨a2,a3,a4⟩
  · omega
theorem Rows.begin (r : Nat) (hB : B1 ≤ w.heap.size) : Rows r B1 0 [] [] (.slice none 0 0) (.slice none 0 0) w :=
  ⟨by simp,by simp,hB,.inl ⟨Nat.zero_le _,rfl,rfl,⟨rfl,.inl ⟨rfl,rfl⟩⟩⟩⟩
end
set_option maxHeartbeats 2000000 in
set_option maxRecDepth 1000000 in
theorem apr1e {word : ByteArray} {rep : Bool} {r n : Nat} {fv : Value} {w0 w : World} {bp o c : Nat} {l : List ByteArray} {Q : Exit → Act → World → Prop} {u0 u1 u4 u5 u6 u7 u8 u9 u10 u11 u12 u13 u14 u15 u16 u17 u18 u19 u20 u21 u22 u23 u24 u25 u26 u27 u28 u29 u30 u31 u32 u33 u34 u35 u36 u37 u38 u39 u40 u41 u42 u43 u44 u45 u46 u47 u48 u49 u50 u51 u52 u53 u54 u55 u56 u57 u58 u59 u60 u61 u62 u63 u64 u65 u66 u67 u68 u69 u70 u71 u72 : Value} (hs : AW word rep r n fv bp o l w0 w) (hr : r ≤ 1000 ∧ n ≤ 1000 ∧ l.length ≤ 1000000) (hl : l.length = 1 + r + n) {x0 : ByteArray} (h0 : l[0]? = some x0) {bq : Bool} (hq : (!(x0.toList == word.toList)) = bq) (hK : ∀ (w' : World),AW word rep r n fv bp o l w0 w' → ∀ (v15 v16 v17 v18 v19 v20 v21 v22 v23 v24 v25 v26 v27 v28 v29 v30 : Value),Q .normal ⟨#[u0,u1,(.slice (some ⟨bp,o,none⟩) l.length c),(.pointer (some ⟨w0.heap.size,0,none⟩)),u4,u5,u6,u7,u8,u9,u10,u11,u12,u13,u14,v15,v16,v17,v18,v19,v20,v21,v22,v23,v24,v25,v26,v27,v28,v29,v30,(.bool bq),u32,u33,u34,u35,u36,u37,u38,u39,u40,u41,u42,u43,u44,u45,u46,u47,u48,u49,u50,u51,u52,u53,u54,u55,u56,u57,u58,u59,u60,u61,u62,u63,u64,u65,u66,u67,u68,u69,u70,u71,u72],[]⟩ w') : Code.wp Tryz.prog (Code.region 1 #[⟨some 15,.move (.tmp 2),37,"text.go:101",#[],none⟩,⟨some 16,.call { callee := .builtin .len,args := #[.tmp 15],argTypes := #[37] },3,"text.go:101",#[⟨0,.data⟩],none⟩,⟨some 17,.fieldAddr 116 (.tmp 3) 2,0,"text.go:101",#[],none⟩,⟨some 18,.load 3 (.tmp 17),3,"text.go:101",#[⟨2,.data⟩],none⟩,⟨some 19,.binOp .add 3 (.const (.int .i64 1)) (.tmp 18) 3,3,"text.go:101",#[⟨3,.data⟩],none⟩,⟨some 20,.fieldAddr 116 (.tmp 3) 3,0,"text.go:101",#[],none⟩,⟨some 21,.load 3 (.tmp 20),3,"text.go:101",#[⟨5,.data⟩],none⟩,⟨some 22,.binOp .add 3 (.tmp 19) (.tmp 21) 3,3,"text.go:101",#[⟨4,.data⟩,⟨6,.data⟩],none⟩,⟨some 23,.binOp .neq 3 (.tmp 16) (.tmp 22) 3,4,"text.go:101",#[⟨1,.data⟩,⟨7,.data⟩],none⟩,⟨some 24,.move (.tmp 23),4,"text.go:101",#[⟨8,.data⟩],none⟩,⟨some 25,.move (.tmp 2),37,"text.go:101",#[⟨9,.guard⟩],some (9,false)⟩,⟨some 26,.indexAddr 37 (.tmp 25) (.const (.int .i64 0)),0,"text.go:101",#[⟨10,.data⟩,⟨9,.guard⟩],some (9,false)⟩,⟨some 27,.load 9 (.tmp 26),9,"text.go:101",#[⟨11,.data⟩,⟨9,.guard⟩],some (9,false)⟩,⟨some 28,.fieldAddr 116 (.tmp 3) 0,0,"text.go:101",#[⟨9,.guard⟩],some (9,false)⟩,⟨some 29,.load 9 (.tmp 28),9,"text.go:101",#[⟨13,.data⟩,⟨9,.guard⟩],some (9,false)⟩,⟨some 30,.binOp .neq 9 (.tmp 27) (.tmp 29) 9,4,"text.go:101",#[⟨12,.data⟩,⟨14,.data⟩,⟨9,.guard⟩],some (9,false)⟩,⟨some 31,.pick (.tmp 24) (.const (.bool true)) (.tmp 30),4,"text.go:101",#[⟨9,.data⟩,⟨15,.data⟩],none⟩] true) Q ⟨#[u0,u1,(.slice (some ⟨bp,o,none⟩) l.length c),(.pointer (some ⟨w0.heap.size,0,none⟩)),u4,u5,u6,u7,u8,u9,u10,u11,u12,u13,u14,u15,u16,u17,u18,u19,u20,u21,u22,u23,u24,u25,u26,u27,u28,u29,u30,u31,u32,u33,u34,u35,u36,u37,u38,u39,u40,u41,u42,u43,u44,u45,u46,u47,u48,u49,u50,u51,u52,u53,u54,u55,u56,u57,u58,u59,u60,u61,u62,u63,u64,u65,u66,u67,u68,u69,u70,u71,u72],[]⟩ w := by
  have W1 : IntKind.i64.wrap ((1 : Int) + (r : Int)) = (1 : Int) + (r : Int) := IntWalk.i64_in _ (by omega)
  have W2 : IntKind.i64.wrap ((1 : Int) + (r : Int) + (n : Int)) = (1 : Int) + (r : Int) + (n : Int) := IntWalk.i64_in _ (by omega)
  have HL : ((l.length : Int) != (1 : Int) + (r : Int) + (n : Int)) = false := by simp; omega
  have hlp : 0 < l.length := by omega
  have HQ := hq
  clear hl
  refine region_via (R := fun a_ e_ a' w' => e_ = .normal ∧ ∃ (v15 v16 v17 v18 v19 v20 v21 v22 v23 v24 v25 v26 v27 v28 v29 v30 : Value),a' = (((((((((((((((((a_.put (some 15) v15).put (some 16) v16).put (some 17) v17).put (some 18) v18).put (some 19) v19).put (some 20) v20).put (some 21) v21).put (some 22) v22).put (some 23) v23).put (some 24) v24).put (some 25) v25).put (some 26) v26).put (some 27) v27).put (some 28) v28).put (some 29) v29).put (some 30) v30).put (some 31) (.bool bq)) ∧ AW word rep r n fv bp o l w0 w') ?_ ?_
  rotate_left
  · rintro e_ a' w' ⟨rfl,v15,v16,v17,v18,v19,v20,v21,v22,v23,v24,v25,v26,v27,v28,v29,v30,rfl,h1⟩
    simp only [Act.put,aT,aZ,aS]
    exact hK _ h1 _ _ _ _ _ _ _ _ _ _ _ _ _ _ _ _ 
  have hS : AW word rep r n fv bp o l w0 w.drew := hs.next (Below.refl _ _).drew
  refine wp_region_held_drew (S := AW word rep r n fv bp o l w0) (by kernel_rfl) hS (fun hS0 => ?_)
  clear hS0
  generalize w.drew = wd at hS ⊢
  refine wpAnyH_take (i := 0) (v := ?_) rfl (by kernel_rfl) (by kernel_rfl) (by kernel_rfl) (fun _ _ _ h => by cases h.1) (.inl ⟨by rfl,?_⟩) (by assumption) ?_
  rotate_left
  · (intro w' hSw; (try dsimp only at hSw); skip; go_simp <;> with_reducible rfl)
  (try simp only [Act.put,aT,aZ,aS])
  refine wpAnyH_take (i := 1) (v := ?_) rfl (by kernel_rfl) (by kernel_rfl) (by kernel_rfl) (fun _ _ _ h => by cases h.1) (.inl ⟨by rfl,?_⟩) (by assumption) ?_
  rotate_left
  · (intro w' hSw; (try dsimp only at hSw); skip; go_simp <;> with_reducible rfl)
  (try simp only [Act.put,aT,aZ,aS])
  refine wpAnyH_take (i := 2) (v := ?_) rfl (by kernel_rfl) (by kernel_rfl) (by kernel_rfl) (fun _ _ _ h => by cases h.1) (.inl ⟨by rfl,?_⟩) (by assumption) ?_
  rotate_left
  · (intro w' hSw; (try dsimp only at hSw); skip; go_simp <;> with_reducible rfl)
  (try simp only [Act.put,aT,aZ,aS])
  refine wpAnyH_take (i := 3) (v := ?_) rfl (by kernel_rfl) (by kernel_rfl) (by kernel_rfl) (fun _ _ _ h => by cases h.1) (.inl ⟨by rfl,?_⟩) (by assumption) ?_
  rotate_left
  · (intro w' hSw; (try dsimp only at hSw); have q0 := hSw.bk.at_ 2 (.int .i64 r) rfl; go_simp <;> with_reducible rfl)
  (try simp only [Act.put,aT,aZ,aS])
  refine wpAnyH_take (i := 4) (v := ?_) rfl (by kernel_rfl) (by kernel_rfl) (by kernel_rfl) (fun _ _ _ h => by cases h.1) (.inl ⟨by rfl,?_⟩) (by assumption) ?_
  rotate_left
  · (intro w' hSw; (try dsimp only at hSw); have q0 := W1; go_simp <;> with_reducible rfl)
  (try simp only [Act.put,aT,aZ,aS])
  refine wpAnyH_take (i := 5) (v := ?_) rfl (by kernel_rfl) (by kernel_rfl) (by kernel_rfl) (fun _ _ _ h => by cases h.1) (.inl ⟨by rfl,?_⟩) (by assumption) ?_
  rotate_left
  · (intro w' hSw; (try dsimp only at hSw); skip; go_simp <;> with_reducible rfl)
  (try simp only [Act.put,aT,aZ,aS])
  refine wpAnyH_take (i := 6) (v := ?_) rfl (by kernel_rfl) (by kernel_rfl) (by kernel_rfl) (fun _ _ _ h => by cases h.1) (.inl ⟨by rfl,?_⟩) (by assumption) ?_
  rotate_left
  · (intro w' hSw; (try dsimp only at hSw); have q0 := hSw.bk.at_ 3 (.int .i64 n) rfl; go_simp <;> with_reducible rfl)
  (try simp only [Act.put,aT,aZ,aS])
  refine wpAnyH_take (i := 7) (v := ?_) rfl (by kernel_rfl) (by kernel_rfl) (by kernel_rfl) (fun _ _ _ h => by cases h.1) (.inl ⟨by rfl,?_⟩) (by assumption) ?_
  rotate_left
  · (intro w' hSw; (try dsimp only at hSw); have q0 := W2; go_simp <;> with_reducible rfl)
  (try simp only [Act.put,aT,aZ,aS])
  refine wpAnyH_take (i := 8) (v := ?_) rfl (by kernel_rfl) (by kernel_rfl) (by kernel_rfl) (fun _ _ _ h => by cases h.1) (.inl ⟨by rfl,?_⟩) (by assumption) ?_
  rotate_left
  · (intro w' hSw; (try dsimp only at hSw); have q0 := HL; go_simp <;> with_reducible rfl)
  (try simp only [Act.put,aT,aZ,aS])
  refine wpAnyH_take (i := 9) (v := ?_) rfl (by kernel_rfl) (by kernel_rfl) (by kernel_rfl) (fun _ _ _ h => by cases h.1) (.inl ⟨by rfl,?_⟩) (by assumption) ?_
  rotate_left
  · (intro w' hSw; (try dsimp only at hSw); skip; go_simp <;> with_reducible rfl)
  (try simp only [Act.put,aT,aZ,aS])
  refine wpAnyH_take (i := 10) (v := ?_) rfl (by kernel_rfl) (by kernel_rfl) (by kernel_rfl) (fun _ _ _ h => by cases h.1) (.inl ⟨by rfl,?_⟩) (by assumption) ?_
  rotate_left
  · (intro w' hSw; (try dsimp only at hSw); skip; go_simp <;> with_reducible rfl)
  (try simp only [Act.put,aT,aZ,aS])
  refine wpAnyH_take (i := 11) (v := ?_) rfl (by kernel_rfl) (by kernel_rfl) (by kernel_rfl) (fun _ _ _ h => by cases h.1) (.inl ⟨by rfl,?_⟩) (by assumption) ?_
  rotate_left
  · (intro w' hSw; (try dsimp only at hSw); have q0 := hlp; go_simp <;> with_reducible rfl)
  (try simp only [Act.put,aT,aZ,aS])
  refine wpAnyH_take (i := 12) (v := ?_) rfl (by kernel_rfl) (by kernel_rfl) (by kernel_rfl) (fun _ _ _ h => by cases h.1) (.inl ⟨by rfl,?_⟩) (by assumption) ?_
  rotate_left
  · (intro w' hSw; (try dsimp only at hSw); have q0 : w'.cell? ⟨bp,o,none⟩ = some (.string x0) := hSw.part h0; go_simp <;> with_reducible rfl)
  (try simp only [Act.put,aT,aZ,aS])
  refine wpAnyH_take (i := 13) (v := ?_) rfl (by kernel_rfl) (by kernel_rfl) (by kernel_rfl) (fun _ _ _ h => by cases h.1) (.inl ⟨by rfl,?_⟩) (by assumption) ?_
  rotate_left
  · (intro w' hSw; (try dsimp only at hSw); skip; go_simp <;> with_reducible rfl)
  (try simp only [Act.put,aT,aZ,aS])
  refine wpAnyH_take (i := 14) (v := ?_) rfl (by kernel_rfl) (by kernel_rfl) (by kernel_rfl) (fun _ _ _ h => by cases h.1) (.inl ⟨by rfl,?_⟩) (by assumption) ?_
  rotate_left
  · (intro w' hSw; (try dsimp only at hSw); have q0 := hSw.bk.at_ 0 (.string word) rfl; go_simp <;> with_reducible rfl)
  (try simp only [Act.put,aT,aZ,aS])
  refine wpAnyH_take (i := 15) (v := ?_) rfl (by kernel_rfl) (by kernel_rfl) (by kernel_rfl) (fun _ _ _ h => by cases h.1) (.inl ⟨by rfl,?_⟩) (by assumption) ?_
  rotate_left
  · (intro w' hSw; (try dsimp only at hSw); have q0 := HQ; go_simp <;> with_reducible rfl)
  (try simp only [Act.put,aT,aZ,aS])
  refine wpAnyH_take (i := 16) (v := ?_) rfl (by kernel_rfl) (by kernel_rfl) (by kernel_rfl) (fun _ _ _ h => by cases h.1) (.inl ⟨by rfl,?_⟩) (by assumption) ?_
  rotate_left
  · (intro w' hSw; (try dsimp only at hSw); skip; go_simp <;> with_reducible rfl)
  (try simp only [Act.put,aT,aZ,aS])
  refine wpAnyH_done (by kernel_rfl) ?_ _
  exact ⟨rfl,_,_,_,_,_,_,_,_,_,_,_,_,_,_,_,_,rfl,hS⟩
set_option maxHeartbeats 2000000 in
set_option maxRecDepth 1000000 in
theorem apr1n {word : ByteArray} {rep : Bool} {r n : Nat} {fv : Value} {w0 w : World} {bp o c : Nat} {l : List ByteArray} {Q : Exit → Act → World → Prop} {u0 u1 u4 u5 u6 u7 u8 u9 u10 u11 u12 u13 u14 u15 u16 u17 u18 u19 u20 u21 u22 u23 u24 u25 u26 u27 u28 u29 u30 u31 u32 u33 u34 u35 u36 u37 u38 u39 u40 u41 u42 u43 u44 u45 u46 u47 u48 u49 u50 u51 u52 u53 u54 u55 u56 u57 u58 u59 u60 u61 u62 u63 u64 u65 u66 u67 u68 u69 u70 u71 u72 : Value} (hs : AW word rep r n fv bp o l w0 w) (hr : r ≤ 1000 ∧ n ≤ 1000 ∧ l.length ≤ 1000000) (hl : l.length ≠ 1 + r + n) (hK : ∀ (w' : World),AW word rep r n fv bp o l w0 w' → ∀ (v15 v16 v17 v18 v19 v20 v21 v22 v23 v24 v25 v26 v27 v28 v29 v30 : Value),Q .normal ⟨#[u0,u1,(.slice (some ⟨bp,o,none⟩) l.length c),(.pointer (some ⟨w0.heap.size,0,none⟩)),u4,u5,u6,u7,u8,u9,u10,u11,u12,u13,u14,v15,v16,v17,v18,v19,v20,v21,v22,v23,v24,v25,v26,v27,v28,v29,v30,(.bool true),u32,u33,u34,u35,u36,u37,u38,u39,u40,u41,u42,u43,u44,u45,u46,u47,u48,u49,u50,u51,u52,u53,u54,u55,u56,u57,u58,u59,u60,u61,u62,u63,u64,u65,u66,u67,u68,u69,u70,u71,u72],[]⟩ w') : Code.wp Tryz.prog (Code.region 1 #[⟨some 15,.move (.tmp 2),37,"text.go:101",#[],none⟩,⟨some 16,.call { callee := .builtin .len,args := #[.tmp 15],argTypes := #[37] },3,"text.go:101",#[⟨0,.data⟩],none⟩,⟨some 17,.fieldAddr 116 (.tmp 3) 2,0,"text.go:101",#[],none⟩,⟨some 18,.load 3 (.tmp 17),3,"text.go:101",#[⟨2,.data⟩],none⟩,⟨some 19,.binOp .add 3 (.const (.int .i64 1)) (.tmp 18) 3,3,"text.go:101",#[⟨3,.data⟩],none⟩,⟨some 20,.fieldAddr 116 (.tmp 3) 3,0,"text.go:101",#[],none⟩,⟨some 21,.load 3 (.tmp 20),3,"text.go:101",#[⟨5,.data⟩],none⟩,⟨some 22,.binOp .add 3 (.tmp 19) (.tmp 21) 3,3,"text.go:101",#[⟨4,.data⟩,⟨6,.data⟩],none⟩,⟨some 23,.binOp .neq 3 (.tmp 16) (.tmp 22) 3,4,"text.go:101",#[⟨1,.data⟩,⟨7,.data⟩],none⟩,⟨some 24,.move (.tmp 23),4,"text.go:101",#[⟨8,.data⟩],none⟩,⟨some 25,.move (.tmp 2),37,"text.go:101",#[⟨9,.guard⟩],some (9,false)⟩,⟨some 26,.indexAddr 37 (.tmp 25) (.const (.int .i64 0)),0,"text.go:101",#[⟨10,.data⟩,⟨9,.guard⟩],some (9,false)⟩,⟨some 27,.load 9 (.tmp 26),9,"text.go:101",#[⟨11,.data⟩,⟨9,.guard⟩],some (9,false)⟩,⟨some 28,.fieldAddr 116 (.tmp 3) 0,0,"text.go:101",#[⟨9,.guard⟩],some (9,false)⟩,⟨some 29,.load 9 (.tmp 28),9,"text.go:101",#[⟨13,.data⟩,⟨9,.guard⟩],some (9,false)⟩,⟨some 30,.binOp .neq 9 (.tmp 27) (.tmp 29) 9,4,"text.go:101",#[⟨12,.data⟩,⟨14,.data⟩,⟨9,.guard⟩],some (9,false)⟩,⟨some 31,.pick (.tmp 24) (.const (.bool true)) (.tmp 30),4,"text.go:101",#[⟨9,.data⟩,⟨15,.data⟩],none⟩] true) Q ⟨#[u0,u1,(.slice (some ⟨bp,o,none⟩) l.length c),(.pointer (some ⟨w0.heap.size,0,none⟩)),u4,u5,u6,u7,u8,u9,u10,u11,u12,u13,u14,u15,u16,u17,u18,u19,u20,u21,u22,u23,u24,u25,u26,u27,u28,u29,u30,u31,u32,u33,u34,u35,u36,u37,u38,u39,u40,u41,u42,u43,u44,u45,u46,u47,u48,u49,u50,u51,u52,u53,u54,u55,u56,u57,u58,u59,u60,u61,u62,u63,u64,u65,u66,u67,u68,u69,u70,u71,u72],[]⟩ w := by
  have W1 : IntKind.i64.wrap ((1 : Int) + (r : Int)) = (1 : Int) + (r : Int) := IntWalk.i64_in _ (by omega)
  have W2 : IntKind.i64.wrap ((1 : Int) + (r : Int) + (n : Int)) = (1 : Int) + (r : Int) + (n : Int) := IntWalk.i64_in _ (by omega)
  have HL : ((l.length : Int) != (1 : Int) + (r : Int) + (n : Int)) = true := by simp; omega
  skip
  skip
  clear hl
  refine region_via (R := fun a_ e_ a' w' => e_ = .normal ∧ ∃ (v15 v16 v17 v18 v19 v20 v21 v22 v23 v24 v25 v26 v27 v28 v29 v30 : Value),a' = (((((((((((((((((a_.put (some 15) v15).put (some 16) v16).put (some 17) v17).put (some 18) v18).put (some 19) v19).put (some 20) v20).put (some 21) v21).put (some 22) v22).put (some 23) v23).put (some 24) v24).put (some 25) v25).put (some 26) v26).put (some 27) v27).put (some 28) v28).put (some 29) v29).put (some 30) v30).put (some 31) (.bool true)) ∧ AW word rep r n fv bp o l w0 w') ?_ ?_
  rotate_left
  · rintro e_ a' w' ⟨rfl,v15,v16,v17,v18,v19,v20,v21,v22,v23,v24,v25,v26,v27,v28,v29,v30,rfl,h1⟩
    simp only [Act.put,aT,aZ,aS]
    exact hK _ h1 _ _ _ _ _ _ _ _ _ _ _ _ _ _ _ _ 
  have hS : AW word rep r n fv bp o l w0 w.drew := hs.next (Below.refl _ _).drew
  refine wp_region_held_drew (S := AW word rep r n fv bp o l w0) (by kernel_rfl) hS (fun hS0 => ?_)
  clear hS0
  generalize w.drew = wd at hS ⊢
  refine wpAnyH_take (i := 0) (v := ?_) rfl (by kernel_rfl) (by kernel_rfl) (by kernel_rfl) (fun _ _ _ h => by cases h.1) (.inl ⟨by rfl,?_⟩) (by assumption) ?_
  rotate_left
  · (intro w' hSw; (try dsimp only at hSw); skip; go_simp <;> with_reducible rfl)
  (try simp only [Act.put,aT,aZ,aS])
  refine wpAnyH_take (i := 1) (v := ?_) rfl (by kernel_rfl) (by kernel_rfl) (by kernel_rfl) (fun _ _ _ h => by cases h.1) (.inl ⟨by rfl,?_⟩) (by assumption) ?_
  rotate_left
  · (intro w' hSw; (try dsimp only at hSw); skip; go_simp <;> with_reducible rfl)
  (try simp only [Act.put,aT,aZ,aS])
  refine wpAnyH_take (i := 2) (v := ?_) rfl (by kernel_rfl) (by kernel_rfl) (by kernel_rfl) (fun _ _ _ h => by cases h.1) (.inl ⟨by rfl,?_⟩) (by assumption) ?_
  rotate_left
  · (intro w' hSw; (try dsimp only at hSw); skip; go_simp <;> with_reducible rfl)
  (try simp only [Act.put,aT,aZ,aS])
  refine wpAnyH_take (i := 3) (v := ?_) rfl (by kernel_rfl) (by kernel_rfl) (by kernel_rfl) (fun _ _ _ h => by cases h.1) (.inl ⟨by rfl,?_⟩) (by assumption) ?_
  rotate_left
  · (intro w' hSw; (try dsimp only at hSw); have q0 := hSw.bk.at_ 2 (.int .i64 r) rfl; go_simp <;> with_reducible rfl)
  (try simp only [Act.put,aT,aZ,aS])
  refine wpAnyH_take (i := 4) (v := ?_) rfl (by kernel_rfl) (by kernel_rfl) (by kernel_rfl) (fun _ _ _ h => by cases h.1) (.inl ⟨by rfl,?_⟩) (by assumption) ?_
  rotate_left
  · (intro w' hSw; (try dsimp only at hSw); have q0 := W1; go_simp <;> with_reducible rfl)
  (try simp only [Act.put,aT,aZ,aS])
  refine wpAnyH_take (i := 5) (v := ?_) rfl (by kernel_rfl) (by kernel_rfl) (by kernel_rfl) (fun _ _ _ h => by cases h.1) (.inl ⟨by rfl,?_⟩) (by assumption) ?_
  rotate_left
  · (intro w' hSw; (try dsimp only at hSw); skip; go_simp <;> with_reducible rfl)
  (try simp only [Act.put,aT,aZ,aS])
  refine wpAnyH_take (i := 6) (v := ?_) rfl (by kernel_rfl) (by kernel_rfl) (by kernel_rfl) (fun _ _ _ h => by cases h.1) (.inl ⟨by rfl,?_⟩) (by assumption) ?_
  rotate_left
  · (intro w' hSw; (try dsimp only at hSw); have q0 := hSw.bk.at_ 3 (.int .i64 n) rfl; go_simp <;> with_reducible rfl)
  (try simp only [Act.put,aT,aZ,aS])
  refine wpAnyH_take (i := 7) (v := ?_) rfl (by kernel_rfl) (by kernel_rfl) (by kernel_rfl) (fun _ _ _ h => by cases h.1) (.inl ⟨by rfl,?_⟩) (by assumption) ?_
  rotate_left
  · (intro w' hSw; (try dsimp only at hSw); have q0 := W2; go_simp <;> with_reducible rfl)
  (try simp only [Act.put,aT,aZ,aS])
  refine wpAnyH_take (i := 8) (v := ?_) rfl (by kernel_rfl) (by kernel_rfl) (by kernel_rfl) (fun _ _ _ h => by cases h.1) (.inl ⟨by rfl,?_⟩) (by assumption) ?_
  rotate_left
  · (intro w' hSw; (try dsimp only at hSw); have q0 := HL; go_simp <;> with_reducible rfl)
  (try simp only [Act.put,aT,aZ,aS])
  refine wpAnyH_take (i := 9) (v := ?_) rfl (by kernel_rfl) (by kernel_rfl) (by kernel_rfl) (fun _ _ _ h => by cases h.1) (.inl ⟨by rfl,?_⟩) (by assumption) ?_
  rotate_left
  · (intro w' hSw; (try dsimp only at hSw); skip; go_simp <;> with_reducible rfl)
  (try simp only [Act.put,aT,aZ,aS])
  refine wpAnyH_take (i := 10) (v := undef) rfl (by kernel_rfl) (by kernel_rfl) (by kernel_rfl) (fun _ _ _ h => by cases h.1) (.inr ⟨by rfl,rfl⟩) (by assumption) ?_
  (try simp only [Act.put,aT,aZ,aS])
  refine wpAnyH_take (i := 11) (v := undef) rfl (by kernel_rfl) (by kernel_rfl) (by kernel_rfl) (fun _ _ _ h => by cases h.1) (.inr ⟨by rfl,rfl⟩) (by assumption) ?_
  (try simp only [Act.put,aT,aZ,aS])
  refine wpAnyH_take (i := 12) (v := undef) rfl (by kernel_rfl) (by kernel_rfl) (by kernel_rfl) (fun _ _ _ h => by cases h.1) (.inr ⟨by rfl,rfl⟩) (by assumption) ?_
  (try simp only [Act.put,aT,aZ,aS])
  refine wpAnyH_take (i := 13) (v := undef) rfl (by kernel_rfl) (by kernel_rfl) (by kernel_rfl) (fun _ _ _ h => by cases h.1) (.inr ⟨by rfl,rfl⟩) (by assumption) ?_
  (try simp only [Act.put,aT,aZ,aS])
  refine wpAnyH_take (i := 14) (v := undef) rfl (by kernel_rfl) (by kernel_rfl) (by kernel_rfl) (fun _ _ _ h => by cases h.1) (.inr ⟨by rfl,rfl⟩) (by assumption) ?_
  (try simp only [Act.put,aT,aZ,aS])
  refine wpAnyH_take (i := 15) (v := undef) rfl (by kernel_rfl) (by kernel_rfl) (by kernel_rfl) (fun _ _ _ h => by cases h.1) (.inr ⟨by rfl,rfl⟩) (by assumption) ?_
  (try simp only [Act.put,aT,aZ,aS])
  refine wpAnyH_take (i := 16) (v := ?_) rfl (by kernel_rfl) (by kernel_rfl) (by kernel_rfl) (fun _ _ _ h => by cases h.1) (.inl ⟨by rfl,?_⟩) (by assumption) ?_
  rotate_left
  · (intro w' hSw; (try dsimp only at hSw); skip; go_simp <;> with_reducible rfl)
  (try simp only [Act.put,aT,aZ,aS])
  refine wpAnyH_done (by kernel_rfl) ?_ _
  exact ⟨rfl,_,_,_,_,_,_,_,_,_,_,_,_,_,_,_,_,rfl,hS⟩
end Go.Proofs.YtljefjngmembkaaGreatDoor
