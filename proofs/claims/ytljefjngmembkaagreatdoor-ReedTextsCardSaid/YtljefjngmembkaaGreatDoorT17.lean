/- Part 17 of the proof: TxO. -/
import Derived.Maps.AppendAt
import Derived.Test.YtljefjngmembkaaGreatDoorT14
import Derived.Test.YtljefjngmembkaaGreatDoorT16
namespace Go.Proofs.YtljefjngmembkaaGreatDoor
set_option linter.all false
open Go.RowKit
structure PJ (g Bs : Nat) (w0 : World) (J : Jb) (sv : Value) (w : World) : Prop where
  bk : Bk w g 30 (jobC J sv)
  own : w.ownsRow Bs 23 2 sv J.sh.length (rgCells J.sh)
  pb : PB g Bs w0 w
  lt : g < Bs ∧ Bs ≤ w.heap.size
structure PJ0 (g Bs : Nat) (w0 : World) (J : Jb) (sv : Value) (w : World) : Prop where
  bk : Bk w g 30 (jobC J sv)
  pb : PB g Bs w0 w
  lt : g < Bs ∧ Bs ≤ w.heap.size
section
variable {g Bs : Nat} {w0 w w' : World} {J : Jb} {sv v' : Value} {x : R2}
theorem PJ.of (h : PJ g Bs w0 J sv w) {J' : Jb} (he : J'.sh = J.sh) (hb : Bk w' g 30 (jobC J' sv)) (hk : PB g w.heap.size w w') : PJ g Bs w0 J' sv w' := by
  obtain ⟨l1,l2⟩ := h.lt
  refine ⟨hb,?_,h.pb.trans hk l2,l1,Nat.le_trans l2 hk.size⟩
  rw [he]
  exact own_of' h.own (fun q hq hlt => hk.heap q hlt (by omega))
theorem PJ.below (h : PJ g Bs w0 J sv w) {B : Nat} (hb : Below B w w') (hB : w.heap.size ≤ B) : PJ g Bs w0 J sv w' :=
  h.of rfl (h.bk.below hb (by have := h.bk.lt; omega)) (PB.of (hb.mono hB))
theorem PJ.drew (h : PJ g Bs w0 J sv w) : PJ g Bs w0 J sv w.drew := h.below (Below.refl _ _).drew (Nat.le_refl _)
def PJx (g Bs : Nat) (w0 : World) (J : Jb) (sv v' : Value) (x : R2) (w : World) : Prop :=
  PJ0 g Bs w0 J sv w ∧ w.ownsRow Bs 23 2 v' (J.sh ++ [x]).length (rgCells (J.sh ++ [x]))
theorem PJ.grown (h : PJ g Bs w0 J sv w) (hown : w'.ownsRow Bs 23 2 v' (J.sh.length + 1) (rgCells J.sh ++ [.int .i64 x.1,.int .i64 x.2])) (hg : w.grownBy w' sv.ownBlock) :
    PJ0 g Bs w0 J sv w' ∧ w'.ownsRow Bs 23 2 v' (J.sh ++ [x]).length (rgCells (J.sh ++ [x])) := by
  obtain ⟨l1,l2⟩ := h.lt
  have hob : ∀ q,sv.ownBlock = some q → Bs ≤ q := fun q hq => (own_block' h.own q hq).1
  have hne : ∀ q,q < Bs → some q ≠ sv.ownBlock := fun q hql e => by have := hob q e.symm; omega
  refine ⟨⟨h.bk.grown hg (hne _ l1),⟨hg.os.trans h.pb.os,hg.tape.trans h.pb.tape,hg.output.trans h.pb.output,Nat.le_trans h.pb.size hg.size,fun q hq hqb => (hg.block q (Nat.lt_of_lt_of_le hq l2) (hne q hq)).trans (h.pb.heap q hq hqb)⟩,l1,Nat.le_trans l2 hg.size⟩,?_⟩
  rw [rgCells_snoc,List.length_append]
  exact hown
theorem PJx.put (h : PJx g Bs w0 J sv v' x w) : PJ g Bs w0 { J with sh := J.sh ++ [x] } v' (w.setCell ⟨g,15,none⟩ v') := by
  obtain ⟨⟨h1,h2,l1,l2⟩,h4⟩ := h
  have hz : w.heap.size ≤ (w.setCell ⟨g,15,none⟩ v').heap.size := by simp
  refine ⟨h1.put 15 v',own_of' h4 (fun q hq _ => Below.heap_setCell w ⟨g,15,none⟩ v' q (by show q ≠ g; omega)),h2.put1 15 v',l1,Nat.le_trans l2 hz⟩
end
set_option maxHeartbeats 1000000 in
set_option maxRecDepth 100000 in
theorem take3_any (x : R2) (g Bs h o rc : Nat) (w0 : World) (J : Jb) (sv na : Value) (w : World) (hJ : PJ g Bs w0 J sv w) (hx : w.cell? ⟨h,o,none⟩ = some (.int .i64 x.1)) (hy : w.cell? ⟨h,o + 1,none⟩ = some (.int .i64 x.2)) (hm : J.sh.length ≤ 1000000) :
    Calls Tryz.prog 79 #[.pointer (some ⟨g,0,none⟩),.slice (some ⟨h,o,none⟩) 1 rc,na] w fun e w' => e = .returned (.tuple #[]) ∧ ∃ v',PJ g Bs w0 { J with sh := J.sh ++ [x] } v' w' := by
  have hX : w.cell? ⟨h,o,none⟩ = some (.int .i64 x.1) ∧ w.cell? ⟨h,o + 1,none⟩ = some (.int .i64 x.2) := ⟨hx,hy⟩
  obtain ⟨ti,ti1,ti2,ti3,ti4⟩ := infoR
  have Hi := hidMk ti1
  have Hz := hidMk ti2
  have Hsz := hidMk ti3
  have Hby := hidMk ti4
  clear hx hy ti1 ti2 ti3 ti4
  go_enter Tryz.func79,Tryz.ntmps79
  go_wp2_with fail
  refine region_via (R := fun a_ e_ a' w' => e_ = .normal ∧ ∃ (v6 v7 v8 v9 v10 v11 v12 v13 v14 v15 v16 v17 v' : Value),a' = ((((((((((((a_.put (some 6) v6).put (some 7) v7).put (some 8) v8).put (some 9) v9).put (some 10) v10).put (some 11) v11).put (some 12) v12).put (some 13) v13).put (some 14) v14).put (some 15) v15).put (some 16) v16).put (some 17) v17) ∧ PJ g Bs w0 { J with sh := J.sh ++ [x] } v' w') ?_ ?_
  rotate_left
  · rintro e_ a' w' ⟨rfl,v6,v7,v8,v9,v10,v11,v12,v13,v14,v15,v16,v17,v',rfl,h1⟩
    simp only [Act.put,aT,aZ,aS]
    have HB' := hidMk h1
    clear h1 hX hJ
    go_wp2_with fail
    refine bodyPost_end (v := .tuple #[]) (by simp [results,Tryz.results79,go_sem]) rfl ⟨rfl,v',HB'.out⟩
  have hJ_ : PJ g Bs w0 J sv w.drew := hJ.drew
  have hX_ : w.drew.cell? ⟨h,o,none⟩ = some (.int .i64 x.1) ∧ w.drew.cell? ⟨h,o + 1,none⟩ = some (.int .i64 x.2) := hX
  clear hJ hX
  have hJ := hJ_
  have hX := hX_
  clear hJ_ hX_
  refine wp_region_held_drew (S := (fun _ => True)) (by kernel_rfl) trivial (fun _ => ?_)
  generalize w.drew = wd at hJ hX ⊢
  refine wT (i := 0) (oi := ⟨some 6,.move (.tmp 0),118,"text.go:66",#[],none⟩) (v := ?_) rfl (.inl ⟨by rfl,?_⟩) ?_
  rotate_left
  · (intro w' hSw; (try dsimp only at hSw); go_simp <;> with_reducible rfl)
  (try simp only [Act.put,aT,aZ,aS])
  refine wT (i := 1) (oi := ⟨some 7,.move (.tmp 0),118,"text.go:66",#[],none⟩) (v := ?_) rfl (.inl ⟨by rfl,?_⟩) ?_
  rotate_left
  · (intro w' hSw; (try dsimp only at hSw); go_simp <;> with_reducible rfl)
  (try simp only [Act.put,aT,aZ,aS])
  refine wT (i := 2) (oi := ⟨some 8,.nilCheck (.tmp 7),0,"text.go:66",#[⟨1,.data⟩],none⟩) (v := ?_) rfl (.inl ⟨by rfl,?_⟩) ?_
  rotate_left
  · (intro w' hSw; (try dsimp only at hSw); go_simp <;> with_reducible rfl)
  (try simp only [Act.put,aT,aZ,aS])
  refine wT (i := 3) (oi := ⟨some 9,.fieldAddr 30 (.tmp 8) 2,0,"text.go:66",#[⟨2,.data⟩],none⟩) (v := ?_) rfl (.inl ⟨by rfl,?_⟩) ?_
  rotate_left
  · (intro w' hSw; (try dsimp only at hSw); go_simp <;> with_reducible rfl)
  (try simp only [Act.put,aT,aZ,aS])
  refine wT (i := 5) (oi := ⟨some 11,.move (.tmp 1),28,"text.go:66",#[],none⟩) (v := ?_) rfl (.inl ⟨by rfl,?_⟩) ?_
  rotate_left
  · (intro w' hSw; (try dsimp only at hSw); go_simp <;> with_reducible rfl)
  (try simp only [Act.put,aT,aZ,aS])
  refine wT (i := 6) (oi := ⟨some 12,.indexAddr 28 (.tmp 11) (.const (.int .i64 0)),0,"text.go:66",#[⟨5,.data⟩],none⟩) (v := ?_) rfl (.inl ⟨by rfl,?_⟩) ?_
  rotate_left
  · (intro w' hSw; (try dsimp only at hSw); go_simp <;> with_reducible rfl)
  (try simp only [Act.put,aT,aZ,aS])
  refine wpAnyH_ready (rs := [4,7]) (by kernel_rfl) (by simp) ?_
  refine AllReadyH.cons (o := ⟨some 10,.load 28 (.tmp 9),28,"text.go:66",#[⟨3,.data⟩],none⟩) rfl (fun K hK => ?_) ?_
  · have c15 := hJ.bk.at_ 15 sv rfl
    go_simp
    refine hK.out _ _ trivial (fun _ => ?_)
    clear c15
    clear hK K
    (try simp only [Act.put,aT,aZ,aS])
    refine wpAnyH_ready (rs := [7]) (by kernel_rfl) (by simp) ?_
    refine AllReadyH.cons (o := ⟨some 13,.load 23 (.tmp 12),23,"text.go:66",#[⟨6,.data⟩],none⟩) rfl (fun K hK => ?_) ?_
    · have q0 := hX.1
      have q1 := hX.2
      go_simp
      refine hK.out _ _ trivial (fun _ => ?_)
      clear q0 q1 hX
      clear hK K
      (try simp only [Act.put,aT,aZ,aS])
      refine wpAnyH_ready (rs := [8]) (by kernel_rfl) (by simp) ?_
      refine AllReadyH.cons (o := ⟨some 14,.buildSlice 28 1 #[(0,.tmp 13)],28,"text.go:66",#[⟨7,.data⟩],none⟩) rfl (fun K hK => ?_) ?_
      · have hA : Bk (wd.alloc (.cells #[.int .i64 x.1,.int .i64 x.2] 23)) wd.heap.size 23 #[.int .i64 x.1,.int .i64 x.2] := Bk.new _ _ _
        have hbl : Below wd.heap.size wd (wd.alloc (.cells #[.int .i64 x.1,.int .i64 x.2] 23)) := (Below.refl _ _).alloc (Nat.le_refl _) _
        have hJ_ := hJ.below hbl (Nat.le_refl _)
        go_simp
        show K _ (wd.alloc (.cells #[.int .i64 x.1,.int .i64 x.2] 23))
        refine hK.out _ _ trivial (fun _ => ?_)
        clear hJ hbl
        have hJ := hJ_
        clear hJ_
        generalize wd.heap.size = gA at hA ⊢
        generalize (wd.alloc (.cells #[.int .i64 x.1,.int .i64 x.2] 23)) = wz at hA hJ ⊢
        clear hK K
        (try simp only [Act.put,aT,aZ,aS])
        refine wpAnyH_ready (rs := [9]) (by kernel_rfl) (by simp) ?_
        refine AllReadyH.cons (o := ⟨some 15,.call { callee := .builtin .append,args := #[.tmp 10,.tmp 14],argTypes := #[28,28] },28,"text.go:66",#[⟨4,.data⟩,⟨8,.data⟩],none⟩) rfl (fun K hK => ?_) ?_
        · refine wp_append_own (.tmp 10) (.tmp 14) 28 rfl Bs 23 ti (.agg #[.int .i64 0,.int .i64 0]) 2 16 Tryz.underlying28 Hi.out Hz.out Hsz.out Hby.out rfl (by decide) sv J.sh.length (rgCells J.sh) rfl hJ.own ⟨gA,0,none⟩ 1 1 [.int .i64 x.1,.int .i64 x.2] rfl rfl (fun j u hu => by rw [Addr.add_mid,Nat.zero_add]; exact hA.at_ j u (by simpa using hu)) (by intro u hu; simp at hu; rcases hu with rfl | rfl <;> rfl) (by unfold maxLen; omega) (by omega) hJ.lt.2 ?_
          intro v' wu own' hg' _
          obtain ⟨qb,cp,rfl⟩ : ∃ qb cp,v' = .slice (some ⟨qb,0,none⟩) (J.sh.length + 1) cp := by
            rcases own'.2 with ⟨_,h⟩ | ⟨q,cap,cur,h,_⟩
            · omega
            · exact ⟨q,cap,h⟩
          obtain ⟨hq1,hq2⟩ := hJ.grown (x := x) own' hg'
          have hS_ : PJx g Bs w0 J sv (.slice (some ⟨qb,0,none⟩) (J.sh.length + 1) cp) x wu := ⟨hq1,hq2⟩
          refine hK.out _ _ trivial (fun _ => ?_)
          clear hJ hA own' hg' hq1 hq2
          have hJ := hS_
          clear hS_
          clear hK K
          (try simp only [Act.put,aT,aZ,aS])
          refine wT (i := 10) (oi := ⟨some 16,.nilCheck (.tmp 6),0,"text.go:66",#[⟨0,.data⟩,⟨0,.phase⟩,⟨1,.phase⟩,⟨2,.phase⟩,⟨3,.phase⟩,⟨4,.phase⟩,⟨5,.phase⟩,⟨6,.phase⟩,⟨7,.phase⟩,⟨8,.phase⟩,⟨9,.phase⟩],none⟩) (v := ?_) rfl (.inl ⟨by rfl,?_⟩) ?_
          rotate_left
          · (intro w' hSw; (try dsimp only at hSw); go_simp <;> with_reducible rfl)
          (try simp only [Act.put,aT,aZ,aS])
          refine wT (i := 11) (oi := ⟨some 17,.fieldAddr 30 (.tmp 16) 2,0,"text.go:66",#[⟨10,.data⟩,⟨0,.phase⟩,⟨1,.phase⟩,⟨2,.phase⟩,⟨3,.phase⟩,⟨4,.phase⟩,⟨5,.phase⟩,⟨6,.phase⟩,⟨7,.phase⟩,⟨8,.phase⟩,⟨9,.phase⟩],none⟩) (v := ?_) rfl (.inl ⟨by rfl,?_⟩) ?_
          rotate_left
          · (intro w' hSw; (try dsimp only at hSw); go_simp <;> with_reducible rfl)
          (try simp only [Act.put,aT,aZ,aS])
          refine wpAnyH_ready (rs := [12]) (by kernel_rfl) (by simp) ?_
          refine AllReadyH.cons (o := ⟨none,.store 28 (.tmp 17) (.tmp 15),0,"text.go:66",#[⟨11,.data⟩,⟨9,.data⟩,⟨9,.chain⟩,⟨0,.phase⟩,⟨1,.phase⟩,⟨2,.phase⟩,⟨3,.phase⟩,⟨4,.phase⟩,⟨5,.phase⟩,⟨6,.phase⟩,⟨7,.phase⟩,⟨8,.phase⟩,⟨9,.phase⟩],none⟩) rfl (fun K hK => ?_) ?_
          · have z15 := hJ.1.bk.at_ 15 sv rfl
            have f15 := hJ.1.bk.free 15
            have hJ_ := hJ.put
            go_simp
            refine hK.out _ _ trivial (fun _ => ?_)
            clear hJ z15 f15
            have hJ := hJ_
            clear hJ_
            clear hK K
            (try simp only [Act.put,aT,aZ,aS])
            refine wpAnyH_done (by kernel_rfl) ?_ _
            exact ⟨rfl,_,_,_,_,_,_,_,_,_,_,_,_,_,rfl,hJ⟩
          exact AllReadyH.nil
        exact AllReadyH.nil
      exact AllReadyH.nil
    exact AllReadyH.nil
  refine AllReadyH.cons (o := ⟨some 13,.load 23 (.tmp 12),23,"text.go:66",#[⟨6,.data⟩],none⟩) rfl (fun K hK => ?_) ?_
  · have q0 := hX.1
    have q1 := hX.2
    go_simp
    refine hK.out _ _ trivial (fun _ => ?_)
    clear q0 q1 hX
    clear hK K
    (try simp only [Act.put,aT,aZ,aS])
    refine wpAnyH_ready (rs := [4,8]) (by kernel_rfl) (by simp) ?_
    refine AllReadyH.cons (o := ⟨some 10,.load 28 (.tmp 9),28,"text.go:66",#[⟨3,.data⟩],none⟩) rfl (fun K hK => ?_) ?_
    · have c15 := hJ.bk.at_ 15 sv rfl
      go_simp
      refine hK.out _ _ trivial (fun _ => ?_)
      clear c15
      clear hK K
      (try simp only [Act.put,aT,aZ,aS])
      refine wpAnyH_ready (rs := [8]) (by kernel_rfl) (by simp) ?_
      refine AllReadyH.cons (o := ⟨some 14,.buildSlice 28 1 #[(0,.tmp 13)],28,"text.go:66",#[⟨7,.data⟩],none⟩) rfl (fun K hK => ?_) ?_
      · have hA : Bk (wd.alloc (.cells #[.int .i64 x.1,.int .i64 x.2] 23)) wd.heap.size 23 #[.int .i64 x.1,.int .i64 x.2] := Bk.new _ _ _
        have hbl : Below wd.heap.size wd (wd.alloc (.cells #[.int .i64 x.1,.int .i64 x.2] 23)) := (Below.refl _ _).alloc (Nat.le_refl _) _
        have hJ_ := hJ.below hbl (Nat.le_refl _)
        go_simp
        show K _ (wd.alloc (.cells #[.int .i64 x.1,.int .i64 x.2] 23))
        refine hK.out _ _ trivial (fun _ => ?_)
        clear hJ hbl
        have hJ := hJ_
        clear hJ_
        generalize wd.heap.size = gA at hA ⊢
        generalize (wd.alloc (.cells #[.int .i64 x.1,.int .i64 x.2] 23)) = wz at hA hJ ⊢
        clear hK K
        (try simp only [Act.put,aT,aZ,aS])
        refine wpAnyH_ready (rs := [9]) (by kernel_rfl) (by simp) ?_
        refine AllReadyH.cons (o := ⟨some 15,.call { callee := .builtin .append,args := #[.tmp 10,.tmp 14],argTypes := #[28,28] },28,"text.go:66",#[⟨4,.data⟩,⟨8,.data⟩],none⟩) rfl (fun K hK => ?_) ?_
        · refine wp_append_own (.tmp 10) (.tmp 14) 28 rfl Bs 23 ti (.agg #[.int .i64 0,.int .i64 0]) 2 16 Tryz.underlying28 Hi.out Hz.out Hsz.out Hby.out rfl (by decide) sv J.sh.length (rgCells J.sh) rfl hJ.own ⟨gA,0,none⟩ 1 1 [.int .i64 x.1,.int .i64 x.2] rfl rfl (fun j u hu => by rw [Addr.add_mid,Nat.zero_add]; exact hA.at_ j u (by simpa using hu)) (by intro u hu; simp at hu; rcases hu with rfl | rfl <;> rfl) (by unfold maxLen; omega) (by omega) hJ.lt.2 ?_
          intro v' wu own' hg' _
          obtain ⟨qb,cp,rfl⟩ : ∃ qb cp,v' = .slice (some ⟨qb,0,none⟩) (J.sh.length + 1) cp := by
            rcases own'.2 with ⟨_,h⟩ | ⟨q,cap,cur,h,_⟩
            · omega
            · exact ⟨q,cap,h⟩
          obtain ⟨hq1,hq2⟩ := hJ.grown (x := x) own' hg'
          have hS_ : PJx g Bs w0 J sv (.slice (some ⟨qb,0,none⟩) (J.sh.length + 1) cp) x wu := ⟨hq1,hq2⟩
          refine hK.out _ _ trivial (fun _ => ?_)
          clear hJ hA own' hg' hq1 hq2
          have hJ := hS_
          clear hS_
          clear hK K
          (try simp only [Act.put,aT,aZ,aS])
          refine wT (i := 10) (oi := ⟨some 16,.nilCheck (.tmp 6),0,"text.go:66",#[⟨0,.data⟩,⟨0,.phase⟩,⟨1,.phase⟩,⟨2,.phase⟩,⟨3,.phase⟩,⟨4,.phase⟩,⟨5,.phase⟩,⟨6,.phase⟩,⟨7,.phase⟩,⟨8,.phase⟩,⟨9,.phase⟩],none⟩) (v := ?_) rfl (.inl ⟨by rfl,?_⟩) ?_
          rotate_left
          · (intro w' hSw; (try dsimp only at hSw); go_simp <;> with_reducible rfl)
          (try simp only [Act.put,aT,aZ,aS])
          refine wT (i := 11) (oi := ⟨some 17,.fieldAddr 30 (.tmp 16) 2,0,"text.go:66",#[⟨10,.data⟩,⟨0,.phase⟩,⟨1,.phase⟩,⟨2,.phase⟩,⟨3,.phase⟩,⟨4,.phase⟩,⟨5,.phase⟩,⟨6,.phase⟩,⟨7,.phase⟩,⟨8,.phase⟩,⟨9,.phase⟩],none⟩) (v := ?_) rfl (.inl ⟨by rfl,?_⟩) ?_
          rotate_left
          · (intro w' hSw; (try dsimp only at hSw); go_simp <;> with_reducible rfl)
          (try simp only [Act.put,aT,aZ,aS])
          refine wpAnyH_ready (rs := [12]) (by kernel_rfl) (by simp) ?_
          refine AllReadyH.cons (o := ⟨none,.store 28 (.tmp 17) (.tmp 15),0,"text.go:66",#[⟨11,.data⟩,⟨9,.data⟩,⟨9,.chain⟩,⟨0,.phase⟩,⟨1,.phase⟩,⟨2,.phase⟩,⟨3,.phase⟩,⟨4,.phase⟩,⟨5,.phase⟩,⟨6,.phase⟩,⟨7,.phase⟩,⟨8,.phase⟩,⟨9,.phase⟩],none⟩) rfl (fun K hK => ?_) ?_
          · have z15 := hJ.1.bk.at_ 15 sv rfl
            have f15 := hJ.1.bk.free 15
            have hJ_ := hJ.put
            go_simp
            refine hK.out _ _ trivial (fun _ => ?_)
            clear hJ z15 f15
            have hJ := hJ_
            clear hJ_
            clear hK K
            (try simp only [Act.put,aT,aZ,aS])
            refine wpAnyH_done (by kernel_rfl) ?_ _
            exact ⟨rfl,_,_,_,_,_,_,_,_,_,_,_,_,_,rfl,hJ⟩
          exact AllReadyH.nil
        exact AllReadyH.nil
      exact AllReadyH.nil
    refine AllReadyH.cons (o := ⟨some 14,.buildSlice 28 1 #[(0,.tmp 13)],28,"text.go:66",#[⟨7,.data⟩],none⟩) rfl (fun K hK => ?_) ?_
    · have hA : Bk (wd.alloc (.cells #[.int .i64 x.1,.int .i64 x.2] 23)) wd.heap.size 23 #[.int .i64 x.1,.int .i64 x.2] := Bk.new _ _ _
      have hbl : Below wd.heap.size wd (wd.alloc (.cells #[.int .i64 x.1,.int .i64 x.2] 23)) := (Below.refl _ _).alloc (Nat.le_refl _) _
      have hJ_ := hJ.below hbl (Nat.le_refl _)
      go_simp
      show K _ (wd.alloc (.cells #[.int .i64 x.1,.int .i64 x.2] 23))
      refine hK.out _ _ trivial (fun _ => ?_)
      clear hJ hbl
      have hJ := hJ_
      clear hJ_
      generalize wd.heap.size = gA at hA ⊢
      generalize (wd.alloc (.cells #[.int .i64 x.1,.int .i64 x.2] 23)) = wz at hA hJ ⊢
      clear hK K
      (try simp only [Act.put,aT,aZ,aS])
      refine wpAnyH_ready (rs := [4]) (by kernel_rfl) (by simp) ?_
      refine AllReadyH.cons (o := ⟨some 10,.load 28 (.tmp 9),28,"text.go:66",#[⟨3,.data⟩],none⟩) rfl (fun K hK => ?_) ?_
      · have c15 := hJ.bk.at_ 15 sv rfl
        go_simp
        refine hK.out _ _ trivial (fun _ => ?_)
        clear c15
        clear hK K
        (try simp only [Act.put,aT,aZ,aS])
        refine wpAnyH_ready (rs := [9]) (by kernel_rfl) (by simp) ?_
        refine AllReadyH.cons (o := ⟨some 15,.call { callee := .builtin .append,args := #[.tmp 10,.tmp 14],argTypes := #[28,28] },28,"text.go:66",#[⟨4,.data⟩,⟨8,.data⟩],none⟩) rfl (fun K hK => ?_) ?_
        · refine wp_append_own (.tmp 10) (.tmp 14) 28 rfl Bs 23 ti (.agg #[.int .i64 0,.int .i64 0]) 2 16 Tryz.underlying28 Hi.out Hz.out Hsz.out Hby.out rfl (by decide) sv J.sh.length (rgCells J.sh) rfl hJ.own ⟨gA,0,none⟩ 1 1 [.int .i64 x.1,.int .i64 x.2] rfl rfl (fun j u hu => by rw [Addr.add_mid,Nat.zero_add]; exact hA.at_ j u (by simpa using hu)) (by intro u hu; simp at hu; rcases hu with rfl | rfl <;> rfl) (by unfold maxLen; omega) (by omega) hJ.lt.2 ?_
          intro v' wu own' hg' _
          obtain ⟨qb,cp,rfl⟩ : ∃ qb cp,v' = .slice (some ⟨qb,0,none⟩) (J.sh.length + 1) cp := by
            rcases own'.2 with ⟨_,h⟩ | ⟨q,cap,cur,h,_⟩
            · omega
            · exact ⟨q,cap,h⟩
          obtain ⟨hq1,hq2⟩ := hJ.grown (x := x) own' hg'
          have hS_ : PJx g Bs w0 J sv (.slice (some ⟨qb,0,none⟩) (J.sh.length + 1) cp) x wu := ⟨hq1,hq2⟩
          refine hK.out _ _ trivial (fun _ => ?_)
          clear hJ hA own' hg' hq1 hq2
          have hJ := hS_
          clear hS_
          clear hK K
          (try simp only [Act.put,aT,aZ,aS])
          refine wT (i := 10) (oi := ⟨some 16,.nilCheck (.tmp 6),0,"text.go:66",#[⟨0,.data⟩,⟨0,.phase⟩,⟨1,.phase⟩,⟨2,.phase⟩,⟨3,.phase⟩,⟨4,.phase⟩,⟨5,.phase⟩,⟨6,.phase⟩,⟨7,.phase⟩,⟨8,.phase⟩,⟨9,.phase⟩],none⟩) (v := ?_) rfl (.inl ⟨by rfl,?_⟩) ?_
          rotate_left
          · (intro w' hSw; (try dsimp only at hSw); go_simp <;> with_reducible rfl)
          (try simp only [Act.put,aT,aZ,aS])
          refine wT (i := 11) (oi := ⟨some 17,.fieldAddr 30 (.tmp 16) 2,0,"text.go:66",#[⟨10,.data⟩,⟨0,.phase⟩,⟨1,.phase⟩,⟨2,.phase⟩,⟨3,.phase⟩,⟨4,.phase⟩,⟨5,.phase⟩,⟨6,.phase⟩,⟨7,.phase⟩,⟨8,.phase⟩,⟨9,.phase⟩],none⟩) (v := ?_) rfl (.inl ⟨by rfl,?_⟩) ?_
          rotate_left
          · (intro w' hSw; (try dsimp only at hSw); go_simp <;> with_reducible rfl)
          (try simp only [Act.put,aT,aZ,aS])
          refine wpAnyH_ready (rs := [12]) (by kernel_rfl) (by simp) ?_
          refine AllReadyH.cons (o := ⟨none,.store 28 (.tmp 17) (.tmp 15),0,"text.go:66",#[⟨11,.data⟩,⟨9,.data⟩,⟨9,.chain⟩,⟨0,.phase⟩,⟨1,.phase⟩,⟨2,.phase⟩,⟨3,.phase⟩,⟨4,.phase⟩,⟨5,.phase⟩,⟨6,.phase⟩,⟨7,.phase⟩,⟨8,.phase⟩,⟨9,.phase⟩],none⟩) rfl (fun K hK => ?_) ?_
          · have z15 := hJ.1.bk.at_ 15 sv rfl
            have f15 := hJ.1.bk.free 15
            have hJ_ := hJ.put
            go_simp
            refine hK.out _ _ trivial (fun _ => ?_)
            clear hJ z15 f15
            have hJ := hJ_
            clear hJ_
            clear hK K
            (try simp only [Act.put,aT,aZ,aS])
            refine wpAnyH_done (by kernel_rfl) ?_ _
            exact ⟨rfl,_,_,_,_,_,_,_,_,_,_,_,_,_,rfl,hJ⟩
          exact AllReadyH.nil
        exact AllReadyH.nil
      exact AllReadyH.nil
    exact AllReadyH.nil
  exact AllReadyH.nil
end Go.Proofs.YtljefjngmembkaaGreatDoor
