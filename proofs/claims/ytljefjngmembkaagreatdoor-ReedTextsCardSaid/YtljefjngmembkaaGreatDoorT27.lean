/- Part 27 of the proof: RtJ. -/
import Derived.Maps.AppendAt
import Derived.Test.YtljefjngmembkaaGreatDoorT26
namespace Go.Proofs.YtljefjngmembkaaGreatDoor
set_option linter.all false
open Go.RowKit Go.Lib
set_option maxHeartbeats 2000000 in
set_option maxRecDepth 1000000 in
theorem rd13 {g Bs q cp : Nat} {x0 x1 : Int} {w1 w : World} {J : Jb} {sv : Value} {Q : Exit → Act → World → Prop} {u0 u1 u2 u3 u4 u5 u7 u8 u9 A1 A2 A3 A4 A5 A6 A7 A8 A9 Aa Ab Ac Ad Ae Af Ag Ah Ai Aj Ak Al Am An Ao Ap Aq Ar As At Au Av Aw Ax Ay Az C0 C1 C2 C3 C4 C5 C6 C7 C8 C9 Ca Cb Cc Cd Ce Cf Cg Ch Ci Cj Ck Cl Cm Cn Co Cp Cq Cr Cs Ct Cu Cv Cw Cx Cy Cz D0 D1 D2 D3 D4 D5 D6 D7 D8 D9 Da Db Dc Dd De Df Dg Dh Di Dj Dk Dl Dm Dn Do Dp Dq Dr Ds Dt Du Dv Dw Dx Dy Dz E0 E1 E2 E3 E4 E5 E6 E7 E8 E9 Ea Eb Ec Ed Ee Ef Eg Eh Ei Ej Ek El Em En Eo : Value} (hJ : PJ g Bs w1 J sv w) (hq : Bs ≤ q ∧ q < w.heap.size) (hc : w.cell? ⟨q,0,none⟩ = some (.int .i64 x0) ∧ w.cell? ⟨q,1,none⟩ = some (.int .i64 x1)) (hm : J.sh.length ≤ 1000000) (hK : ∀ (w' : World) (v' : Value),PJ g Bs w1 { J with sh := J.sh ++ [(x0,x1)] } v' w' → ∀ (v34 v35 v36 v37 v38 v39 v40 : Value),Q .normal ⟨#[u0,u1,u2,u3,u4,u5,(.pointer (some ⟨g,0,none⟩)),u7,u8,u9,(.slice (some ⟨q,0,none⟩) 2 cp),A1,A2,A3,A4,A5,A6,A7,A8,A9,Aa,Ab,Ac,Ad,Ae,Af,Ag,Ah,Ai,Aj,Ak,Al,Am,An,v34,v35,v36,v37,v38,v39,v40,Av,Aw,Ax,Ay,Az,C0,C1,C2,C3,C4,C5,C6,C7,C8,C9,Ca,Cb,Cc,Cd,Ce,Cf,Cg,Ch,Ci,Cj,Ck,Cl,Cm,Cn,Co,Cp,Cq,Cr,Cs,Ct,Cu,Cv,Cw,Cx,Cy,Cz,D0,D1,D2,D3,D4,D5,D6,D7,D8,D9,Da,Db,Dc,Dd,De,Df,Dg,Dh,Di,Dj,Dk,Dl,Dm,Dn,Do,Dp,Dq,Dr,Ds,Dt,Du,Dv,Dw,Dx,Dy,Dz,E0,E1,E2,E3,E4,E5,E6,E7,E8,E9,Ea,Eb,Ec,Ed,Ee,Ef,Eg,Eh,Ei,Ej,Ek,El,Em,En,Eo],[]⟩ w') : Code.wp Tryz.prog (Code.region 13 #[⟨some 34,.fieldAddr 30 (.tmp 6) 2,0,"text.go:106",#[],none⟩,⟨some 35,.load 28 (.tmp 34),28,"text.go:106",#[⟨0,.data⟩],none⟩,⟨some 36,.move (.tmp 10),31,"text.go:106",#[],none⟩,⟨some 37,.call { callee := .value (.func 38),args := #[.tmp 36,.const (.int .i64 0)],argTypes := #[31,3] },23,"text.go:106",#[⟨2,.data⟩],none⟩,⟨some 38,.buildSlice 28 1 #[(0,.tmp 37)],28,"text.go:106",#[⟨3,.data⟩],none⟩,⟨some 39,.call { callee := .builtin .append,args := #[.tmp 35,.tmp 38],argTypes := #[28,28] },28,"text.go:106",#[⟨1,.data⟩,⟨4,.data⟩,⟨3,.chain⟩],none⟩,⟨some 40,.fieldAddr 30 (.tmp 6) 2,0,"text.go:106",#[⟨0,.phase⟩,⟨1,.phase⟩,⟨2,.phase⟩,⟨3,.phase⟩,⟨4,.phase⟩,⟨5,.phase⟩],none⟩,⟨none,.store 28 (.tmp 40) (.tmp 39),0,"text.go:106",#[⟨6,.data⟩,⟨5,.data⟩,⟨5,.chain⟩,⟨0,.phase⟩,⟨1,.phase⟩,⟨2,.phase⟩,⟨3,.phase⟩,⟨4,.phase⟩,⟨5,.phase⟩],none⟩] true) Q ⟨#[u0,u1,u2,u3,u4,u5,(.pointer (some ⟨g,0,none⟩)),u7,u8,u9,(.slice (some ⟨q,0,none⟩) 2 cp),A1,A2,A3,A4,A5,A6,A7,A8,A9,Aa,Ab,Ac,Ad,Ae,Af,Ag,Ah,Ai,Aj,Ak,Al,Am,An,Ao,Ap,Aq,Ar,As,At,Au,Av,Aw,Ax,Ay,Az,C0,C1,C2,C3,C4,C5,C6,C7,C8,C9,Ca,Cb,Cc,Cd,Ce,Cf,Cg,Ch,Ci,Cj,Ck,Cl,Cm,Cn,Co,Cp,Cq,Cr,Cs,Ct,Cu,Cv,Cw,Cx,Cy,Cz,D0,D1,D2,D3,D4,D5,D6,D7,D8,D9,Da,Db,Dc,Dd,De,Df,Dg,Dh,Di,Dj,Dk,Dl,Dm,Dn,Do,Dp,Dq,Dr,Ds,Dt,Du,Dv,Dw,Dx,Dy,Dz,E0,E1,E2,E3,E4,E5,E6,E7,E8,E9,Ea,Eb,Ec,Ed,Ee,Ef,Eg,Eh,Ei,Ej,Ek,El,Em,En,Eo],[]⟩ w := by
  have HK := hidMk hK
  clear hK
  obtain ⟨ti,ti1,ti2,ti3,ti4⟩ := infoR
  have Hi := hidMk ti1
  have Hz := hidMk ti2
  have Hsz := hidMk ti3
  have Hby := hidMk ti4
  clear ti1 ti2 ti3 ti4
  refine region_via (R := fun a_ e_ a' w' => e_ = .normal ∧ ∃ (v34 v35 v36 v37 v38 v39 v40 v' : Value),a' = (((((((a_.put (some 34) v34).put (some 35) v35).put (some 36) v36).put (some 37) v37).put (some 38) v38).put (some 39) v39).put (some 40) v40) ∧ PJ g Bs w1 { J with sh := J.sh ++ [(x0,x1)] } v' w') ?_ ?_
  rotate_left
  · rintro e_ a' w' ⟨rfl,v34,v35,v36,v37,v38,v39,v40,v',rfl,h1⟩
    simp only [Act.put,aT,aZ,aS]
    exact HK.out _ _ h1 _ _ _ _ _ _ _ 
  have hJ_ : PJ g Bs w1 J sv w.drew := hJ.drew
  have hC : w.drew.cell? ⟨q,0,none⟩ = some (.int .i64 x0) ∧ w.drew.cell? ⟨q,1,none⟩ = some (.int .i64 x1) := hc
  have hq_ : Bs ≤ q ∧ q < w.drew.heap.size := hq
  clear hJ hc hq
  have hJ := hJ_
  have hq := hq_
  clear hJ_ hq_
  refine wp_region_held_drew (S := fun _ => True) (by kernel_rfl) trivial (fun _ => ?_)
  generalize w.drew = wd at hJ hC hq ⊢
  refine wT (i := 0) (v := ?_) rfl (.inl ⟨by rfl,?_⟩) ?_
  rotate_left
  · (intro w' hSw; (try dsimp only at hSw); go_simp <;> with_reducible rfl)
  (try simp only [Act.put,aT,aZ,aS])
  refine wT (i := 2) (v := ?_) rfl (.inl ⟨by rfl,?_⟩) ?_
  rotate_left
  · (intro w' hSw; (try dsimp only at hSw); go_simp <;> with_reducible rfl)
  (try simp only [Act.put,aT,aZ,aS])
  refine wpAnyH_ready (rs := [1,3]) (by kernel_rfl) (by simp) ?_
  refine AllReadyH.cons rfl (fun K hK => ?_) ?_
  · have c15 := hJ.bk.at_ 15 sv rfl
    go_simp
    refine hK.out _ _ trivial (fun _ => ?_)
    clear c15
    clear hK K
    (try simp only [Act.put,aT,aZ,aS])
    refine wpAnyH_ready (rs := [3]) (by kernel_rfl) (by simp) ?_
    refine AllReadyH.cons rfl (fun K hK => ?_) ?_
    · go_simp
      go_at_call 38
      refine (at_any q 2 cp 0 x0 x1 wd (by omega) (by omega) hq.2 hC.1 hC.2).mono ?_
      rintro e wc ⟨rfl,hb_⟩
      go_wp2_with fail
      have hJ_ := hJ.below hb_ (Nat.le_refl _)
      refine hK.out _ _ trivial (fun _ => ?_)
      clear hJ hq hC hb_
      have hJ := hJ_
      clear hJ_
      clear hK K
      (try simp only [Act.put,aT,aZ,aS])
      refine wpAnyH_ready (rs := [4]) (by kernel_rfl) (by simp) ?_
      refine AllReadyH.cons rfl (fun K hK => ?_) ?_
      · have hA : Bk (wc.alloc (.cells #[.int .i64 x0,.int .i64 x1] 23)) wc.heap.size 23 #[.int .i64 x0,.int .i64 x1] := Bk.new _ _ _
        have hbl : Below wc.heap.size wc (wc.alloc (.cells #[.int .i64 x0,.int .i64 x1] 23)) := (Below.refl _ _).alloc (Nat.le_refl _) _
        have hJ_ := hJ.below hbl (Nat.le_refl _)
        go_simp
        show K _ (wc.alloc (.cells #[.int .i64 x0,.int .i64 x1] 23))
        refine hK.out _ _ trivial (fun _ => ?_)
        clear hJ hbl
        have hJ := hJ_
        clear hJ_
        generalize wc.heap.size = gA at hA ⊢
        generalize (wc.alloc (.cells #[.int .i64 x0,.int .i64 x1] 23)) = wz at hA hJ ⊢
        clear hK K
        (try simp only [Act.put,aT,aZ,aS])
        refine wpAnyH_ready (rs := [5]) (by kernel_rfl) (by simp) ?_
        refine AllReadyH.cons rfl (fun K hK => ?_) ?_
        · refine wp_append_own (.tmp 35) (.tmp 38) 28 rfl Bs 23 ti (.agg #[.int .i64 0,.int .i64 0]) 2 16 Tryz.underlying28 Hi.out Hz.out Hsz.out Hby.out rfl (by decide) sv J.sh.length (rgCells J.sh) rfl hJ.own ⟨gA,0,none⟩ 1 1 [.int .i64 x0,.int .i64 x1] rfl rfl (fun j u hu => by rw [Addr.add_mid,Nat.zero_add]; exact hA.at_ j u (by simpa using hu)) (by intro u hu; simp at hu; rcases hu with rfl | rfl <;> rfl) (by unfold maxLen; omega) (by omega) hJ.lt.2 ?_
          intro v' wu own' hg' _
          obtain ⟨qb,cq,rfl⟩ : ∃ qb cq,v' = .slice (some ⟨qb,0,none⟩) (J.sh.length + 1) cq := by
            rcases own'.2 with ⟨_,h⟩ | ⟨q,cap,cur,h,_⟩
            · omega
            · exact ⟨q,cap,h⟩
          obtain ⟨hq1,hq2⟩ := hJ.grown (x := (x0,x1)) own' hg'
          have hS_ : PJx g Bs w1 J sv (.slice (some ⟨qb,0,none⟩) (J.sh.length + 1) cq) (x0,x1) wu := ⟨hq1,hq2⟩
          refine hK.out _ _ trivial (fun _ => ?_)
          clear hJ hA own' hg' hq1 hq2
          have hJ := hS_
          clear hS_
          clear hK K
          (try simp only [Act.put,aT,aZ,aS])
          refine wT (i := 6) (v := ?_) rfl (.inl ⟨by rfl,?_⟩) ?_
          rotate_left
          · (intro w' hSw; (try dsimp only at hSw); go_simp <;> with_reducible rfl)
          (try simp only [Act.put,aT,aZ,aS])
          refine wpAnyH_ready (rs := [7]) (by kernel_rfl) (by simp) ?_
          refine AllReadyH.cons rfl (fun K hK => ?_) ?_
          · have z15 := hJ.1.bk.at_ 15 sv rfl
            have f15 := hJ.1.bk.free 15
            have hJ_ := hJ.put
            go_simp
            refine hK.out _ _ trivial (fun _ => ?_)
            clear hJ z15 f15
            have hJ := hJ_
            clear hJ_
            clear hK K
            (try simp only [Act.put,aT,aZ,aS])
            refine wpAnyH_done (by kernel_rfl) ?_ _
            exact ⟨rfl,_,_,_,_,_,_,_,_,rfl,hJ⟩
          exact AllReadyH.nil
        exact AllReadyH.nil
      exact AllReadyH.nil
    exact AllReadyH.nil
  refine AllReadyH.cons rfl (fun K hK => ?_) ?_
  · go_simp
    go_at_call 38
    refine (at_any q 2 cp 0 x0 x1 wd (by omega) (by omega) hq.2 hC.1 hC.2).mono ?_
    rintro e wc ⟨rfl,hb_⟩
    go_wp2_with fail
    have hJ_ := hJ.below hb_ (Nat.le_refl _)
    refine hK.out _ _ trivial (fun _ => ?_)
    clear hJ hq hC hb_
    have hJ := hJ_
    clear hJ_
    clear hK K
    (try simp only [Act.put,aT,aZ,aS])
    refine wpAnyH_ready (rs := [1,4]) (by kernel_rfl) (by simp) ?_
    refine AllReadyH.cons rfl (fun K hK => ?_) ?_
    · have c15 := hJ.bk.at_ 15 sv rfl
      go_simp
      refine hK.out _ _ trivial (fun _ => ?_)
      clear c15
      clear hK K
      (try simp only [Act.put,aT,aZ,aS])
      refine wpAnyH_ready (rs := [4]) (by kernel_rfl) (by simp) ?_
      refine AllReadyH.cons rfl (fun K hK => ?_) ?_
      · have hA : Bk (wc.alloc (.cells #[.int .i64 x0,.int .i64 x1] 23)) wc.heap.size 23 #[.int .i64 x0,.int .i64 x1] := Bk.new _ _ _
        have hbl : Below wc.heap.size wc (wc.alloc (.cells #[.int .i64 x0,.int .i64 x1] 23)) := (Below.refl _ _).alloc (Nat.le_refl _) _
        have hJ_ := hJ.below hbl (Nat.le_refl _)
        go_simp
        show K _ (wc.alloc (.cells #[.int .i64 x0,.int .i64 x1] 23))
        refine hK.out _ _ trivial (fun _ => ?_)
        clear hJ hbl
        have hJ := hJ_
        clear hJ_
        generalize wc.heap.size = gA at hA ⊢
        generalize (wc.alloc (.cells #[.int .i64 x0,.int .i64 x1] 23)) = wz at hA hJ ⊢
        clear hK K
        (try simp only [Act.put,aT,aZ,aS])
        refine wpAnyH_ready (rs := [5]) (by kernel_rfl) (by simp) ?_
        refine AllReadyH.cons rfl (fun K hK => ?_) ?_
        · refine wp_append_own (.tmp 35) (.tmp 38) 28 rfl Bs 23 ti (.agg #[.int .i64 0,.int .i64 0]) 2 16 Tryz.underlying28 Hi.out Hz.out Hsz.out Hby.out rfl (by decide) sv J.sh.length (rgCells J.sh) rfl hJ.own ⟨gA,0,none⟩ 1 1 [.int .i64 x0,.int .i64 x1] rfl rfl (fun j u hu => by rw [Addr.add_mid,Nat.zero_add]; exact hA.at_ j u (by simpa using hu)) (by intro u hu; simp at hu; rcases hu with rfl | rfl <;> rfl) (by unfold maxLen; omega) (by omega) hJ.lt.2 ?_
          intro v' wu own' hg' _
          obtain ⟨qb,cq,rfl⟩ : ∃ qb cq,v' = .slice (some ⟨qb,0,none⟩) (J.sh.length + 1) cq := by
            rcases own'.2 with ⟨_,h⟩ | ⟨q,cap,cur,h,_⟩
            · omega
            · exact ⟨q,cap,h⟩
          obtain ⟨hq1,hq2⟩ := hJ.grown (x := (x0,x1)) own' hg'
          have hS_ : PJx g Bs w1 J sv (.slice (some ⟨qb,0,none⟩) (J.sh.length + 1) cq) (x0,x1) wu := ⟨hq1,hq2⟩
          refine hK.out _ _ trivial (fun _ => ?_)
          clear hJ hA own' hg' hq1 hq2
          have hJ := hS_
          clear hS_
          clear hK K
          (try simp only [Act.put,aT,aZ,aS])
          refine wT (i := 6) (v := ?_) rfl (.inl ⟨by rfl,?_⟩) ?_
          rotate_left
          · (intro w' hSw; (try dsimp only at hSw); go_simp <;> with_reducible rfl)
          (try simp only [Act.put,aT,aZ,aS])
          refine wpAnyH_ready (rs := [7]) (by kernel_rfl) (by simp) ?_
          refine AllReadyH.cons rfl (fun K hK => ?_) ?_
          · have z15 := hJ.1.bk.at_ 15 sv rfl
            have f15 := hJ.1.bk.free 15
            have hJ_ := hJ.put
            go_simp
            refine hK.out _ _ trivial (fun _ => ?_)
            clear hJ z15 f15
            have hJ := hJ_
            clear hJ_
            clear hK K
            (try simp only [Act.put,aT,aZ,aS])
            refine wpAnyH_done (by kernel_rfl) ?_ _
            exact ⟨rfl,_,_,_,_,_,_,_,_,rfl,hJ⟩
          exact AllReadyH.nil
        exact AllReadyH.nil
      exact AllReadyH.nil
    refine AllReadyH.cons rfl (fun K hK => ?_) ?_
    · have hA : Bk (wc.alloc (.cells #[.int .i64 x0,.int .i64 x1] 23)) wc.heap.size 23 #[.int .i64 x0,.int .i64 x1] := Bk.new _ _ _
      have hbl : Below wc.heap.size wc (wc.alloc (.cells #[.int .i64 x0,.int .i64 x1] 23)) := (Below.refl _ _).alloc (Nat.le_refl _) _
      have hJ_ := hJ.below hbl (Nat.le_refl _)
      go_simp
      show K _ (wc.alloc (.cells #[.int .i64 x0,.int .i64 x1] 23))
      refine hK.out _ _ trivial (fun _ => ?_)
      clear hJ hbl
      have hJ := hJ_
      clear hJ_
      generalize wc.heap.size = gA at hA ⊢
      generalize (wc.alloc (.cells #[.int .i64 x0,.int .i64 x1] 23)) = wz at hA hJ ⊢
      clear hK K
      (try simp only [Act.put,aT,aZ,aS])
      refine wpAnyH_ready (rs := [1]) (by kernel_rfl) (by simp) ?_
      refine AllReadyH.cons rfl (fun K hK => ?_) ?_
      · have c15 := hJ.bk.at_ 15 sv rfl
        go_simp
        refine hK.out _ _ trivial (fun _ => ?_)
        clear c15
        clear hK K
        (try simp only [Act.put,aT,aZ,aS])
        refine wpAnyH_ready (rs := [5]) (by kernel_rfl) (by simp) ?_
        refine AllReadyH.cons rfl (fun K hK => ?_) ?_
        · refine wp_append_own (.tmp 35) (.tmp 38) 28 rfl Bs 23 ti (.agg #[.int .i64 0,.int .i64 0]) 2 16 Tryz.underlying28 Hi.out Hz.out Hsz.out Hby.out rfl (by decide) sv J.sh.length (rgCells J.sh) rfl hJ.own ⟨gA,0,none⟩ 1 1 [.int .i64 x0,.int .i64 x1] rfl rfl (fun j u hu => by rw [Addr.add_mid,Nat.zero_add]; exact hA.at_ j u (by simpa using hu)) (by intro u hu; simp at hu; rcases hu with rfl | rfl <;> rfl) (by unfold maxLen; omega) (by omega) hJ.lt.2 ?_
          intro v' wu own' hg' _
          obtain ⟨qb,cq,rfl⟩ : ∃ qb cq,v' = .slice (some ⟨qb,0,none⟩) (J.sh.length + 1) cq := by
            rcases own'.2 with ⟨_,h⟩ | ⟨q,cap,cur,h,_⟩
            · omega
            · exact ⟨q,cap,h⟩
          obtain ⟨hq1,hq2⟩ := hJ.grown (x := (x0,x1)) own' hg'
          have hS_ : PJx g Bs w1 J sv (.slice (some ⟨qb,0,none⟩) (J.sh.length + 1) cq) (x0,x1) wu := ⟨hq1,hq2⟩
          refine hK.out _ _ trivial (fun _ => ?_)
          clear hJ hA own' hg' hq1 hq2
          have hJ := hS_
          clear hS_
          clear hK K
          (try simp only [Act.put,aT,aZ,aS])
          refine wT (i := 6) (v := ?_) rfl (.inl ⟨by rfl,?_⟩) ?_
          rotate_left
          · (intro w' hSw; (try dsimp only at hSw); go_simp <;> with_reducible rfl)
          (try simp only [Act.put,aT,aZ,aS])
          refine wpAnyH_ready (rs := [7]) (by kernel_rfl) (by simp) ?_
          refine AllReadyH.cons rfl (fun K hK => ?_) ?_
          · have z15 := hJ.1.bk.at_ 15 sv rfl
            have f15 := hJ.1.bk.free 15
            have hJ_ := hJ.put
            go_simp
            refine hK.out _ _ trivial (fun _ => ?_)
            clear hJ z15 f15
            have hJ := hJ_
            clear hJ_
            clear hK K
            (try simp only [Act.put,aT,aZ,aS])
            refine wpAnyH_done (by kernel_rfl) ?_ _
            exact ⟨rfl,_,_,_,_,_,_,_,_,rfl,hJ⟩
          exact AllReadyH.nil
        exact AllReadyH.nil
      exact AllReadyH.nil
    exact AllReadyH.nil
  exact AllReadyH.nil
end Go.Proofs.YtljefjngmembkaaGreatDoor
