/- Part 12 of the proof: AlL, AlN. -/
import Derived.Great.Walk
import Derived.Deep.WholeRow
import Derived.Deep.MidRow
import Derived.Test.YtolabejbhaeddaaW11
/- The law ReedAll: all with strokes, its head. -/
namespace Go.Proofs.Ytolabejbhaeddaa
set_option linter.all false
open Go.RowKit Go.Great
set_option maxHeartbeats 9000000 in
set_option maxRecDepth 1000000 in
theorem alr11 {w0 w : World} {bx g6 g7 : Nat} {J : Jb} {sa : Option Addr} {sn sc : Nat} {t : Fd} {q o ln lc : Nat} {s : Int} {l : List Int} {aa : Option Addr} {an ac : Nat} {acc : List Int} {e : En} {Q : Exit → Act → World → Prop} {u1 u2 u5 u8 u9 A0 A1 A2 A3 A4 A5 A6 A7 A8 A9 Aa Ab Ac Ad Ae Af Ag Ah Ai Aj Ak Al Am An Ao Ap Aq Ar As At Au Av Aw Ax Ay Az C0 C1 C2 C3 C4 C5 C6 C7 C8 C9 Ca Cb Cc Cd Ce Cf Cg Ch Ci Cj Ck Cl Cm Cn Co Cp Cq Cr Cs Ct Cu Cv Cw Cx Cy Cz D0 D1 D2 D3 D4 D5 D6 D7 D8 D9 Da Db Dc Dd De Df Dg Dh Di Dj Dk Dl Dm Dn Do Dp Dq Dr Ds Dt Du Dv Dw Dx Dy Dz E0 E1 E2 E3 E4 E5 E6 E7 E8 E9 : Value} (hs : AT w0 w bx g6 g7 J sa sn sc t (some ⟨q,o,none⟩) (s :: l) aa acc) (hE : Bk w bx 54 (enC e)) (hK : ∀ (w' : World) (g12 g13 : Nat),AT w0 w' bx g6 g7 J sa sn sc t (some ⟨q,o,none⟩) (s :: l) aa acc → Bk w' bx 54 (enC e) → Bk w' g12 23 #[.int .i64 J.u1,.int .i64 J.u2] → Bk w' g13 23 #[.int .i64 J.x1,.int .i64 J.x2] → w0.heap.size ≤ g12 ∧ w0.heap.size ≤ g13 ∧ g6 ≠ g12 ∧ g7 ≠ g12 ∧ g6 ≠ g13 ∧ g7 ≠ g13 ∧ g12 ≠ g13 → ∀ (So Sp Sq Sr Ss St : Value),Q .normal ⟨#[(.pointer (some ⟨bx,0,none⟩)),u1,u2,(.slice (some ⟨q,o,none⟩) ln lc),(.slice aa an ac),u5,(.pointer (some ⟨g6,0,none⟩)),(.pointer (some ⟨g7,0,none⟩)),u8,u9,A0,A1,(.pointer (some ⟨g12,0,none⟩)),(.pointer (some ⟨g13,0,none⟩)),A4,A5,A6,A7,A8,A9,Aa,Ab,Ac,Ad,Ae,Af,Ag,Ah,Ai,Aj,Ak,Al,Am,An,Ao,Ap,Aq,Ar,As,At,Au,Av,Aw,Ax,Ay,Az,C0,C1,C2,C3,C4,C5,C6,C7,C8,C9,Ca,Cb,So,Sp,Sq,Sr,Ss,St,Ci,Cj,Ck,Cl,Cm,Cn,Co,Cp,Cq,Cr,Cs,Ct,Cu,Cv,Cw,Cx,Cy,Cz,D0,D1,D2,D3,D4,D5,D6,D7,D8,D9,Da,Db,Dc,Dd,De,Df,Dg,Dh,Di,Dj,Dk,Dl,Dm,Dn,Do,Dp,Dq,Dr,Ds,Dt,Du,Dv,Dw,Dx,Dy,Dz,E0,E1,E2,E3,E4,E5,E6,E7,E8,E9],[]⟩ w') : Code.wp Try.prog (Code.region 11 #[⟨some 58,.fieldAddr 30 (.tmp 6) 1,0,"outright.go:187",#[],none⟩,⟨some 59,.fieldAddr 27 (.tmp 58) 0,0,"outright.go:187",#[⟨0,.data⟩],none⟩,⟨some 60,.load 23 (.tmp 59),23,"outright.go:187",#[⟨1,.data⟩],none⟩,⟨some 61,.fieldAddr 30 (.tmp 6) 1,0,"outright.go:187",#[⟨8,.gcOnly .lateStores⟩],none⟩,⟨some 62,.fieldAddr 27 (.tmp 61) 2,0,"outright.go:187",#[⟨3,.data⟩,⟨8,.gcOnly .lateStores⟩],none⟩,⟨some 63,.load 23 (.tmp 62),23,"outright.go:187",#[⟨4,.data⟩,⟨8,.gcOnly .lateStores⟩],none⟩,⟨some 12,.alloc 23,0,"outright.go:187",#[],none⟩,⟨some 13,.alloc 23,0,"outright.go:187",#[],none⟩,⟨none,.store 23 (.tmp 12) (.tmp 60),0,"outright.go:187",#[⟨6,.data⟩,⟨2,.data⟩,⟨0,.phase⟩,⟨1,.phase⟩,⟨2,.phase⟩,⟨3,.textOnly .lateStores⟩,⟨4,.textOnly .lateStores⟩,⟨5,.textOnly .lateStores⟩,⟨6,.phase⟩,⟨7,.phase⟩],none⟩,⟨none,.store 23 (.tmp 13) (.tmp 63),0,"outright.go:187",#[⟨7,.data⟩,⟨5,.data⟩,⟨8,.chain⟩,⟨0,.phase⟩,⟨1,.phase⟩,⟨2,.phase⟩,⟨3,.phase⟩,⟨4,.phase⟩,⟨5,.phase⟩,⟨6,.phase⟩,⟨7,.phase⟩,⟨8,.phase⟩],none⟩] true) Q ⟨#[(.pointer (some ⟨bx,0,none⟩)),u1,u2,(.slice (some ⟨q,o,none⟩) ln lc),(.slice aa an ac),u5,(.pointer (some ⟨g6,0,none⟩)),(.pointer (some ⟨g7,0,none⟩)),u8,u9,A0,A1,A2,A3,A4,A5,A6,A7,A8,A9,Aa,Ab,Ac,Ad,Ae,Af,Ag,Ah,Ai,Aj,Ak,Al,Am,An,Ao,Ap,Aq,Ar,As,At,Au,Av,Aw,Ax,Ay,Az,C0,C1,C2,C3,C4,C5,C6,C7,C8,C9,Ca,Cb,Cc,Cd,Ce,Cf,Cg,Ch,Ci,Cj,Ck,Cl,Cm,Cn,Co,Cp,Cq,Cr,Cs,Ct,Cu,Cv,Cw,Cx,Cy,Cz,D0,D1,D2,D3,D4,D5,D6,D7,D8,D9,Da,Db,Dc,Dd,De,Df,Dg,Dh,Di,Dj,Dk,Dl,Dm,Dn,Do,Dp,Dq,Dr,Ds,Dt,Du,Dv,Dw,Dx,Dy,Dz,E0,E1,E2,E3,E4,E5,E6,E7,E8,E9],[]⟩ w := by
  have hs0 : bx < w.heap.size ∧ g6 < w.heap.size ∧ g7 < w.heap.size := ⟨hE.lt,hs.job.lt,hs.fl.lt⟩
  have HS := hidMk hs
  clear hs
  refine region_via (R := fun a_ e_ a' w' => e_ = .normal ∧ ∃ (So Sp Sq Sr Ss St : Value) (g12 g13 : Nat),a' = ((((((((a_.put (some 58) So).put (some 59) Sp).put (some 60) Sq).put (some 61) Sr).put (some 62) Ss).put (some 63) St).put (some 12) (.pointer (some ⟨g12,0,none⟩))).put (some 13) (.pointer (some ⟨g13,0,none⟩))) ∧ AT w0 w' bx g6 g7 J sa sn sc t (some ⟨q,o,none⟩) (s :: l) aa acc ∧ Bk w' bx 54 (enC e) ∧ Bk w' g12 23 #[.int .i64 J.u1,.int .i64 J.u2] ∧ Bk w' g13 23 #[.int .i64 J.x1,.int .i64 J.x2] ∧ w0.heap.size ≤ g12 ∧ w0.heap.size ≤ g13 ∧ g6 ≠ g12 ∧ g7 ≠ g12 ∧ g6 ≠ g13 ∧ g7 ≠ g13 ∧ g12 ≠ g13) ?_ ?_
  rotate_left
  · rintro e_ a' w' ⟨rfl,So,Sp,Sq,Sr,Ss,St,g12,g13,rfl,h1,h2,h3,h4,h5⟩
    simp only [Act.put,aT,aZ,aS]
    exact hK _ _ _ h1 h2 h3 h4 h5 _ _ _ _ _ _ 
  have hS : PB bx w.heap.size w w.drew := PB.of (Below.refl _ _).drew
  have hE_ : Bk w.drew bx 54 (enC e) := hE
  clear hE
  have hE := hE_
  clear hE_
  refine wp_region_held_drew (S := fun w' => PB bx w.heap.size w w') (by kernel_rfl) hS (fun hS0 => ?_)
  clear hS0
  generalize w.drew = wd at hS hE ⊢
  refine wpAnyH_take (i := 0) (v := ?_) rfl (by kernel_rfl) (by kernel_rfl) (by kernel_rfl) (fun _ _ _ h => by cases h.1) (.inl ⟨by rfl,?_⟩) (by assumption) ?_
  rotate_left
  · (intro w' hSw; (try dsimp only at hSw); skip; go_simp <;> with_reducible rfl)
  (try simp only [Act.put,aT,aZ,aS])
  refine wpAnyH_take (i := 1) (v := ?_) rfl (by kernel_rfl) (by kernel_rfl) (by kernel_rfl) (fun _ _ _ h => by cases h.1) (.inl ⟨by rfl,?_⟩) (by assumption) ?_
  rotate_left
  · (intro w' hSw; (try dsimp only at hSw); skip; go_simp <;> with_reducible rfl)
  (try simp only [Act.put,aT,aZ,aS])
  refine wpAnyH_take (i := 2) (v := ?_) rfl (by kernel_rfl) (by kernel_rfl) (by kernel_rfl) (fun _ _ _ h => by cases h.1) (.inl ⟨by rfl,?_⟩) (by assumption) ?_
  rotate_left
  · (intro w' hSw; (try dsimp only at hSw); (have q0 := (HS.out.pb hSw).job.at_ 6 (.int .i64 J.u1) rfl; have q1 := (HS.out.pb hSw).job.at_ 7 (.int .i64 J.u2) rfl; have q2 := (HS.out.pb hSw).job.at_ 10 (.int .i64 J.x1) rfl; have q3 := (HS.out.pb hSw).job.at_ 11 (.int .i64 J.x2) rfl); go_simp <;> with_reducible rfl)
  (try simp only [Act.put,aT,aZ,aS])
  refine wpAnyH_take (i := 3) (v := ?_) rfl (by kernel_rfl) (by kernel_rfl) (by kernel_rfl) (fun _ _ _ h => by cases h.1) (.inl ⟨by rfl,?_⟩) (by assumption) ?_
  rotate_left
  · (intro w' hSw; (try dsimp only at hSw); skip; go_simp <;> with_reducible rfl)
  (try simp only [Act.put,aT,aZ,aS])
  refine wpAnyH_take (i := 4) (v := ?_) rfl (by kernel_rfl) (by kernel_rfl) (by kernel_rfl) (fun _ _ _ h => by cases h.1) (.inl ⟨by rfl,?_⟩) (by assumption) ?_
  rotate_left
  · (intro w' hSw; (try dsimp only at hSw); skip; go_simp <;> with_reducible rfl)
  (try simp only [Act.put,aT,aZ,aS])
  refine wpAnyH_take (i := 5) (v := ?_) rfl (by kernel_rfl) (by kernel_rfl) (by kernel_rfl) (fun _ _ _ h => by cases h.1) (.inl ⟨by rfl,?_⟩) (by assumption) ?_
  rotate_left
  · (intro w' hSw; (try dsimp only at hSw); (have q0 := (HS.out.pb hSw).job.at_ 6 (.int .i64 J.u1) rfl; have q1 := (HS.out.pb hSw).job.at_ 7 (.int .i64 J.u2) rfl; have q2 := (HS.out.pb hSw).job.at_ 10 (.int .i64 J.x1) rfl; have q3 := (HS.out.pb hSw).job.at_ 11 (.int .i64 J.x2) rfl); go_simp <;> with_reducible rfl)
  (try simp only [Act.put,aT,aZ,aS])
  refine wpAnyH_ready (rs := [6,7]) (by kernel_rfl) (by simp) ?_
  refine AllReadyH.cons rfl (fun K hK => ?_) ?_
  · have qa : Below wd.heap.size wd (wd.alloc (.cells #[.int .i64 0,.int .i64 0] 23)) := (Below.refl _ _).alloc (Nat.le_refl _) _
    have hS_ := hS.below qa hS.size
    have hE_ := hE.below qa hE.lt
    have hA12 : Bk (wd.alloc (.cells #[.int .i64 0,.int .i64 0] 23)) wd.heap.size 23 #[.int .i64 0,.int .i64 0] := Bk.new _ _ _
    have hG12 : w.heap.size ≤ wd.heap.size := hS.size
    go_simp
    show K _ (wd.alloc (.cells #[.int .i64 0,.int .i64 0] 23))
    refine hK.out _ _ hS_ (fun _ => ?_)
    clear hS hE qa
    have hS := hS_
    have hE := hE_
    clear hS_ hE_
    generalize wd.heap.size = g12 at hA12 hG12 ⊢
    generalize (wd.alloc (.cells #[.int .i64 0,.int .i64 0] 23)) = wA12 at hA12 hS hE ⊢
    clear hK K
    (try simp only [Act.put,aT,aZ,aS])
    refine wpAnyH_ready (rs := [7]) (by kernel_rfl) (by simp) ?_
    refine AllReadyH.cons rfl (fun K hK => ?_) ?_
    · have qa : Below wA12.heap.size wA12 (wA12.alloc (.cells #[.int .i64 0,.int .i64 0] 23)) := (Below.refl _ _).alloc (Nat.le_refl _) _
      have hS_ := hS.below qa hS.size
      have hE_ := hE.below qa hE.lt
      have hA13 : Bk (wA12.alloc (.cells #[.int .i64 0,.int .i64 0] 23)) wA12.heap.size 23 #[.int .i64 0,.int .i64 0] := Bk.new _ _ _
      have hG13 : w.heap.size ≤ wA12.heap.size := hS.size
      have hnn : g12 ≠ wA12.heap.size := by have := hA12.lt; omega
      have hA_ := hA12.alloc (.cells #[.int .i64 0,.int .i64 0] 23)
      clear hA12
      have hA12 := hA_
      clear hA_
      go_simp
      show K _ (wA12.alloc (.cells #[.int .i64 0,.int .i64 0] 23))
      refine hK.out _ _ hS_ (fun _ => ?_)
      clear hS hE qa
      have hS := hS_
      have hE := hE_
      clear hS_ hE_
      generalize wA12.heap.size = g13 at hA13 hG13 hnn ⊢
      generalize (wA12.alloc (.cells #[.int .i64 0,.int .i64 0] 23)) = wA13 at hA13 hA12 hS hE ⊢
      clear hK K
      (try simp only [Act.put,aT,aZ,aS])
      refine wpAnyH_ready (rs := [8]) (by kernel_rfl) (by simp) ?_
      refine AllReadyH.cons rfl (fun K hK => ?_) ?_
      · have HNN := hidMk (show g12 ≠ g13 from by first | exact hnn | exact hnn.symm)
        have hB12 : bx ≠ g12 := by have := hs0; omega
        have hB13 : bx ≠ g13 := by have := hs0; omega
        have z0 := hA12.at_ 0 _ rfl
        have z1 := hA12.at_ 1 _ rfl
        have f0 := hA12.free 0
        have f1 := hA12.free 1
        go_simp
        have hS_ := (hS.setCell (p := ⟨g12,0,none⟩) hG12 (.int .i64 (J.u1))).setCell (p := ⟨g12,1,none⟩) hG12 (.int .i64 (J.u2))
        have hE_ := (hE.other (p := ⟨g12,0,none⟩) hB12 (.int .i64 (J.u1))).other (p := ⟨g12,1,none⟩) hB12 (.int .i64 (J.u2))
        have hA1_ := hA12.put2 (.int .i64 (J.u1)) (.int .i64 (J.u2))
        have hA2_ := (hA13.other (p := ⟨g12,0,none⟩) (HNN.out.symm) (.int .i64 (J.u1))).other (p := ⟨g12,1,none⟩) (HNN.out.symm) (.int .i64 (J.u2))
        refine hK.out _ _ hS_ (fun _ => ?_)
        clear z0 z1 f0 f1 hS hE hA12 hA13
        have hS := hS_
        have hE := hE_
        clear hS_ hE_
        have hA12 := hA1_
        have hA13 := hA2_
        clear hA1_ hA2_
        generalize ((wA13.setCell ⟨g12,0,none⟩ (.int .i64 (J.u1))).setCell ⟨g12,1,none⟩ (.int .i64 (J.u2))) = wS12 at hA12 hA13 hS hE ⊢
        clear hK K
        (try simp only [Act.put,aT,aZ,aS])
        refine wpAnyH_ready (rs := [9]) (by kernel_rfl) (by simp) ?_
        refine AllReadyH.cons rfl (fun K hK => ?_) ?_
        · have z0 := hA13.at_ 0 _ rfl
          have z1 := hA13.at_ 1 _ rfl
          have f0 := hA13.free 0
          have f1 := hA13.free 1
          go_simp
          have hS_ := (hS.setCell (p := ⟨g13,0,none⟩) hG13 (.int .i64 (J.x1))).setCell (p := ⟨g13,1,none⟩) hG13 (.int .i64 (J.x2))
          have hE_ := (hE.other (p := ⟨g13,0,none⟩) hB13 (.int .i64 (J.x1))).other (p := ⟨g13,1,none⟩) hB13 (.int .i64 (J.x2))
          have hA1_ := hA13.put2 (.int .i64 (J.x1)) (.int .i64 (J.x2))
          have hA2_ := (hA12.other (p := ⟨g13,0,none⟩) (HNN.out) (.int .i64 (J.x1))).other (p := ⟨g13,1,none⟩) (HNN.out) (.int .i64 (J.x2))
          refine hK.out _ _ hS_ (fun _ => ?_)
          clear z0 z1 f0 f1 hS hE hA12 hA13
          have hS := hS_
          have hE := hE_
          clear hS_ hE_
          have hA13 := hA1_
          have hA12 := hA2_
          clear hA1_ hA2_
          generalize ((wS12.setCell ⟨g13,0,none⟩ (.int .i64 (J.x1))).setCell ⟨g13,1,none⟩ (.int .i64 (J.x2))) = wS13 at hA12 hA13 hS hE ⊢
          clear hK K
          (try simp only [Act.put,aT,aZ,aS])
          refine wpAnyH_done (by kernel_rfl) ?_ _
          exact ⟨rfl,_,_,_,_,_,_,g12,g13,rfl,HS.out.pb hS,hE,hA12,hA13,⟨Nat.le_trans HS.out.b0.size hG12,Nat.le_trans HS.out.b0.size hG13,by omega,by omega,by omega,by omega,HNN.out⟩⟩
        exact AllReadyH.nil
      exact AllReadyH.nil
    exact AllReadyH.nil
  refine AllReadyH.cons rfl (fun K hK => ?_) ?_
  · have qa : Below wd.heap.size wd (wd.alloc (.cells #[.int .i64 0,.int .i64 0] 23)) := (Below.refl _ _).alloc (Nat.le_refl _) _
    have hS_ := hS.below qa hS.size
    have hE_ := hE.below qa hE.lt
    have hA13 : Bk (wd.alloc (.cells #[.int .i64 0,.int .i64 0] 23)) wd.heap.size 23 #[.int .i64 0,.int .i64 0] := Bk.new _ _ _
    have hG13 : w.heap.size ≤ wd.heap.size := hS.size
    go_simp
    show K _ (wd.alloc (.cells #[.int .i64 0,.int .i64 0] 23))
    refine hK.out _ _ hS_ (fun _ => ?_)
    clear hS hE qa
    have hS := hS_
    have hE := hE_
    clear hS_ hE_
    generalize wd.heap.size = g13 at hA13 hG13 ⊢
    generalize (wd.alloc (.cells #[.int .i64 0,.int .i64 0] 23)) = wA13 at hA13 hS hE ⊢
    clear hK K
    (try simp only [Act.put,aT,aZ,aS])
    refine wpAnyH_ready (rs := [6]) (by kernel_rfl) (by simp) ?_
    refine AllReadyH.cons rfl (fun K hK => ?_) ?_
    · have qa : Below wA13.heap.size wA13 (wA13.alloc (.cells #[.int .i64 0,.int .i64 0] 23)) := (Below.refl _ _).alloc (Nat.le_refl _) _
      have hS_ := hS.below qa hS.size
      have hE_ := hE.below qa hE.lt
      have hA12 : Bk (wA13.alloc (.cells #[.int .i64 0,.int .i64 0] 23)) wA13.heap.size 23 #[.int .i64 0,.int .i64 0] := Bk.new _ _ _
      have hG12 : w.heap.size ≤ wA13.heap.size := hS.size
      have hnn : g13 ≠ wA13.heap.size := by have := hA13.lt; omega
      have hA_ := hA13.alloc (.cells #[.int .i64 0,.int .i64 0] 23)
      clear hA13
      have hA13 := hA_
      clear hA_
      go_simp
      show K _ (wA13.alloc (.cells #[.int .i64 0,.int .i64 0] 23))
      refine hK.out _ _ hS_ (fun _ => ?_)
      clear hS hE qa
      have hS := hS_
      have hE := hE_
      clear hS_ hE_
      generalize wA13.heap.size = g12 at hA12 hG12 hnn ⊢
      generalize (wA13.alloc (.cells #[.int .i64 0,.int .i64 0] 23)) = wA12 at hA12 hA13 hS hE ⊢
      clear hK K
      (try simp only [Act.put,aT,aZ,aS])
      refine wpAnyH_ready (rs := [8]) (by kernel_rfl) (by simp) ?_
      refine AllReadyH.cons rfl (fun K hK => ?_) ?_
      · have HNN := hidMk (show g12 ≠ g13 from by first | exact hnn | exact hnn.symm)
        have hB12 : bx ≠ g12 := by have := hs0; omega
        have hB13 : bx ≠ g13 := by have := hs0; omega
        have z0 := hA12.at_ 0 _ rfl
        have z1 := hA12.at_ 1 _ rfl
        have f0 := hA12.free 0
        have f1 := hA12.free 1
        go_simp
        have hS_ := (hS.setCell (p := ⟨g12,0,none⟩) hG12 (.int .i64 (J.u1))).setCell (p := ⟨g12,1,none⟩) hG12 (.int .i64 (J.u2))
        have hE_ := (hE.other (p := ⟨g12,0,none⟩) hB12 (.int .i64 (J.u1))).other (p := ⟨g12,1,none⟩) hB12 (.int .i64 (J.u2))
        have hA1_ := hA12.put2 (.int .i64 (J.u1)) (.int .i64 (J.u2))
        have hA2_ := (hA13.other (p := ⟨g12,0,none⟩) (HNN.out.symm) (.int .i64 (J.u1))).other (p := ⟨g12,1,none⟩) (HNN.out.symm) (.int .i64 (J.u2))
        refine hK.out _ _ hS_ (fun _ => ?_)
        clear z0 z1 f0 f1 hS hE hA12 hA13
        have hS := hS_
        have hE := hE_
        clear hS_ hE_
        have hA12 := hA1_
        have hA13 := hA2_
        clear hA1_ hA2_
        generalize ((wA12.setCell ⟨g12,0,none⟩ (.int .i64 (J.u1))).setCell ⟨g12,1,none⟩ (.int .i64 (J.u2))) = wS12 at hA12 hA13 hS hE ⊢
        clear hK K
        (try simp only [Act.put,aT,aZ,aS])
        refine wpAnyH_ready (rs := [9]) (by kernel_rfl) (by simp) ?_
        refine AllReadyH.cons rfl (fun K hK => ?_) ?_
        · have z0 := hA13.at_ 0 _ rfl
          have z1 := hA13.at_ 1 _ rfl
          have f0 := hA13.free 0
          have f1 := hA13.free 1
          go_simp
          have hS_ := (hS.setCell (p := ⟨g13,0,none⟩) hG13 (.int .i64 (J.x1))).setCell (p := ⟨g13,1,none⟩) hG13 (.int .i64 (J.x2))
          have hE_ := (hE.other (p := ⟨g13,0,none⟩) hB13 (.int .i64 (J.x1))).other (p := ⟨g13,1,none⟩) hB13 (.int .i64 (J.x2))
          have hA1_ := hA13.put2 (.int .i64 (J.x1)) (.int .i64 (J.x2))
          have hA2_ := (hA12.other (p := ⟨g13,0,none⟩) (HNN.out) (.int .i64 (J.x1))).other (p := ⟨g13,1,none⟩) (HNN.out) (.int .i64 (J.x2))
          refine hK.out _ _ hS_ (fun _ => ?_)
          clear z0 z1 f0 f1 hS hE hA12 hA13
          have hS := hS_
          have hE := hE_
          clear hS_ hE_
          have hA13 := hA1_
          have hA12 := hA2_
          clear hA1_ hA2_
          generalize ((wS12.setCell ⟨g13,0,none⟩ (.int .i64 (J.x1))).setCell ⟨g13,1,none⟩ (.int .i64 (J.x2))) = wS13 at hA12 hA13 hS hE ⊢
          clear hK K
          (try simp only [Act.put,aT,aZ,aS])
          refine wpAnyH_done (by kernel_rfl) ?_ _
          exact ⟨rfl,_,_,_,_,_,_,g12,g13,rfl,HS.out.pb hS,hE,hA12,hA13,⟨Nat.le_trans HS.out.b0.size hG12,Nat.le_trans HS.out.b0.size hG13,by omega,by omega,by omega,by omega,HNN.out⟩⟩
        exact AllReadyH.nil
      exact AllReadyH.nil
    exact AllReadyH.nil
  exact AllReadyH.nil
set_option maxHeartbeats 9000000 in
set_option maxRecDepth 1000000 in
theorem alr13 {w0 w : World} {bx g6 g7 : Nat} {J : Jb} {sa : Option Addr} {sn sc : Nat} {t : Fd} {q o ln lc : Nat} {s : Int} {l : List Int} {aa : Option Addr} {an ac : Nat} {acc : List Int} {e : En} {g12 g13 : Nat} {u1_ u2_ w1_ w2_ : Int} {Q : Exit → Act → World → Prop} {u1 u2 u5 u8 u9 A0 A1 A4 A5 A6 A7 A8 A9 Aa Ab Ac Ad Ae Af Ag Ah Ai Aj Ak Al Am An Ao Ap Aq Ar As At Au Av Aw Ax Ay Az C0 C1 C2 C3 C4 C5 C6 C7 C8 C9 Ca Cb Cc Cd Ce Cf Cg Ch Ci Cj Ck Cl Cm Cn Co Cp Cq Cr Cs Ct Cu Cv Cw Cx Cy Cz D0 D1 D2 D3 D4 D5 D6 D7 D8 D9 Da Db Dc Dd De Df Dg Dh Di Dj Dk Dl Dm Dn Do Dp Dq Dr Ds Dt Du Dv Dw Dx Dy Dz E0 E1 E2 E3 E4 E5 E6 E7 E8 E9 : Value} (hs : AT w0 w bx g6 g7 J sa sn sc t (some ⟨q,o,none⟩) (s :: l) aa acc) (hE : Bk w bx 54 (enC e)) (h12 : Bk w g12 23 #[.int .i64 u1_,.int .i64 u2_]) (h13 : Bk w g13 23 #[.int .i64 w1_,.int .i64 w2_]) (hown : w0.heap.size ≤ g12 ∧ w0.heap.size ≤ g13 ∧ g6 ≠ g12 ∧ g7 ≠ g12 ∧ g6 ≠ g13 ∧ g7 ≠ g13 ∧ g12 ≠ g13) (hd : (0 ≤ J.d1 ∧ J.d1 ≤ 12) ∧ 0 ≤ J.d2 ∧ J.d2 ≤ 12) (hK : ∀ (w' : World),AT w0 w' bx g6 g7 J sa sn sc t (some ⟨q,o,none⟩) (s :: l) aa acc → Bk w' bx 54 (enC e) → Bk w' g12 23 #[.int .i64 (-J.d2),.int .i64 (-J.d1)] → Bk w' g13 23 #[.int .i64 J.y1,.int .i64 J.y2] → ∀ (Sy Sz U0 U1 U2 U3 U4 U5 U6 U7 U8 U9 Ua Ub : Value),Q .normal ⟨#[(.pointer (some ⟨bx,0,none⟩)),u1,u2,(.slice (some ⟨q,o,none⟩) ln lc),(.slice aa an ac),u5,(.pointer (some ⟨g6,0,none⟩)),(.pointer (some ⟨g7,0,none⟩)),u8,u9,A0,A1,(.pointer (some ⟨g12,0,none⟩)),(.pointer (some ⟨g13,0,none⟩)),A4,A5,A6,A7,A8,A9,Aa,Ab,Ac,Ad,Ae,Af,Ag,Ah,Ai,Aj,Ak,Al,Am,An,Ao,Ap,Aq,Ar,As,At,Au,Av,Aw,Ax,Ay,Az,C0,C1,C2,C3,C4,C5,C6,C7,C8,C9,Ca,Cb,Cc,Cd,Ce,Cf,Cg,Ch,Ci,Cj,Ck,Cl,Sy,Sz,U0,U1,U2,U3,U4,U5,U6,U7,U8,U9,Ua,Ub,D0,D1,D2,D3,D4,D5,D6,D7,D8,D9,Da,Db,Dc,Dd,De,Df,Dg,Dh,Di,Dj,Dk,Dl,Dm,Dn,Do,Dp,Dq,Dr,Ds,Dt,Du,Dv,Dw,Dx,Dy,Dz,E0,E1,E2,E3,E4,E5,E6,E7,E8,E9],[]⟩ w') : Code.wp Try.prog (Code.region 13 #[⟨some 68,.fieldAddr 30 (.tmp 6) 1,0,"outright.go:189",#[],none⟩,⟨some 69,.fieldAddr 27 (.tmp 68) 1,0,"outright.go:189",#[⟨0,.data⟩],none⟩,⟨some 70,.fieldAddr 23 (.tmp 69) 1,0,"outright.go:189",#[⟨1,.data⟩],none⟩,⟨some 71,.load 3 (.tmp 70),3,"outright.go:189",#[⟨2,.data⟩],none⟩,⟨some 72,.unOp .neg 3 (.tmp 71),3,"outright.go:189",#[⟨3,.data⟩],none⟩,⟨some 73,.fieldAddr 30 (.tmp 6) 1,0,"outright.go:189",#[],none⟩,⟨some 74,.fieldAddr 27 (.tmp 73) 1,0,"outright.go:189",#[⟨5,.data⟩],none⟩,⟨some 75,.fieldAddr 23 (.tmp 74) 0,0,"outright.go:189",#[⟨6,.data⟩],none⟩,⟨some 76,.load 3 (.tmp 75),3,"outright.go:189",#[⟨7,.data⟩],none⟩,⟨some 77,.unOp .neg 3 (.tmp 76),3,"outright.go:189",#[⟨8,.data⟩],none⟩,⟨some 78,.call { callee := .value (.func 32),args := #[.tmp 72,.tmp 77],argTypes := #[3,3] },23,"outright.go:189",#[⟨4,.data⟩,⟨9,.data⟩],none⟩,⟨some 79,.fieldAddr 30 (.tmp 6) 1,0,"outright.go:189",#[⟨14,.gcOnly .lateStores⟩],none⟩,⟨some 80,.fieldAddr 27 (.tmp 79) 3,0,"outright.go:189",#[⟨11,.data⟩,⟨14,.gcOnly .lateStores⟩],none⟩,⟨some 81,.load 23 (.tmp 80),23,"outright.go:189",#[⟨12,.data⟩,⟨14,.gcOnly .lateStores⟩],none⟩,⟨none,.store 23 (.tmp 12) (.tmp 78),0,"outright.go:189",#[⟨10,.data⟩,⟨10,.chain⟩,⟨0,.phase⟩,⟨1,.phase⟩,⟨2,.phase⟩,⟨3,.phase⟩,⟨4,.phase⟩,⟨5,.phase⟩,⟨6,.phase⟩,⟨7,.phase⟩,⟨8,.phase⟩,⟨9,.phase⟩,⟨10,.phase⟩,⟨11,.textOnly .lateStores⟩,⟨12,.textOnly .lateStores⟩,⟨13,.textOnly .lateStores⟩],none⟩,⟨none,.store 23 (.tmp 13) (.tmp 81),0,"outright.go:189",#[⟨13,.data⟩,⟨14,.chain⟩,⟨0,.phase⟩,⟨1,.phase⟩,⟨2,.phase⟩,⟨3,.phase⟩,⟨4,.phase⟩,⟨5,.phase⟩,⟨6,.phase⟩,⟨7,.phase⟩,⟨8,.phase⟩,⟨9,.phase⟩,⟨10,.phase⟩,⟨11,.phase⟩,⟨12,.phase⟩,⟨13,.phase⟩,⟨14,.phase⟩],none⟩] true) Q ⟨#[(.pointer (some ⟨bx,0,none⟩)),u1,u2,(.slice (some ⟨q,o,none⟩) ln lc),(.slice aa an ac),u5,(.pointer (some ⟨g6,0,none⟩)),(.pointer (some ⟨g7,0,none⟩)),u8,u9,A0,A1,(.pointer (some ⟨g12,0,none⟩)),(.pointer (some ⟨g13,0,none⟩)),A4,A5,A6,A7,A8,A9,Aa,Ab,Ac,Ad,Ae,Af,Ag,Ah,Ai,Aj,Ak,Al,Am,An,Ao,Ap,Aq,Ar,As,At,Au,Av,Aw,Ax,Ay,Az,C0,C1,C2,C3,C4,C5,C6,C7,C8,C9,Ca,Cb,Cc,Cd,Ce,Cf,Cg,Ch,Ci,Cj,Ck,Cl,Cm,Cn,Co,Cp,Cq,Cr,Cs,Ct,Cu,Cv,Cw,Cx,Cy,Cz,D0,D1,D2,D3,D4,D5,D6,D7,D8,D9,Da,Db,Dc,Dd,De,Df,Dg,Dh,Di,Dj,Dk,Dl,Dm,Dn,Do,Dp,Dq,Dr,Ds,Dt,Du,Dv,Dw,Dx,Dy,Dz,E0,E1,E2,E3,E4,E5,E6,E7,E8,E9],[]⟩ w := by
  obtain ⟨hG12,hG13,hO612,hO712,hO613,hO713,hnn⟩ := hown
  have HNN := hidMk hnn
  have hB12 : bx ≠ g12 := by have := hs.hx; omega
  have hB13 : bx ≠ g13 := by have := hs.hx; omega
  have wa : IntKind.i64.wrap (-J.d2) = -J.d2 := IntWalk.i64_in _ (by omega)
  have wb : IntKind.i64.wrap (-J.d1) = -J.d1 := IntWalk.i64_in _ (by omega)
  refine region_via (R := fun a_ e_ a' w' => e_ = .normal ∧ ∃ (Sy Sz U0 U1 U2 U3 U4 U5 U6 U7 U8 U9 Ua Ub : Value),a' = ((((((((((((((a_.put (some 68) Sy).put (some 69) Sz).put (some 70) U0).put (some 71) U1).put (some 72) U2).put (some 73) U3).put (some 74) U4).put (some 75) U5).put (some 76) U6).put (some 77) U7).put (some 78) U8).put (some 79) U9).put (some 80) Ua).put (some 81) Ub) ∧ AT w0 w' bx g6 g7 J sa sn sc t (some ⟨q,o,none⟩) (s :: l) aa acc ∧ Bk w' bx 54 (enC e) ∧ Bk w' g12 23 #[.int .i64 (-J.d2),.int .i64 (-J.d1)] ∧ Bk w' g13 23 #[.int .i64 J.y1,.int .i64 J.y2]) ?_ ?_
  rotate_left
  · rintro e_ a' w' ⟨rfl,Sy,Sz,U0,U1,U2,U3,U4,U5,U6,U7,U8,U9,Ua,Ub,rfl,h1,h2,h3,h4⟩
    simp only [Act.put,aT,aZ,aS]
    exact hK _ h1 h2 h3 h4 _ _ _ _ _ _ _ _ _ _ _ _ _ _ 
  have hS : AT w0 w.drew bx g6 g7 J sa sn sc t (some ⟨q,o,none⟩) (s :: l) aa acc := hs.next (Below.refl _ _).drew
  have hE_ : Bk w.drew bx 54 (enC e) := hE
  have hA1_ : Bk w.drew g12 23 #[.int .i64 u1_,.int .i64 u2_] := h12
  have hA2_ : Bk w.drew g13 23 #[.int .i64 w1_,.int .i64 w2_] := h13
  clear hE hs h12 h13
  have hE := hE_
  have hA12 := hA1_
  have hA13 := hA2_
  clear hE_ hA1_ hA2_
  refine wp_region_held_drew (S := fun w' => AT w0 w' bx g6 g7 J sa sn sc t (some ⟨q,o,none⟩) (s :: l) aa acc) (by kernel_rfl) hS (fun hS0 => ?_)
  clear hS0
  generalize w.drew = wd at hS hE hA12 hA13 ⊢
  refine wpAnyH_take (i := 0) (v := ?_) rfl (by kernel_rfl) (by kernel_rfl) (by kernel_rfl) (fun _ _ _ h => by cases h.1) (.inl ⟨by rfl,?_⟩) (by assumption) ?_
  rotate_left
  · (intro w' hSw; (try dsimp only at hSw); skip; go_simp <;> with_reducible rfl)
  (try simp only [Act.put,aT,aZ,aS])
  refine wpAnyH_take (i := 1) (v := ?_) rfl (by kernel_rfl) (by kernel_rfl) (by kernel_rfl) (fun _ _ _ h => by cases h.1) (.inl ⟨by rfl,?_⟩) (by assumption) ?_
  rotate_left
  · (intro w' hSw; (try dsimp only at hSw); skip; go_simp <;> with_reducible rfl)
  (try simp only [Act.put,aT,aZ,aS])
  refine wpAnyH_take (i := 2) (v := ?_) rfl (by kernel_rfl) (by kernel_rfl) (by kernel_rfl) (fun _ _ _ h => by cases h.1) (.inl ⟨by rfl,?_⟩) (by assumption) ?_
  rotate_left
  · (intro w' hSw; (try dsimp only at hSw); skip; go_simp <;> with_reducible rfl)
  (try simp only [Act.put,aT,aZ,aS])
  refine wpAnyH_take (i := 3) (v := ?_) rfl (by kernel_rfl) (by kernel_rfl) (by kernel_rfl) (fun _ _ _ h => by cases h.1) (.inl ⟨by rfl,?_⟩) (by assumption) ?_
  rotate_left
  · (intro w' hSw; (try dsimp only at hSw); (have q0 := hSw.job.at_ 8 (.int .i64 J.d1) rfl; have q1 := hSw.job.at_ 9 (.int .i64 J.d2) rfl; have q2 := hSw.job.at_ 12 (.int .i64 J.y1) rfl; have q3 := hSw.job.at_ 13 (.int .i64 J.y2) rfl); go_simp <;> with_reducible rfl)
  (try simp only [Act.put,aT,aZ,aS])
  refine wpAnyH_take (i := 4) (v := ?_) rfl (by kernel_rfl) (by kernel_rfl) (by kernel_rfl) (fun _ _ _ h => by cases h.1) (.inl ⟨by rfl,?_⟩) (by assumption) ?_
  rotate_left
  · (intro w' hSw; (try dsimp only at hSw); skip; go_simp <;> with_reducible rfl)
  (try simp only [Act.put,aT,aZ,aS])
  refine wpAnyH_take (i := 5) (v := ?_) rfl (by kernel_rfl) (by kernel_rfl) (by kernel_rfl) (fun _ _ _ h => by cases h.1) (.inl ⟨by rfl,?_⟩) (by assumption) ?_
  rotate_left
  · (intro w' hSw; (try dsimp only at hSw); skip; go_simp <;> with_reducible rfl)
  (try simp only [Act.put,aT,aZ,aS])
  refine wpAnyH_take (i := 6) (v := ?_) rfl (by kernel_rfl) (by kernel_rfl) (by kernel_rfl) (fun _ _ _ h => by cases h.1) (.inl ⟨by rfl,?_⟩) (by assumption) ?_
  rotate_left
  · (intro w' hSw; (try dsimp only at hSw); skip; go_simp <;> with_reducible rfl)
  (try simp only [Act.put,aT,aZ,aS])
  refine wpAnyH_take (i := 7) (v := ?_) rfl (by kernel_rfl) (by kernel_rfl) (by kernel_rfl) (fun _ _ _ h => by cases h.1) (.inl ⟨by rfl,?_⟩) (by assumption) ?_
  rotate_left
  · (intro w' hSw; (try dsimp only at hSw); skip; go_simp <;> with_reducible rfl)
  (try simp only [Act.put,aT,aZ,aS])
  refine wpAnyH_take (i := 8) (v := ?_) rfl (by kernel_rfl) (by kernel_rfl) (by kernel_rfl) (fun _ _ _ h => by cases h.1) (.inl ⟨by rfl,?_⟩) (by assumption) ?_
  rotate_left
  · (intro w' hSw; (try dsimp only at hSw); (have q0 := hSw.job.at_ 8 (.int .i64 J.d1) rfl; have q1 := hSw.job.at_ 9 (.int .i64 J.d2) rfl; have q2 := hSw.job.at_ 12 (.int .i64 J.y1) rfl; have q3 := hSw.job.at_ 13 (.int .i64 J.y2) rfl); go_simp <;> with_reducible rfl)
  (try simp only [Act.put,aT,aZ,aS])
  refine wpAnyH_take (i := 9) (v := ?_) rfl (by kernel_rfl) (by kernel_rfl) (by kernel_rfl) (fun _ _ _ h => by cases h.1) (.inl ⟨by rfl,?_⟩) (by assumption) ?_
  rotate_left
  · (intro w' hSw; (try dsimp only at hSw); skip; go_simp <;> with_reducible rfl)
  (try simp only [Act.put,aT,aZ,aS])
  refine wpAnyH_take (i := 11) (v := ?_) rfl (by kernel_rfl) (by kernel_rfl) (by kernel_rfl) (fun _ _ _ h => by cases h.1) (.inl ⟨by rfl,?_⟩) (by assumption) ?_
  rotate_left
  · (intro w' hSw; (try dsimp only at hSw); skip; go_simp <;> with_reducible rfl)
  (try simp only [Act.put,aT,aZ,aS])
  refine wpAnyH_take (i := 12) (v := ?_) rfl (by kernel_rfl) (by kernel_rfl) (by kernel_rfl) (fun _ _ _ h => by cases h.1) (.inl ⟨by rfl,?_⟩) (by assumption) ?_
  rotate_left
  · (intro w' hSw; (try dsimp only at hSw); skip; go_simp <;> with_reducible rfl)
  (try simp only [Act.put,aT,aZ,aS])
  refine wpAnyH_take (i := 13) (v := ?_) rfl (by kernel_rfl) (by kernel_rfl) (by kernel_rfl) (fun _ _ _ h => by cases h.1) (.inl ⟨by rfl,?_⟩) (by assumption) ?_
  rotate_left
  · (intro w' hSw; (try dsimp only at hSw); (have q0 := hSw.job.at_ 8 (.int .i64 J.d1) rfl; have q1 := hSw.job.at_ 9 (.int .i64 J.d2) rfl; have q2 := hSw.job.at_ 12 (.int .i64 J.y1) rfl; have q3 := hSw.job.at_ 13 (.int .i64 J.y2) rfl); go_simp <;> with_reducible rfl)
  (try simp only [Act.put,aT,aZ,aS])
  refine wpAnyH_ready (rs := [10]) (by kernel_rfl) (by simp) ?_
  refine AllReadyH.cons rfl (fun K hK => ?_) ?_
  · go_simp
    go_at_call 32
    refine (to_any _ _ _).mono ?_
    rintro e' wX ⟨rfl,hbX⟩
    have hS_ := hS.next hbX
    have hE_ := hE.below hbX hE.lt
    have hA1_ := hA12.below hbX hA12.lt
    have hA2_ := hA13.below hbX hA13.lt
    clear hbX hS hE hA12 hA13
    have hS := hS_
    have hE := hE_
    clear hS_ hE_
    have hA12 := hA1_
    have hA13 := hA2_
    clear hA1_ hA2_
    go_wp2_with fail
    refine hK.out _ _ hS (fun _ => ?_)
    clear hK K
    (try simp only [Act.put,aT,aZ,aS])
    refine wpAnyH_ready (rs := [14]) (by kernel_rfl) (by simp) ?_
    refine AllReadyH.cons rfl (fun K hK => ?_) ?_
    · have z0 := hA12.at_ 0 _ rfl
      have z1 := hA12.at_ 1 _ rfl
      have f0 := hA12.free 0
      have f1 := hA12.free 1
      go_simp
      have hS_ := (hS.own (i := 0) hG12 hO612 hO712 (.int .i64 (-J.d2))).own (i := 1) hG12 hO612 hO712 (.int .i64 (-J.d1))
      have hE_ := (hE.other (p := ⟨g12,0,none⟩) hB12 (.int .i64 (-J.d2))).other (p := ⟨g12,1,none⟩) hB12 (.int .i64 (-J.d1))
      have hA1_ := hA12.put2 (.int .i64 (-J.d2)) (.int .i64 (-J.d1))
      have hA2_ := (hA13.other (p := ⟨g12,0,none⟩) (HNN.out.symm) (.int .i64 (-J.d2))).other (p := ⟨g12,1,none⟩) (HNN.out.symm) (.int .i64 (-J.d1))
      refine hK.out _ _ hS_ (fun _ => ?_)
      clear z0 z1 f0 f1 hS hE hA12 hA13
      have hS := hS_
      have hE := hE_
      clear hS_ hE_
      have hA12 := hA1_
      have hA13 := hA2_
      clear hA1_ hA2_
      generalize ((wX.setCell ⟨g12,0,none⟩ (.int .i64 (-J.d2))).setCell ⟨g12,1,none⟩ (.int .i64 (-J.d1))) = wS12 at hA12 hA13 hS hE ⊢
      clear hK K
      (try simp only [Act.put,aT,aZ,aS])
      refine wpAnyH_ready (rs := [15]) (by kernel_rfl) (by simp) ?_
      refine AllReadyH.cons rfl (fun K hK => ?_) ?_
      · have z0 := hA13.at_ 0 _ rfl
        have z1 := hA13.at_ 1 _ rfl
        have f0 := hA13.free 0
        have f1 := hA13.free 1
        go_simp
        have hS_ := (hS.own (i := 0) hG13 hO613 hO713 (.int .i64 (J.y1))).own (i := 1) hG13 hO613 hO713 (.int .i64 (J.y2))
        have hE_ := (hE.other (p := ⟨g13,0,none⟩) hB13 (.int .i64 (J.y1))).other (p := ⟨g13,1,none⟩) hB13 (.int .i64 (J.y2))
        have hA1_ := hA13.put2 (.int .i64 (J.y1)) (.int .i64 (J.y2))
        have hA2_ := (hA12.other (p := ⟨g13,0,none⟩) (HNN.out) (.int .i64 (J.y1))).other (p := ⟨g13,1,none⟩) (HNN.out) (.int .i64 (J.y2))
        refine hK.out _ _ hS_ (fun _ => ?_)
        clear z0 z1 f0 f1 hS hE hA12 hA13
        have hS := hS_
        have hE := hE_
        clear hS_ hE_
        have hA13 := hA1_
        have hA12 := hA2_
        clear hA1_ hA2_
        generalize ((wS12.setCell ⟨g13,0,none⟩ (.int .i64 (J.y1))).setCell ⟨g13,1,none⟩ (.int .i64 (J.y2))) = wS13 at hA12 hA13 hS hE ⊢
        clear hK K
        (try simp only [Act.put,aT,aZ,aS])
        refine wpAnyH_done (by kernel_rfl) ?_ _
        exact ⟨rfl,_,_,_,_,_,_,_,_,_,_,_,_,_,_,rfl,hS,hE,hA12,hA13⟩
      exact AllReadyH.nil
    exact AllReadyH.nil
  exact AllReadyH.nil
end Go.Proofs.Ytolabejbhaeddaa
/- The law ReedAll: all, for all strokes. -/
namespace Go.Proofs.Ytolabejbhaeddaa
set_option linter.all false
open Go.RowKit Go.Great

set_option maxHeartbeats 9000000 in
set_option maxRecDepth 1000000 in
theorem all_cons {J : Jb} {sa : Option Addr} {sn sc : Nat} (hJ : J.In 1000) {s : Int} {l : List Int} {acc : List Int} (hs12 : s = 1 ∨ s = 2) (hl6 : l.length ≤ 6) (hrec : ALLc J sa sn sc l acc) : ALLc J sa sn sc (s :: l) acc := by
  intro t e bx la ln lc aa an ac w hE ho hcap htb hln hls hlo han has hao hrg hro
  obtain ⟨q,o,rfl,hq,c0⟩ := hls 0 s rfl
  have hl := hE.lt
  have qq : Below w.heap.size w ((w.alloc (.cells (jobC J (.slice sa sn sc)) 30)).alloc (.cells #[.int .i64 t.p,.int .i64 t.t,.int .i64 t.r] 57)) := ((Below.refl _ _).alloc (Nat.le_refl _) _).alloc (by simp) _
  have hs : AT w ((w.alloc (.cells (jobC J (.slice sa sn sc)) 30)).alloc (.cells #[.int .i64 t.p,.int .i64 t.t,.int .i64 t.r] 57)) bx w.heap.size (w.heap.size + 1) J sa sn sc t (some ⟨q,o,none⟩) (s :: l) aa acc :=
    ⟨PB.of qq,hl,(Bk.new _ _ _).alloc _,Bk.newAt _ _ _ _ (by simp),hrg,hls,has,⟨Nat.le_refl _,by omega⟩,hro,hlo,hao⟩
  have hu1 := hJ.u1
  have hu2 := hJ.u2
  have hd1 := hJ.d1
  have hd2 := hJ.d2
  have hx1 := hJ.x1
  have hx2 := hJ.x2
  have hy1 := hJ.y1
  have hy2 := hJ.y2
  have HS := hidMk hs
  have HE := hidMk (hE.below qq hl)
  have HO := hidMk ho
  have HCAP0 := hidMk hcap
  have HTB := hidMk (show TB (l.length + 1) t from htb)
  have HAN := hidMk han
  have HLN := hidMk (show ln = l.length + 1 ∧ ln ≤ lc from hln)
  have HREC := hidMk hrec
  have hn0 : ¬ ln = 0 := by have := hln.1; simp at this; omega
  have hn1 : ((ln : Int) == 0) = false := by simp [hn0]
  have hn2 : (0 : Int) < (ln : Int) := by omega
  clear hs hE hcap htb hln hls hlo han has hao hrg hro qq hrec ho c0 hq
  go_enter Try.func24,Try.ntmps24
  show Code.wp Try.prog albody (QAL bx (e.notes J (allT J (s :: l) t acc)) w) _ _
  rw [albody_eq]
  go_wp2_with fail
  generalize hG7 : w.heap.size + 1 = g7 at HS ⊢
  generalize hG6 : w.heap.size = g6 at HS ⊢
  generalize hW1 : ((w.alloc (.cells (jobC J (.slice sa sn sc)) 30)).alloc (.cells #[.int .i64 t.p,.int .i64 t.t,.int .i64 t.r] 57)) = w1 at HS HE ⊢
  clear hG6 hG7 hW1
  rw [alrest1_cut]
  go_wp2_with fail
  rw [alrest2_eq]
  refine wp_seq_k fun K0 hK0 => ?_
  refine alr11 HS.out HE.out ?_
  intro w' g12 g13 h1 h2 h3 h4 hown
  intros
  refine hK0 _ _ ?_
  clear hK0 K0 HS HE
  rw [alrest3_eq]
  have hb12 : g12 ≠ bx := by have := hown.1; have := h1.hx; omega
  have hb13 : g13 ≠ bx := by have := hown.2.1; have := h1.hx; omega
  have HS := hidMk h1
  have HE := hidMk h2
  have HA := hidMk h3
  have HB := hidMk h4
  have HOWN := hidMk hown
  obtain ⟨q',o',e',hq,c0⟩ := h1.ls 0 s rfl
  cases e'
  rw [Nat.add_zero] at c0
  clear h1 h2 h3 h4 hown hq
  have fin : ∀ (w2 : World),PB bx w.heap.size w w2 → Bk w2 bx 54 (enC (e.notes J (allT J (s :: l) t acc))) → ∀ (u0 u1 u2 u3 u4 u5 u6 u7 u8 u9 A0 A1 A2 A3 A4 A5 A6 A7 A8 A9 Aa Ab Ac Ad Ae Af Ag Ah Ai Aj Ak Al Am An Ao Ap Aq Ar As At Au Av Aw Ax Ay Az C0 C1 C2 C3 C4 C5 C6 C7 C8 C9 Ca Cb Cc Cd Ce Cf Cg Ch Ci Cj Ck Cl Cm Cn Co Cp Cq Cr Cs Ct Cu Cv Cw Cx Cy Cz D0 D1 D2 D3 D4 D5 D6 D7 D8 D9 Da Db Dc Dd De Df Dg Dh Di Dj Dk Dl Dm Dn Do Dp Dq Dr Ds Dt Du Dv Dw Dx Dy Dz E0 E1 E2 E3 E4 E5 E6 E7 E8 E9 : Value),QAL bx (e.notes J (allT J (s :: l) t acc)) w .normal ⟨#[u0,u1,u2,u3,u4,u5,u6,u7,u8,u9,A0,A1,A2,A3,A4,A5,A6,A7,A8,A9,Aa,Ab,Ac,Ad,Ae,Af,Ag,Ah,Ai,Aj,Ak,Al,Am,An,Ao,Ap,Aq,Ar,As,At,Au,Av,Aw,Ax,Ay,Az,C0,C1,C2,C3,C4,C5,C6,C7,C8,C9,Ca,Cb,Cc,Cd,Ce,Cf,Cg,Ch,Ci,Cj,Ck,Cl,Cm,Cn,Co,Cp,Cq,Cr,Cs,Ct,Cu,Cv,Cw,Cx,Cy,Cz,D0,D1,D2,D3,D4,D5,D6,D7,D8,D9,Da,Db,Dc,Dd,De,Df,Dg,Dh,Di,Dj,Dk,Dl,Dm,Dn,Do,Dp,Dq,Dr,Ds,Dt,Du,Dv,Dw,Dx,Dy,Dz,E0,E1,E2,E3,E4,E5,E6,E7,E8,E9],[]⟩ w2 := by
    intro w2 k1 k2
    intros
    unfold QAL
    exact bodyPost_end0 (by kernel_rfl) rfl ⟨rfl,k2,k1⟩
  have HF := hidMk fin
  clear fin
  rcases hs12 with rfl | rfl
  · have e1 : allT J (1 :: l) t acc = (nums J.u1 J.u2).flatMap fun n => (nums J.x1 J.x2).flatMap fun v => allT J l (nextF t 1 n v) acc := rfl
    rw [e1] at HCAP0
    have HCAP := HCAP0
    have HE1 := hidMk e1
    clear e1
    go_wp2_with fail
    exact alO_ok HS.out HE.out HO.out HA.out HB.out hb12 hb13 HLN.out (by omega) (by omega) HREC.out HTB.out hl6 (by omega) HAN.out (.inl rfl) HCAP.out (fun w2 k1 k2 => HF.out w2 (HS.out.pb k1).b0 (by rw [HE1.out]; exact k2))
  · have e1 : allT J (2 :: l) t acc = (nums (-J.d2) (-J.d1)).flatMap fun n => (nums J.y1 J.y2).flatMap fun v => allT J l (nextF t 2 n v) acc := rfl
    rw [e1] at HCAP0
    have HCAP := HCAP0
    have HE1 := hidMk e1
    clear e1
    refine wp_seq_k fun K0 hK0 => ?_
    go_wp2_with fail
    refine alr13 HS.out HE.out HA.out HB.out HOWN.out ⟨hd1,hd2⟩ ?_
    intro w2 k1 k2 k3 k4
    intros
    refine hK0 _ _ ?_
    exact alO_ok k1 k2 HO.out k3 k4 hb12 hb13 HLN.out (by omega) (by omega) HREC.out HTB.out hl6 (by omega) HAN.out (.inr rfl) HCAP.out (fun w3 j1 j2 => HF.out w3 (k1.pb j1).b0 (by rw [HE1.out]; exact j2))
theorem all_any {J : Jb} {sa : Option Addr} {sn sc : Nat} (hJ : J.In 1000) (hsn : sn = J.sh.length) : ∀ (l : List Int),(∀ s ∈ l,s = 1 ∨ s = 2) → l.length ≤ 6 → ALLc J sa sn sc l []
  | [],_,_ => all_nil ⟨hsn,by rw [hsn]; exact hJ.len⟩ (fun s hs => by have := hJ.sh s hs; omega) J.sh.length [] (by simp) (by simp)
  | s :: l,h12,h6 => all_cons hJ (h12 s List.mem_cons_self) (by simp at h6; omega) (all_any hJ hsn l (fun x hx => h12 x (List.mem_cons_of_mem _ hx)) (by simp at h6; omega))
end Go.Proofs.Ytolabejbhaeddaa
