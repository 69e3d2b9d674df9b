/- Part 31 of the proof: RtM. -/
import Derived.Test.YtljefjngmembkaaGreatDoorT21
import Derived.Test.YtljefjngmembkaaGreatDoorT28
import Derived.Test.YtljefjngmembkaaGreatDoorT29
import Derived.Test.YtljefjngmembkaaGreatDoorT30
namespace Go.Proofs.YtljefjngmembkaaGreatDoor
set_option linter.all false
open Go.RowKit Go.Lib
def QRL (w0 : World) : Exit → Act → World → Prop := bodyPost Tryz.prog Tryz.f3 fun e w' => e = .returned (.bool true) ∧ Below w0.heap.size w0 w'
structure Ent where
  J : Jb
  a : Option Addr
  n : Nat
  c : Nat
def Ent.V (e : Ent) : Array Value := jobC e.J (.slice e.a e.n e.c)
theorem Ent.V_len (e : Ent) : e.V.toList.length = 18 := rfl
theorem flat_at {α β : Type} (F : α → List β) (hF : ∀ x,(F x).length = 18) : ∀ (es : List α) (k : Nat) (e : α),es[k]? = some e → ∀ (j : Nat) (v : β),(F e)[j]? = some v → (es.flatMap F)[k * 18 + j]? = some v
  | e0 :: es,0,e,h,j,v,hv => by
    obtain rfl : e0 = e := by simpa using h
    have hj := (List.getElem?_eq_some_iff.1 hv).1
    rw [List.flatMap_cons,Nat.zero_mul,Nat.zero_add,List.getElem?_append_left hj]
    exact hv
  | e0 :: es,k + 1,e,h,j,v,hv => by
    have ih := flat_at F hF es k e (by simpa using h) j v hv
    rw [List.flatMap_cons,List.getElem?_append_right (by rw [hF]; omega),hF]
    have : (k + 1) * 18 + j - 18 = k * 18 + j := by omega
    rw [this]
    exact ih

theorem Pt.ne {w : World} {b g : Nat} {t : TypeId} {cs : Array Value} (h : Pt w b) (hk : Bk w g t cs) (hc : cs.size ≠ 1) : g ≠ b := by
  rintro rfl
  obtain ⟨t',s,h⟩ := h
  have e := hk.symm.trans h
  cases e
  exact hc rfl
structure TS (w0 w : World) (g2 : Nat) (J : Jb) (a : Option Addr) (n c : Nat) (na : Option Addr) (nl : List Int) : Prop where
  b0 : Below w0.heap.size w0 w
  job : Bk w g2 30 (jobC J (.slice a n c))
  rg : Rg w w.heap.size a J.sh
  is : Is w w.heap.size na nl
theorem TS.next {w0 w w' : World} {g2 : Nat} {J : Jb} {a : Option Addr} {n c : Nat} {na : Option Addr} {nl : List Int} (h : TS w0 w g2 J a n c na nl) (hb : Below w.heap.size w w') : TS w0 w' g2 J a n c na nl :=
  ⟨h.b0.trans (hb.mono h.b0.size),h.job.below hb h.job.lt,h.rg.up hb,h.is.up hb⟩
theorem TS.pot {w0 w w' : World} {g2 b : Nat} {J : Jb} {a : Option Addr} {n c : Nat} {na : Option Addr} {nl : List Int} (h : TS w0 w g2 J a n c na nl) (hb : w0.heap.size ≤ b) (hp : Pt w b) (hk : PB b w.heap.size w w') : TS w0 w' g2 J a n c na nl :=
  ⟨h.b0.trans ((hk.mono h.b0.size).toBelow hb),h.job.pb hk h.job.lt (hp.ne h.job (by simp [jobC])),h.rg.pb hp hk,h.is.pb hp hk⟩
theorem own_up {w w' : World} {B e s n : Nat} {v : Value} {xs : List Value} (h : w.ownsRow B e s v n xs) (hb : Below w.heap.size w w') : w'.ownsRow B e s v n xs := own_of9 h fun g _ hg => hb.block g hg
set_option maxHeartbeats 4000000 in
set_option maxRecDepth 1000000 in
theorem rl3 {w0 w : World} {X : ByteArray} {g2 : Nat} {J : Jb} {a : Option Addr} {n c : Nat} {na : Option Addr} {nn nc : Nat} {nl : List Int} {Q : Exit → Act → World → Prop} {u0 u3 u4 u5 u7 u8 u9 A0 A1 A2 A3 A4 A5 A6 A7 A8 A9 Aa Ab Ac Ad Ae Af Ag Ah Ai Aj Ak Al Am An Ao Ap Aq Ar As At Au Av Aw Ax Ay Az C0 C1 C2 C3 C4 C5 C6 C7 C8 C9 Ca Cb Cc Cd Ce Cf Cg Ch Ci Cj Ck Cl Cm Cn Co Cp Cq Cr Cs Ct Cu Cv Cw Cx Cy Cz D0 D1 D2 D3 D4 D5 D6 D7 D8 D9 Da Db Dc Dd De Df Dg Dh Di Dj Dk Dl Dm Dn Do Dp Dq Dr Ds Dt Du Dv Dw Dx Dy Dz E0 E1 E2 E3 E4 E5 E6 E7 E8 E9 Ea Eb Ec Ed : Value} (hs : TS w0 w g2 J a n c na nl) (hnn : nn = nl.length ∧ nn ≤ 9223372036854775807) (hK : ∀ (w' : World) (g h : Nat) (M : Jb) (ma : Option Addr) (mn mc : Nat),Below w0.heap.size w0 w' ∧ Bk w' g 30 (([⟨J,a,n,c⟩,⟨M,ma,mn,mc⟩] : List Ent).flatMap fun e => e.V.toList).toArray ∧ (w0.heap.size ≤ h ∧ Bk w' h 9 #[.string X]) ∧ (Rg w' w'.heap.size a J.sh ∧ w'.ownsRow w0.heap.size 23 2 (.slice ma mn mc) mn (rgCells M.sh)) ∧ mn = M.sh.length ∧ M.check = 0 → ∀ (v42 v43 v44 v45 v46 v47 v48 : Value),Q .normal ⟨#[u0,(.string X),(.slice na nn nc),u3,u4,u5,(.pointer (some ⟨g2,0,none⟩)),u7,u8,u9,A0,A1,A2,(.slice (some ⟨g,0,none⟩) 2 2),(.slice (some ⟨h,0,none⟩) 1 1),A5,A6,A7,A8,A9,Aa,Ab,Ac,Ad,Ae,Af,Ag,Ah,Ai,Aj,Ak,Al,Am,An,Ao,Ap,Aq,Ar,As,At,Au,Av,v42,v43,v44,v45,v46,v47,v48,C3,C4,C5,C6,C7,C8,C9,Ca,Cb,Cc,Cd,Ce,Cf,Cg,Ch,Ci,Cj,Ck,Cl,Cm,Cn,Co,Cp,Cq,Cr,Cs,Ct,Cu,Cv,Cw,Cx,Cy,Cz,D0,D1,D2,D3,D4,D5,D6,D7,D8,D9,Da,Db,Dc,Dd,De,Df,Dg,Dh,Di,Dj,Dk,Dl,Dm,Dn,Do,Dp,Dq,Dr,Ds,Dt,Du,Dv,Dw,Dx,Dy,Dz,E0,E1,E2,E3,E4,E5,E6,E7,E8,E9,Ea,Eb,Ec,Ed],[]⟩ w') : Code.wp Tryz.prog (Code.region 3 #[⟨some 42,.load 30 (.tmp 6),30,"law.go:158",#[],none⟩,⟨some 43,.move (.tmp 2),31,"law.go:158",#[],none⟩,⟨some 44,.call { callee := .value (.func 7),args := #[.tmp 43],argTypes := #[31] },34,"law.go:158",#[⟨1,.data⟩],none⟩,⟨some 45,.call { callee := .value (.func 6),args := #[.tmp 44,.const (.int .i64 20),.const (.int .i64 5)],argTypes := #[34,3,3] },30,"law.go:158",#[⟨2,.data⟩,⟨2,.chain⟩],none⟩,⟨some 46,.buildSlice 36 2 #[(0,.tmp 42),(1,.tmp 45)],36,"law.go:158",#[⟨0,.data⟩,⟨3,.data⟩],none⟩,⟨some 47,.move (.tmp 1),9,"law.go:158",#[⟨7,.gcOnly .lateStores⟩],none⟩,⟨some 48,.buildSlice 37 1 #[(0,.tmp 47)],37,"law.go:158",#[⟨5,.data⟩,⟨7,.gcOnly .lateStores⟩],none⟩,⟨some 13,.assign (.tmp 46),36,"law.go:158",#[⟨4,.data⟩,⟨3,.chain⟩,⟨0,.phase⟩,⟨1,.phase⟩,⟨2,.phase⟩,⟨3,.phase⟩,⟨4,.phase⟩,⟨5,.textOnly .lateStores⟩,⟨6,.textOnly .lateStores⟩],none⟩,⟨some 14,.assign (.tmp 48),37,"law.go:158",#[⟨6,.data⟩,⟨7,.chain⟩,⟨0,.phase⟩,⟨1,.phase⟩,⟨2,.phase⟩,⟨3,.phase⟩,⟨4,.phase⟩,⟨5,.phase⟩,⟨6,.phase⟩,⟨7,.phase⟩],none⟩] true) Q ⟨#[u0,(.string X),(.slice na nn nc),u3,u4,u5,(.pointer (some ⟨g2,0,none⟩)),u7,u8,u9,A0,A1,A2,A3,A4,A5,A6,A7,A8,A9,Aa,Ab,Ac,Ad,Ae,Af,Ag,Ah,Ai,Aj,Ak,Al,Am,An,Ao,Ap,Aq,Ar,As,At,Au,Av,Aw,Ax,Ay,Az,C0,C1,C2,C3,C4,C5,C6,C7,C8,C9,Ca,Cb,Cc,Cd,Ce,Cf,Cg,Ch,Ci,Cj,Ck,Cl,Cm,Cn,Co,Cp,Cq,Cr,Cs,Ct,Cu,Cv,Cw,Cx,Cy,Cz,D0,D1,D2,D3,D4,D5,D6,D7,D8,D9,Da,Db,Dc,Dd,De,Df,Dg,Dh,Di,Dj,Dk,Dl,Dm,Dn,Do,Dp,Dq,Dr,Ds,Dt,Du,Dv,Dw,Dx,Dy,Dz,E0,E1,E2,E3,E4,E5,E6,E7,E8,E9,Ea,Eb,Ec,Ed],[]⟩ w := by
  have HKK := hidMk hK
  have HNN := hidMk hnn
  clear hK hnn
  refine region_via (R := fun a_ e_ a' w' => e_ = .normal ∧ ∃ (v42 v43 v44 v45 v46 v47 v48 : Value) (g h : Nat) (M : Jb) (ma : Option Addr) (mn mc : Nat),a' = (((((((((a_.put (some 42) v42).put (some 43) v43).put (some 44) v44).put (some 45) v45).put (some 46) v46).put (some 47) v47).put (some 48) v48).put (some 13) (.slice (some ⟨g,0,none⟩) 2 2)).put (some 14) (.slice (some ⟨h,0,none⟩) 1 1)) ∧ Below w0.heap.size w0 w' ∧ Bk w' g 30 (([⟨J,a,n,c⟩,⟨M,ma,mn,mc⟩] : List Ent).flatMap fun e => e.V.toList).toArray ∧ (w0.heap.size ≤ h ∧ Bk w' h 9 #[.string X]) ∧ (Rg w' w'.heap.size a J.sh ∧ w'.ownsRow w0.heap.size 23 2 (.slice ma mn mc) mn (rgCells M.sh)) ∧ mn = M.sh.length ∧ M.check = 0) ?_ ?_
  rotate_left
  · rintro e_ a' w' ⟨rfl,v42,v43,v44,v45,v46,v47,v48,g,h,M,ma,mn,mc,rfl,hp⟩
    simp only [Act.put,aT,aZ,aS]
    exact HKK.out _ g h M ma mn mc hp _ _ _ _ _ _ _ 
  have hS : TS w0 w.drew g2 J a n c na nl := hs.next (Below.refl _ _).drew
  clear hs HKK
  refine wp_region_held_drew (S := fun w' => TS w0 w' g2 J a n c na nl) (by kernel_rfl) hS (fun hS0 => ?_)
  generalize w.drew = wd at hS0 hS ⊢
  refine wT (i := 0) rfl (yields_row (by rfl) 30 _ rfl g2 (jobC J (.slice a n c)) rfl 30 (fun w' hw => hw.job) Tryz.underlying30 szJob) ?_
  (try simp only [Act.put,aT,aZ,aS])
  refine wT (i := 1) (v := ?_) rfl (.inl ⟨by rfl,?_⟩) ?_
  rotate_left
  · (intro w' hSw; (try dsimp only at hSw); go_simp <;> with_reducible rfl)
  (try simp only [Act.put,aT,aZ,aS])
  refine wT (i := 5) (v := ?_) rfl (.inl ⟨by rfl,?_⟩) ?_
  rotate_left
  · (intro w' hSw; (try dsimp only at hSw); go_simp <;> with_reducible rfl)
  (try simp only [Act.put,aT,aZ,aS])
  refine wpAnyH_ready (rs := [2,6]) (by kernel_rfl) (by simp) ?_
  refine AllReadyH.cons rfl (fun K hK => ?_) ?_
  · go_simp
    go_at_call 7
    refine (newPot_any na nn nc nl wd HNN.out.1 HNN.out.2 hS.is).mono ?_
    rintro e wP ⟨s,t,rfl,hp,hk⟩
    have hS_ := hS.next hk
    have hlb : w0.heap.size ≤ wd.heap.size := hS.b0.size
    have HPT := hidMk (show Pt wP wd.heap.size from ⟨t,s,hp⟩)
    clear hS hk hp
    have hS := hS_
    clear hS_
    have hpt := HPT.out
    clear HPT
    generalize wd.heap.size = bp at hpt hlb ⊢
    refine hK.out _ _ hS (fun _ => ?_)
    clear hK K
    (try simp only [Act.put,aT,aZ,aS])
    refine wpAnyH_ready (rs := [3,6]) (by kernel_rfl) (by simp) ?_
    refine AllReadyH.cons rfl (fun K hK => ?_) ?_
    · go_simp
      go_at_call 6
      refine (jobOf_hand 20 5 (by omega) (by omega) bp wP hpt).mono ?_
      rintro e wJ ⟨M,ma,mn,mc,rfl,hmn,_,hck,hk,hpt2,hown,_,_⟩
      have hrg := own_lo9 hown hS.b0.size
      clear hown
      have HMN := hidMk hmn
      have HCK := hidMk hck
      have hS_ := hS.pot hlb hpt hk
      clear hS hk hpt hpt2 hmn hck
      have hS := hS_
      clear hS_
      go_wp2_with fail
      refine hK.out _ _ hS (fun _ => ?_)
      clear hK K
      (try simp only [Act.put,aT,aZ,aS])
      refine wpAnyH_ready (rs := [4,6]) (by kernel_rfl) (by simp) ?_
      refine AllReadyH.cons rfl (fun K hK => ?_) ?_
      · have hA : Bk (wJ.alloc (.cells (([⟨J,a,n,c⟩,⟨M,ma,mn,mc⟩] : List Ent).flatMap fun e => e.V.toList).toArray 30)) wJ.heap.size 30 (([⟨J,a,n,c⟩,⟨M,ma,mn,mc⟩] : List Ent).flatMap fun e => e.V.toList).toArray := Bk.new _ _ _
        have al_ : Below wJ.heap.size wJ (wJ.alloc (.cells (([⟨J,a,n,c⟩,⟨M,ma,mn,mc⟩] : List Ent).flatMap fun e => e.V.toList).toArray 30)) := (Below.refl _ _).alloc (Nat.le_refl _) _
        have hS_ := hS.next al_
        have hrg_ := own_up hrg al_
        go_simp
        show K _ (wJ.alloc (.cells (([⟨J,a,n,c⟩,⟨M,ma,mn,mc⟩] : List Ent).flatMap fun e => e.V.toList).toArray 30))
        refine hK.out _ _ hS_ (fun _ => ?_)
        clear hS hrg al_
        generalize wJ.heap.size = gA at hA ⊢
        generalize (wJ.alloc (.cells (([⟨J,a,n,c⟩,⟨M,ma,mn,mc⟩] : List Ent).flatMap fun e => e.V.toList).toArray 30)) = wA at hA hS_ hrg_ ⊢
        have hS := hS_
        have hrg := hrg_
        clear hS_ hrg_
        clear hK K
        (try simp only [Act.put,aT,aZ,aS])
        refine wpAnyH_ready (rs := [6,7]) (by kernel_rfl) (by simp) ?_
        refine AllReadyH.cons rfl (fun K hK => ?_) ?_
        · have hT : Bk (wA.alloc (.cells #[.string X] 9)) wA.heap.size 9 #[.string X] := Bk.new _ _ _
          have al_ : Below wA.heap.size wA (wA.alloc (.cells #[.string X] 9)) := (Below.refl _ _).alloc (Nat.le_refl _) _
          have hTl : w0.heap.size ≤ wA.heap.size := hS.b0.size
          have hS_ := hS.next al_
          have hrg_ := own_up hrg al_
          have hA_ := hA.below al_ hA.lt
          go_simp
          show K _ (wA.alloc (.cells #[.string X] 9))
          refine hK.out _ _ hS_ (fun _ => ?_)
          clear hS al_ hrg hA
          generalize wA.heap.size = gT at hT hTl ⊢
          generalize (wA.alloc (.cells #[.string X] 9)) = wT at hT hS_ hrg_ hA_ ⊢
          have hS := hS_
          clear hS_
          have hrg := hrg_
          clear hrg_
          have hA := hA_
          clear hA_
          clear hK K
          (try simp only [Act.put,aT,aZ,aS])
          refine wpAnyH_ready (rs := [7]) (by kernel_rfl) (by simp) ?_
          refine AllReadyH.cons rfl (fun K hK => ?_) ?_
          · go_simp
            refine hK.out _ _ hS (fun _ => ?_)
            clear hK K
            (try simp only [Act.put,aT,aZ,aS])
            refine wpAnyH_ready (rs := [8]) (by kernel_rfl) (by simp) ?_
            refine AllReadyH.cons rfl (fun K hK => ?_) ?_
            · go_simp
              refine hK.out _ _ hS (fun _ => ?_)
              clear hK K
              (try simp only [Act.put,aT,aZ,aS])
              refine wpAnyH_done (by kernel_rfl) ?_ _
              exact ⟨rfl,_,_,_,_,_,_,_,_,_,M,ma,mn,mc,rfl,hS.b0,hA,⟨hTl,hT⟩,⟨hS.rg,hrg⟩,HMN.out,HCK.out⟩
            exact AllReadyH.nil
          exact AllReadyH.nil
        refine AllReadyH.cons rfl (fun K hK => ?_) ?_
        · go_simp
          refine hK.out _ _ hS (fun _ => ?_)
          clear hK K
          (try simp only [Act.put,aT,aZ,aS])
          refine wpAnyH_ready (rs := [6]) (by kernel_rfl) (by simp) ?_
          refine AllReadyH.cons rfl (fun K hK => ?_) ?_
          · have hT : Bk (wA.alloc (.cells #[.string X] 9)) wA.heap.size 9 #[.string X] := Bk.new _ _ _
            have al_ : Below wA.heap.size wA (wA.alloc (.cells #[.string X] 9)) := (Below.refl _ _).alloc (Nat.le_refl _) _
            have hTl : w0.heap.size ≤ wA.heap.size := hS.b0.size
            have hS_ := hS.next al_
            have hrg_ := own_up hrg al_
            have hA_ := hA.below al_ hA.lt
            go_simp
            show K _ (wA.alloc (.cells #[.string X] 9))
            refine hK.out _ _ hS_ (fun _ => ?_)
            clear hS al_ hrg hA
            generalize wA.heap.size = gT at hT hTl ⊢
            generalize (wA.alloc (.cells #[.string X] 9)) = wT at hT hS_ hrg_ hA_ ⊢
            have hS := hS_
            clear hS_
            have hrg := hrg_
            clear hrg_
            have hA := hA_
            clear hA_
            clear hK K
            (try simp only [Act.put,aT,aZ,aS])
            refine wpAnyH_ready (rs := [8]) (by kernel_rfl) (by simp) ?_
            refine AllReadyH.cons rfl (fun K hK => ?_) ?_
            · go_simp
              refine hK.out _ _ hS (fun _ => ?_)
              clear hK K
              (try simp only [Act.put,aT,aZ,aS])
              refine wpAnyH_done (by kernel_rfl) ?_ _
              exact ⟨rfl,_,_,_,_,_,_,_,_,_,M,ma,mn,mc,rfl,hS.b0,hA,⟨hTl,hT⟩,⟨hS.rg,hrg⟩,HMN.out,HCK.out⟩
            exact AllReadyH.nil
          exact AllReadyH.nil
        exact AllReadyH.nil
      refine AllReadyH.cons rfl (fun K hK => ?_) ?_
      · have hT : Bk (wJ.alloc (.cells #[.string X] 9)) wJ.heap.size 9 #[.string X] := Bk.new _ _ _
        have al_ : Below wJ.heap.size wJ (wJ.alloc (.cells #[.string X] 9)) := (Below.refl _ _).alloc (Nat.le_refl _) _
        have hTl : w0.heap.size ≤ wJ.heap.size := hS.b0.size
        have hS_ := hS.next al_
        have hrg_ := own_up hrg al_
        go_simp
        show K _ (wJ.alloc (.cells #[.string X] 9))
        refine hK.out _ _ hS_ (fun _ => ?_)
        clear hS al_ hrg
        generalize wJ.heap.size = gT at hT hTl ⊢
        generalize (wJ.alloc (.cells #[.string X] 9)) = wT at hT hS_ hrg_ ⊢
        have hS := hS_
        clear hS_
        have hrg := hrg_
        clear hrg_
        clear hK K
        (try simp only [Act.put,aT,aZ,aS])
        refine wpAnyH_ready (rs := [4]) (by kernel_rfl) (by simp) ?_
        refine AllReadyH.cons rfl (fun K hK => ?_) ?_
        · have hA : Bk (wT.alloc (.cells (([⟨J,a,n,c⟩,⟨M,ma,mn,mc⟩] : List Ent).flatMap fun e => e.V.toList).toArray 30)) wT.heap.size 30 (([⟨J,a,n,c⟩,⟨M,ma,mn,mc⟩] : List Ent).flatMap fun e => e.V.toList).toArray := Bk.new _ _ _
          have al_ : Below wT.heap.size wT (wT.alloc (.cells (([⟨J,a,n,c⟩,⟨M,ma,mn,mc⟩] : List Ent).flatMap fun e => e.V.toList).toArray 30)) := (Below.refl _ _).alloc (Nat.le_refl _) _
          have hS_ := hS.next al_
          have hrg_ := own_up hrg al_
          have hT_ := hT.below al_ hT.lt
          go_simp
          show K _ (wT.alloc (.cells (([⟨J,a,n,c⟩,⟨M,ma,mn,mc⟩] : List Ent).flatMap fun e => e.V.toList).toArray 30))
          refine hK.out _ _ hS_ (fun _ => ?_)
          clear hS hrg al_ hT
          generalize wT.heap.size = gA at hA ⊢
          generalize (wT.alloc (.cells (([⟨J,a,n,c⟩,⟨M,ma,mn,mc⟩] : List Ent).flatMap fun e => e.V.toList).toArray 30)) = wA at hA hS_ hrg_ hT_ ⊢
          have hS := hS_
          have hrg := hrg_
          clear hS_ hrg_
          have hT := hT_
          clear hT_
          clear hK K
          (try simp only [Act.put,aT,aZ,aS])
          refine wpAnyH_ready (rs := [7]) (by kernel_rfl) (by simp) ?_
          refine AllReadyH.cons rfl (fun K hK => ?_) ?_
          · go_simp
            refine hK.out _ _ hS (fun _ => ?_)
            clear hK K
            (try simp only [Act.put,aT,aZ,aS])
            refine wpAnyH_ready (rs := [8]) (by kernel_rfl) (by simp) ?_
            refine AllReadyH.cons rfl (fun K hK => ?_) ?_
            · go_simp
              refine hK.out _ _ hS (fun _ => ?_)
              clear hK K
              (try simp only [Act.put,aT,aZ,aS])
              refine wpAnyH_done (by kernel_rfl) ?_ _
              exact ⟨rfl,_,_,_,_,_,_,_,_,_,M,ma,mn,mc,rfl,hS.b0,hA,⟨hTl,hT⟩,⟨hS.rg,hrg⟩,HMN.out,HCK.out⟩
            exact AllReadyH.nil
          exact AllReadyH.nil
        exact AllReadyH.nil
      exact AllReadyH.nil
    refine AllReadyH.cons rfl (fun K hK => ?_) ?_
    · have hT : Bk (wP.alloc (.cells #[.string X] 9)) wP.heap.size 9 #[.string X] := Bk.new _ _ _
      have al_ : Below wP.heap.size wP (wP.alloc (.cells #[.string X] 9)) := (Below.refl _ _).alloc (Nat.le_refl _) _
      have hTl : w0.heap.size ≤ wP.heap.size := hS.b0.size
      have hS_ := hS.next al_
      have hpt_ := hpt.below al_ hpt.lt
      have hne : wP.heap.size ≠ bp := by have := hpt.lt; omega
      go_simp
      show K _ (wP.alloc (.cells #[.string X] 9))
      refine hK.out _ _ hS_ (fun _ => ?_)
      clear hS al_ hpt
      generalize wP.heap.size = gT at hT hTl hne ⊢
      generalize (wP.alloc (.cells #[.string X] 9)) = wT at hT hS_ hpt_ ⊢
      have hS := hS_
      clear hS_
      have hpt := hpt_
      clear hpt_
      clear hK K
      (try simp only [Act.put,aT,aZ,aS])
      refine wpAnyH_ready (rs := [3]) (by kernel_rfl) (by simp) ?_
      refine AllReadyH.cons rfl (fun K hK => ?_) ?_
      · go_simp
        go_at_call 6
        refine (jobOf_hand 20 5 (by omega) (by omega) bp wT hpt).mono ?_
        rintro e wJ ⟨M,ma,mn,mc,rfl,hmn,_,hck,hk,hpt2,hown,_,_⟩
        have hrg := own_lo9 hown hS.b0.size
        clear hown
        have HMN := hidMk hmn
        have HCK := hidMk hck
        have hS_ := hS.pot hlb hpt hk
        have hT_ := hT.pb hk hT.lt hne
        clear hS hk hpt hpt2 hmn hck hT hne
        have hS := hS_
        clear hS_
        have hT := hT_
        clear hT_
        go_wp2_with fail
        refine hK.out _ _ hS (fun _ => ?_)
        clear hK K
        (try simp only [Act.put,aT,aZ,aS])
        refine wpAnyH_ready (rs := [4]) (by kernel_rfl) (by simp) ?_
        refine AllReadyH.cons rfl (fun K hK => ?_) ?_
        · have hA : Bk (wJ.alloc (.cells (([⟨J,a,n,c⟩,⟨M,ma,mn,mc⟩] : List Ent).flatMap fun e => e.V.toList).toArray 30)) wJ.heap.size 30 (([⟨J,a,n,c⟩,⟨M,ma,mn,mc⟩] : List Ent).flatMap fun e => e.V.toList).toArray := Bk.new _ _ _
          have al_ : Below wJ.heap.size wJ (wJ.alloc (.cells (([⟨J,a,n,c⟩,⟨M,ma,mn,mc⟩] : List Ent).flatMap fun e => e.V.toList).toArray 30)) := (Below.refl _ _).alloc (Nat.le_refl _) _
          have hS_ := hS.next al_
          have hrg_ := own_up hrg al_
          have hT_ := hT.below al_ hT.lt
          go_simp
          show K _ (wJ.alloc (.cells (([⟨J,a,n,c⟩,⟨M,ma,mn,mc⟩] : List Ent).flatMap fun e => e.V.toList).toArray 30))
          refine hK.out _ _ hS_ (fun _ => ?_)
          clear hS hrg al_ hT
          generalize wJ.heap.size = gA at hA ⊢
          generalize (wJ.alloc (.cells (([⟨J,a,n,c⟩,⟨M,ma,mn,mc⟩] : List Ent).flatMap fun e => e.V.toList).toArray 30)) = wA at hA hS_ hrg_ hT_ ⊢
          have hS := hS_
          have hrg := hrg_
          clear hS_ hrg_
          have hT := hT_
          clear hT_
          clear hK K
          (try simp only [Act.put,aT,aZ,aS])
          refine wpAnyH_ready (rs := [7]) (by kernel_rfl) (by simp) ?_
          refine AllReadyH.cons rfl (fun K hK => ?_) ?_
          · go_simp
            refine hK.out _ _ hS (fun _ => ?_)
            clear hK K
            (try simp only [Act.put,aT,aZ,aS])
            refine wpAnyH_ready (rs := [8]) (by kernel_rfl) (by simp) ?_
            refine AllReadyH.cons rfl (fun K hK => ?_) ?_
            · go_simp
              refine hK.out _ _ hS (fun _ => ?_)
              clear hK K
              (try simp only [Act.put,aT,aZ,aS])
              refine wpAnyH_done (by kernel_rfl) ?_ _
              exact ⟨rfl,_,_,_,_,_,_,_,_,_,M,ma,mn,mc,rfl,hS.b0,hA,⟨hTl,hT⟩,⟨hS.rg,hrg⟩,HMN.out,HCK.out⟩
            exact AllReadyH.nil
          exact AllReadyH.nil
        exact AllReadyH.nil
      exact AllReadyH.nil
    exact AllReadyH.nil
  refine AllReadyH.cons rfl (fun K hK => ?_) ?_
  · have hT : Bk (wd.alloc (.cells #[.string X] 9)) wd.heap.size 9 #[.string X] := Bk.new _ _ _
    have al_ : Below wd.heap.size wd (wd.alloc (.cells #[.string X] 9)) := (Below.refl _ _).alloc (Nat.le_refl _) _
    have hTl : w0.heap.size ≤ wd.heap.size := hS.b0.size
    have hS_ := hS.next al_
    go_simp
    show K _ (wd.alloc (.cells #[.string X] 9))
    refine hK.out _ _ hS_ (fun _ => ?_)
    clear hS al_
    generalize wd.heap.size = gT at hT hTl ⊢
    generalize (wd.alloc (.cells #[.string X] 9)) = wT at hT hS_ ⊢
    have hS := hS_
    clear hS_
    clear hK K
    (try simp only [Act.put,aT,aZ,aS])
    refine wpAnyH_ready (rs := [2]) (by kernel_rfl) (by simp) ?_
    refine AllReadyH.cons rfl (fun K hK => ?_) ?_
    · go_simp
      go_at_call 7
      refine (newPot_any na nn nc nl wT HNN.out.1 HNN.out.2 hS.is).mono ?_
      rintro e wP ⟨s,t,rfl,hp,hk⟩
      have hS_ := hS.next hk
      have hT_ := hT.below hk hT.lt
      have hlb : w0.heap.size ≤ wT.heap.size := hS.b0.size
      have HPT := hidMk (show Pt wP wT.heap.size from ⟨t,s,hp⟩)
      have hne : gT ≠ wT.heap.size := by have := hT.lt; omega
      clear hS hk hp
      have hS := hS_
      clear hS_
      clear hT
      have hT := hT_
      clear hT_
      have hpt := HPT.out
      clear HPT
      generalize wT.heap.size = bp at hpt hlb hne ⊢
      refine hK.out _ _ hS (fun _ => ?_)
      clear hK K
      (try simp only [Act.put,aT,aZ,aS])
      refine wpAnyH_ready (rs := [3]) (by kernel_rfl) (by simp) ?_
      refine AllReadyH.cons rfl (fun K hK => ?_) ?_
      · go_simp
        go_at_call 6
        refine (jobOf_hand 20 5 (by omega) (by omega) bp wP hpt).mono ?_
        rintro e wJ ⟨M,ma,mn,mc,rfl,hmn,_,hck,hk,hpt2,hown,_,_⟩
        have hrg := own_lo9 hown hS.b0.size
        clear hown
        have HMN := hidMk hmn
        have HCK := hidMk hck
        have hS_ := hS.pot hlb hpt hk
        have hT_ := hT.pb hk hT.lt hne
        clear hS hk hpt hpt2 hmn hck hT hne
        have hS := hS_
        clear hS_
        have hT := hT_
        clear hT_
        go_wp2_with fail
        refine hK.out _ _ hS (fun _ => ?_)
        clear hK K
        (try simp only [Act.put,aT,aZ,aS])
        refine wpAnyH_ready (rs := [4]) (by kernel_rfl) (by simp) ?_
        refine AllReadyH.cons rfl (fun K hK => ?_) ?_
        · have hA : Bk (wJ.alloc (.cells (([⟨J,a,n,c⟩,⟨M,ma,mn,mc⟩] : List Ent).flatMap fun e => e.V.toList).toArray 30)) wJ.heap.size 30 (([⟨J,a,n,c⟩,⟨M,ma,mn,mc⟩] : List Ent).flatMap fun e => e.V.toList).toArray := Bk.new _ _ _
          have al_ : Below wJ.heap.size wJ (wJ.alloc (.cells (([⟨J,a,n,c⟩,⟨M,ma,mn,mc⟩] : List Ent).flatMap fun e => e.V.toList).toArray 30)) := (Below.refl _ _).alloc (Nat.le_refl _) _
          have hS_ := hS.next al_
          have hrg_ := own_up hrg al_
          have hT_ := hT.below al_ hT.lt
          go_simp
          show K _ (wJ.alloc (.cells (([⟨J,a,n,c⟩,⟨M,ma,mn,mc⟩] : List Ent).flatMap fun e => e.V.toList).toArray 30))
          refine hK.out _ _ hS_ (fun _ => ?_)
          clear hS hrg al_ hT
          generalize wJ.heap.size = gA at hA ⊢
          generalize (wJ.alloc (.cells (([⟨J,a,n,c⟩,⟨M,ma,mn,mc⟩] : List Ent).flatMap fun e => e.V.toList).toArray 30)) = wA at hA hS_ hrg_ hT_ ⊢
          have hS := hS_
          have hrg := hrg_
          clear hS_ hrg_
          have hT := hT_
          clear hT_
          clear hK K
          (try simp only [Act.put,aT,aZ,aS])
          refine wpAnyH_ready (rs := [7]) (by kernel_rfl) (by simp) ?_
          refine AllReadyH.cons rfl (fun K hK => ?_) ?_
          · go_simp
            refine hK.out _ _ hS (fun _ => ?_)
            clear hK K
            (try simp only [Act.put,aT,aZ,aS])
            refine wpAnyH_ready (rs := [8]) (by kernel_rfl) (by simp) ?_
            refine AllReadyH.cons rfl (fun K hK => ?_) ?_
            · go_simp
              refine hK.out _ _ hS (fun _ => ?_)
              clear hK K
              (try simp only [Act.put,aT,aZ,aS])
              refine wpAnyH_done (by kernel_rfl) ?_ _
              exact ⟨rfl,_,_,_,_,_,_,_,_,_,M,ma,mn,mc,rfl,hS.b0,hA,⟨hTl,hT⟩,⟨hS.rg,hrg⟩,HMN.out,HCK.out⟩
            exact AllReadyH.nil
          exact AllReadyH.nil
        exact AllReadyH.nil
      exact AllReadyH.nil
    exact AllReadyH.nil
  exact AllReadyH.nil
end Go.Proofs.YtljefjngmembkaaGreatDoor
