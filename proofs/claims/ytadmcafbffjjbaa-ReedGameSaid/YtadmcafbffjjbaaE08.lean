/- Part 8 of the proof: GnC. -/
import Derived.Deep.WholeRow
import Derived.Test.YtadmcafbffjjbaaE07
import Derived.Test.YtadmcafbffjjbaaE01
namespace Go.Proofs.Ytadmcafbffjjbaa
set_option linter.all false
open Go.RowKit
def TNx (G : Jb) (tips roots : Nat) (t : Tg) : Prop := t.t1 = G.t1 - (tips : Int) * G.x2 ∧ t.r1 = G.r1 - (roots : Int) * G.y2 ∧ t.t1 ≤ t.t2 ∧ t.r1 ≤ t.r2
theorem tn_tip {G : Jb} {tips roots : Nat} {t : Tg} (h : TNx G tips roots t) (hx : G.x1 ≤ G.x2) : TNx G (tips + 1) roots (strk G t 1) := by
  obtain ⟨h1,h2,h3,h4⟩ := h
  refine ⟨?_,h2,?_,h4⟩
  · show t.t1 - G.x2 = _
    rw [h1]
    push_cast
    rw [Int.add_mul]
    omega
  · show t.t1 - G.x2 ≤ t.t2 - G.x1
    omega
theorem tn_root {G : Jb} {tips roots : Nat} {t : Tg} (h : TNx G tips roots t) (hy : G.y1 ≤ G.y2) : TNx G tips (roots + 1) (strk G t 2) := by
  obtain ⟨h1,h2,h3,h4⟩ := h
  refine ⟨h1,?_,h3,?_⟩
  · show t.r1 - G.y2 = _
    rw [h2]
    push_cast
    rw [Int.add_mul]
    omega
  · show t.r1 - G.y2 ≤ t.r2 - G.y1
    omega
theorem tn_thick {G : Jb} {tips roots : Nat} {t : Tg} (h : TNx G tips roots t) : spoilI G.le t = 2 ↔ G.le ≤ t.t1 ∧ G.le ≤ t.r1 := by
  obtain ⟨h1,h2,h3,h4⟩ := h
  rw [spoil_2]
  omega
def NDc (G : Jb) (sa : Option Addr) (sn sc : Nat) (W : R2) (k : Nat) : Prop := ∀ (t : Tg) (tips roots : Nat) (w : World),TNx G tips roots t → TgIn k t → tips + roots + k ≤ 10 → Rg w w.heap.size sa G.sh →
  Calls Try.prog 33 #[.agg (jobC G (.slice sa sn sc)),.agg #[.int .i64 W.1,.int .i64 W.2],.agg #[.int .i64 t.p1,.int .i64 t.p2],.int .i64 (tips : Int),.int .i64 (roots : Int),.int .i64 (k : Int)] w fun e w' => e = .returned (.int .i64 (capk k (gT G t))) ∧ Below w.heap.size w w'
structure NX5 (w0 w : World) (g6 g7 g8 g15 : Nat) (G : Jb) (sa : Option Addr) (sn sc : Nat) (W : R2) (p1 p2 : Int) (t : Tg) : Prop where
  nw : NW w0 w g6 g7 g8 G sa sn sc W p1 p2
  x5 : Bk w g15 23 #[.int .i64 t.p1,.int .i64 t.p2]
theorem NX5.next {w0 w w' : World} {g6 g7 g8 g15 : Nat} {G : Jb} {sa : Option Addr} {sn sc : Nat} {W : R2} {p1 p2 : Int} {t : Tg} (h : NX5 w0 w g6 g7 g8 g15 G sa sn sc W p1 p2 t) (hb : Below w.heap.size w w') : NX5 w0 w' g6 g7 g8 g15 G sa sn sc W p1 p2 t :=
  ⟨h.nw.next hb,h.x5.below hb h.x5.lt⟩
set_option maxHeartbeats 9000000 in
set_option maxRecDepth 1000000 in
theorem nr10 {w0 : World} {g6 g7 g8 g15 : Nat} {G : Jb} {sa : Option Addr} {sn sc : Nat} {W : R2} {p1 p2 : Int} {tips roots k : Nat} {t : Tg} {b0 : Int} {Q : Exit → Act → World → Prop} {w : World} {u0 u1 u2 u9 A0 A1 A2 A3 A4 A7 A8 A9 Aa Ab Ac Ad Ae Af Ag Ah Ai Aj Ak Al Am An Ao Ap Aq Ar As At Au Av Aw Ax Ay Az C0 C1 C2 C3 C4 C5 C6 C7 C8 C9 Ca Cb Cc Cd Ce Cf Cg Ch Ci Cj Ck Cl Cm Cn Co Cp Cq Cr Cs Ct Cu Cv Cw Cx Cy Cz D0 D1 D2 D3 D4 D5 D6 D7 D8 D9 Da Db Dc Dd De Df Dg Dh Di Dj Dk Dl Dm Dn Do Dp Dq Dr Ds Dt Du Dv Dw Dx Dy Dz E0 E1 E2 E3 E4 E5 E6 E7 E8 E9 Ea Eb Ec Ed Ee Ef Eg Eh Ei Ej Ek El Em En Eo Ep Eq Er Es Et Eu Ev Ew Ex Ey Ez F0 F1 F2 F3 F4 F5 F6 F7 F8 F9 Fa Fb Fc Fd Fe Ff Fg Fh Fi Fj Fk Fl Fm Fn Fo : Value} (hnd : NDc G sa sn sc W k) (hin : G.In 1000) (hu : G.u1 ≤ G.u2 ∧ G.d1 ≤ G.d2) (hx : G.x1 ≤ G.x2 ∧ G.y1 ≤ G.y2) (hs : NX5 w0 w g6 g7 g8 g15 G sa sn sc W p1 p2 t) (htn : TNx G tips roots t) (hti : TgIn (k + 1) t) (hk : tips + roots + (k + 1) ≤ 10) (hb0 : -1000 ≤ b0 ∧ b0 ≤ 1000) (hK : ∀ (w' : World),NX5 w0 w' g6 g7 g8 g15 G sa sn sc W p1 p2 t → ∀ (v86 v87 v88 v89 v90 v91 v92 v93 v94 v95 v96 v97 v98 v99 v100 v101 v102 v103 v104 v105 v106 v107 v108 v109 v110 v111 : Value),Q .normal ⟨#[u0,u1,u2,(.int .i64 ↑tips),(.int .i64 ↑roots),(.int .i64 (↑k + 1)),(.pointer (some ⟨g6,0,none⟩)),(.pointer (some ⟨g7,0,none⟩)),(.pointer (some ⟨g8,0,none⟩)),u9,A0,A1,A2,A3,A4,(.pointer (some ⟨g15,0,none⟩)),(.int .i64 (mn b0 (1 + capk k (gT G (strk G t 1))))),A7,A8,A9,Aa,Ab,Ac,Ad,Ae,Af,Ag,Ah,Ai,Aj,Ak,Al,Am,An,Ao,Ap,Aq,Ar,As,At,Au,Av,Aw,Ax,Ay,Az,C0,C1,C2,C3,C4,C5,C6,C7,C8,C9,Ca,Cb,Cc,Cd,Ce,Cf,Cg,Ch,Ci,Cj,Ck,Cl,Cm,Cn,Co,Cp,Cq,Cr,Cs,Ct,Cu,Cv,Cw,Cx,Cy,Cz,D0,D1,D2,D3,v86,v87,v88,v89,v90,v91,v92,v93,v94,v95,v96,v97,v98,v99,v100,v101,v102,v103,v104,v105,v106,v107,v108,v109,v110,v111,Du,Dv,Dw,Dx,Dy,Dz,E0,E1,E2,E3,E4,E5,E6,E7,E8,E9,Ea,Eb,Ec,Ed,Ee,Ef,Eg,Eh,Ei,Ej,Ek,El,Em,En,Eo,Ep,Eq,Er,Es,Et,Eu,Ev,Ew,Ex,Ey,Ez,F0,F1,F2,F3,F4,F5,F6,F7,F8,F9,Fa,Fb,Fc,Fd,Fe,Ff,Fg,Fh,Fi,Fj,Fk,Fl,Fm,Fn,Fo],[]⟩ w') : Code.wp Try.prog (Code.region 10 #[⟨some 86,.move (.tmp 16),3,"outright.go:304",#[],none⟩,⟨some 87,.load 30 (.tmp 6),30,"outright.go:304",#[],none⟩,⟨some 88,.load 23 (.tmp 7),23,"outright.go:304",#[],none⟩,⟨some 89,.fieldAddr 23 (.tmp 15) 0,0,"outright.go:304",#[],none⟩,⟨some 90,.load 3 (.tmp 89),3,"outright.go:304",#[⟨3,.data⟩],none⟩,⟨some 91,.fieldAddr 30 (.tmp 6) 1,0,"outright.go:304",#[],none⟩,⟨some 92,.fieldAddr 27 (.tmp 91) 0,0,"outright.go:304",#[⟨5,.data⟩],none⟩,⟨some 93,.fieldAddr 23 (.tmp 92) 0,0,"outright.go:304",#[⟨6,.data⟩],none⟩,⟨some 94,.load 3 (.tmp 93),3,"outright.go:304",#[⟨7,.data⟩],none⟩,⟨some 95,.binOp .add 3 (.tmp 90) (.tmp 94) 3,3,"outright.go:304",#[⟨4,.data⟩,⟨8,.data⟩],none⟩,⟨some 96,.fieldAddr 23 (.tmp 15) 1,0,"outright.go:304",#[],none⟩,⟨some 97,.load 3 (.tmp 96),3,"outright.go:304",#[⟨10,.data⟩],none⟩,⟨some 98,.fieldAddr 30 (.tmp 6) 1,0,"outright.go:304",#[],none⟩,⟨some 99,.fieldAddr 27 (.tmp 98) 0,0,"outright.go:304",#[⟨12,.data⟩],none⟩,⟨some 100,.fieldAddr 23 (.tmp 99) 1,0,"outright.go:304",#[⟨13,.data⟩],none⟩,⟨some 101,.load 3 (.tmp 100),3,"outright.go:304",#[⟨14,.data⟩],none⟩,⟨some 102,.binOp .add 3 (.tmp 97) (.tmp 101) 3,3,"outright.go:304",#[⟨11,.data⟩,⟨15,.data⟩],none⟩,⟨some 103,.call { callee := .value (.func 32),args := #[.tmp 95,.tmp 102],argTypes := #[3,3] },23,"outright.go:304",#[⟨9,.data⟩,⟨16,.data⟩],none⟩,⟨some 104,.move (.tmp 3),3,"outright.go:304",#[],none⟩,⟨some 105,.binOp .add 3 (.tmp 104) (.const (.int .i64 1)) 3,3,"outright.go:304",#[⟨18,.data⟩],none⟩,⟨some 106,.move (.tmp 4),3,"outright.go:304",#[],none⟩,⟨some 107,.move (.tmp 5),3,"outright.go:304",#[],none⟩,⟨some 108,.binOp .sub 3 (.tmp 107) (.const (.int .i64 1)) 3,3,"outright.go:304",#[⟨21,.data⟩],none⟩,⟨some 109,.call { callee := .value (.func 33),args := #[.tmp 87,.tmp 88,.tmp 103,.tmp 105,.tmp 106,.tmp 108],argTypes := #[30,23,23,3,3,3] },3,"outright.go:304",#[⟨1,.data⟩,⟨2,.data⟩,⟨17,.data⟩,⟨19,.data⟩,⟨20,.data⟩,⟨22,.data⟩,⟨17,.chain⟩],none⟩,⟨some 110,.binOp .add 3 (.const (.int .i64 1)) (.tmp 109) 3,3,"outright.go:304",#[⟨23,.data⟩],none⟩,⟨some 111,.call { callee := .builtin .min,args := #[.tmp 86,.tmp 110],argTypes := #[3,3] },3,"outright.go:304",#[⟨0,.data⟩,⟨24,.data⟩],none⟩,⟨some 16,.assign (.tmp 111),3,"outright.go:304",#[⟨25,.data⟩,⟨23,.chain⟩,⟨0,.phase⟩,⟨1,.phase⟩,⟨2,.phase⟩,⟨3,.phase⟩,⟨4,.phase⟩,⟨5,.phase⟩,⟨6,.phase⟩,⟨7,.phase⟩,⟨8,.phase⟩,⟨9,.phase⟩,⟨10,.phase⟩,⟨11,.phase⟩,⟨12,.phase⟩,⟨13,.phase⟩,⟨14,.phase⟩,⟨15,.phase⟩,⟨16,.phase⟩,⟨17,.phase⟩,⟨18,.phase⟩,⟨19,.phase⟩,⟨20,.phase⟩,⟨21,.phase⟩,⟨22,.phase⟩,⟨23,.phase⟩,⟨24,.phase⟩,⟨25,.phase⟩],none⟩] true) Q ⟨#[u0,u1,u2,(.int .i64 ↑tips),(.int .i64 ↑roots),(.int .i64 (↑k + 1)),(.pointer (some ⟨g6,0,none⟩)),(.pointer (some ⟨g7,0,none⟩)),(.pointer (some ⟨g8,0,none⟩)),u9,A0,A1,A2,A3,A4,(.pointer (some ⟨g15,0,none⟩)),(.int .i64 b0),A7,A8,A9,Aa,Ab,Ac,Ad,Ae,Af,Ag,Ah,Ai,Aj,Ak,Al,Am,An,Ao,Ap,Aq,Ar,As,At,Au,Av,Aw,Ax,Ay,Az,C0,C1,C2,C3,C4,C5,C6,C7,C8,C9,Ca,Cb,Cc,Cd,Ce,Cf,Cg,Ch,Ci,Cj,Ck,Cl,Cm,Cn,Co,Cp,Cq,Cr,Cs,Ct,Cu,Cv,Cw,Cx,Cy,Cz,D0,D1,D2,D3,D4,D5,D6,D7,D8,D9,Da,Db,Dc,Dd,De,Df,Dg,Dh,Di,Dj,Dk,Dl,Dm,Dn,Do,Dp,Dq,Dr,Ds,Dt,Du,Dv,Dw,Dx,Dy,Dz,E0,E1,E2,E3,E4,E5,E6,E7,E8,E9,Ea,Eb,Ec,Ed,Ee,Ef,Eg,Eh,Ei,Ej,Ek,El,Em,En,Eo,Ep,Eq,Er,Es,Et,Eu,Ev,Ew,Ex,Ey,Ez,F0,F1,F2,F3,F4,F5,F6,F7,F8,F9,Fa,Fb,Fc,Fd,Fe,Ff,Fg,Fh,Fi,Fj,Fk,Fl,Fm,Fn,Fo],[]⟩ w := by
  have HND := hidMk hnd
  have HIN := hidMk hin
  have HU := hidMk hu
  have HX := hidMk hx
  have HTN := hidMk htn
  have HTI := hidMk hti
  have hpp : -148 ≤ t.p1 ∧ t.p1 ≤ 148 ∧ -148 ≤ t.p2 ∧ t.p2 ≤ 148 := by have h := hti.1; simp only [Tg.In] at h; omega
  have hq1 := hin.u1
  have hq2 := hin.u2
  have e1 : (strk G t 1).p1 = t.p1 + G.u1 := rfl
  have e2 : (strk G t 1).p2 = t.p2 + G.u2 := rfl
  have w1 : IntKind.i64.wrap (t.p1 + G.u1) = t.p1 + G.u1 := IntWalk.i64_in _ (by omega)
  have w2 : IntKind.i64.wrap (t.p2 + G.u2) = t.p2 + G.u2 := IntWalk.i64_in _ (by omega)
  have w3 : IntKind.i64.wrap ((tips : Int) + 1) = (tips : Int) + 1 := IntWalk.i64_in _ (by omega)
  have w4 : IntKind.i64.wrap ((roots : Int) + 1) = (roots : Int) + 1 := IntWalk.i64_in _ (by omega)
  have w5 : IntKind.i64.wrap (k : Int) = (k : Int) := IntWalk.i64_in _ (by omega)
  have HE := hidMk (And.intro e1 e2)
  clear e1 e2
  clear hnd hin hu hx htn hti
  refine region_via (R := fun a_ e_ a' w' => e_ = .normal ∧ ∃ (v86 v87 v88 v89 v90 v91 v92 v93 v94 v95 v96 v97 v98 v99 v100 v101 v102 v103 v104 v105 v106 v107 v108 v109 v110 v111 : Value),a' = (((((((((((((((((((((((((((a_.put (some 86) v86).put (some 87) v87).put (some 88) v88).put (some 89) v89).put (some 90) v90).put (some 91) v91).put (some 92) v92).put (some 93) v93).put (some 94) v94).put (some 95) v95).put (some 96) v96).put (some 97) v97).put (some 98) v98).put (some 99) v99).put (some 100) v100).put (some 101) v101).put (some 102) v102).put (some 103) v103).put (some 104) v104).put (some 105) v105).put (some 106) v106).put (some 107) v107).put (some 108) v108).put (some 109) v109).put (some 110) v110).put (some 111) v111).put (some 16) (.int .i64 (mn b0 (1 + capk k (gT G (strk G t 1)))))) ∧ NX5 w0 w' g6 g7 g8 g15 G sa sn sc W p1 p2 t) ?_ ?_
  rotate_left
  · rintro e_ a' w' ⟨rfl,v86,v87,v88,v89,v90,v91,v92,v93,v94,v95,v96,v97,v98,v99,v100,v101,v102,v103,v104,v105,v106,v107,v108,v109,v110,v111,rfl,hs'⟩
    simp only [Act.put,aT,aZ,aS]
    exact hK _ hs' _ _ _ _ _ _ _ _ _ _ _ _ _ _ _ _ _ _ _ _ _ _ _ _ _ _ 
  have hS : NX5 w0 w.drew g6 g7 g8 g15 G sa sn sc W p1 p2 t := hs.next (Below.refl _ _).drew
  have hBW : Below w.heap.size w w.drew := (Below.refl _ _).drew
  clear hs
  refine wp_region_held_drew (S := fun w' => NX5 w0 w' g6 g7 g8 g15 G sa sn sc W p1 p2 t) (by kernel_rfl) hS (fun hS0 => ?_)
  generalize hWd : w.drew = wd at hS0 hS hBW ⊢
  clear hWd
  refine wpAnyH_take (i := 0) (v := ?_) rfl (by kernel_rfl) (by kernel_rfl) (by kernel_rfl) (fun _ _ _ h => by cases h.1) (.inl ⟨by rfl,?_⟩) (by assumption) ?_
  rotate_left
  · (intro w' hSw; (try dsimp only at hSw); skip; go_simp <;> with_reducible rfl)
  (try simp only [Act.put,aT,aZ,aS])
  refine wpAnyH_take (i := 1) rfl (by kernel_rfl) (by kernel_rfl) (by kernel_rfl) (fun _ _ _ h => by cases h.1) (yields_row (by rfl) 30 _ rfl g6 (jobC G (.slice sa sn sc)) rfl 30 (fun w' hw => hw.nw.job) Try.underlying30 szJob) (by assumption) ?_
  (try simp only [Act.put,aT,aZ,aS])
  refine wpAnyH_take (i := 2) (v := ?_) rfl (by kernel_rfl) (by kernel_rfl) (by kernel_rfl) (fun _ _ _ h => by cases h.1) (.inl ⟨by rfl,?_⟩) (by assumption) ?_
  rotate_left
  · (intro w' hSw; (try dsimp only at hSw); (have q0 := hSw.x5.at_ 0 (.int .i64 t.p1) rfl; have q1 := hSw.x5.at_ 1 (.int .i64 t.p2) rfl; have q2 := hSw.nw.job.at_ 6 (.int .i64 G.u1) rfl; have q3 := hSw.nw.job.at_ 7 (.int .i64 G.u2) rfl; have q4 := hSw.nw.wd.at_ 0 (.int .i64 W.1) rfl; have q5 := hSw.nw.wd.at_ 1 (.int .i64 W.2) rfl); go_simp <;> with_reducible rfl)
  (try simp only [Act.put,aT,aZ,aS])
  refine wpAnyH_take (i := 3) (v := ?_) rfl (by kernel_rfl) (by kernel_rfl) (by kernel_rfl) (fun _ _ _ h => by cases h.1) (.inl ⟨by rfl,?_⟩) (by assumption) ?_
  rotate_left
  · (intro w' hSw; (try dsimp only at hSw); skip; go_simp <;> with_reducible rfl)
  (try simp only [Act.put,aT,aZ,aS])
  refine wpAnyH_take (i := 4) (v := ?_) rfl (by kernel_rfl) (by kernel_rfl) (by kernel_rfl) (fun _ _ _ h => by cases h.1) (.inl ⟨by rfl,?_⟩) (by assumption) ?_
  rotate_left
  · (intro w' hSw; (try dsimp only at hSw); (have q0 := hSw.x5.at_ 0 (.int .i64 t.p1) rfl; have q1 := hSw.x5.at_ 1 (.int .i64 t.p2) rfl; have q2 := hSw.nw.job.at_ 6 (.int .i64 G.u1) rfl; have q3 := hSw.nw.job.at_ 7 (.int .i64 G.u2) rfl; have q4 := hSw.nw.wd.at_ 0 (.int .i64 W.1) rfl; have q5 := hSw.nw.wd.at_ 1 (.int .i64 W.2) rfl); go_simp <;> with_reducible rfl)
  (try simp only [Act.put,aT,aZ,aS])
  refine wpAnyH_take (i := 5) (v := ?_) rfl (by kernel_rfl) (by kernel_rfl) (by kernel_rfl) (fun _ _ _ h => by cases h.1) (.inl ⟨by rfl,?_⟩) (by assumption) ?_
  rotate_left
  · (intro w' hSw; (try dsimp only at hSw); skip; go_simp <;> with_reducible rfl)
  (try simp only [Act.put,aT,aZ,aS])
  refine wpAnyH_take (i := 6) (v := ?_) rfl (by kernel_rfl) (by kernel_rfl) (by kernel_rfl) (fun _ _ _ h => by cases h.1) (.inl ⟨by rfl,?_⟩) (by assumption) ?_
  rotate_left
  · (intro w' hSw; (try dsimp only at hSw); skip; go_simp <;> with_reducible rfl)
  (try simp only [Act.put,aT,aZ,aS])
  refine wpAnyH_take (i := 7) (v := ?_) rfl (by kernel_rfl) (by kernel_rfl) (by kernel_rfl) (fun _ _ _ h => by cases h.1) (.inl ⟨by rfl,?_⟩) (by assumption) ?_
  rotate_left
  · (intro w' hSw; (try dsimp only at hSw); skip; go_simp <;> with_reducible rfl)
  (try simp only [Act.put,aT,aZ,aS])
  refine wpAnyH_take (i := 8) (v := ?_) rfl (by kernel_rfl) (by kernel_rfl) (by kernel_rfl) (fun _ _ _ h => by cases h.1) (.inl ⟨by rfl,?_⟩) (by assumption) ?_
  rotate_left
  · (intro w' hSw; (try dsimp only at hSw); (have q0 := hSw.x5.at_ 0 (.int .i64 t.p1) rfl; have q1 := hSw.x5.at_ 1 (.int .i64 t.p2) rfl; have q2 := hSw.nw.job.at_ 6 (.int .i64 G.u1) rfl; have q3 := hSw.nw.job.at_ 7 (.int .i64 G.u2) rfl; have q4 := hSw.nw.wd.at_ 0 (.int .i64 W.1) rfl; have q5 := hSw.nw.wd.at_ 1 (.int .i64 W.2) rfl); go_simp <;> with_reducible rfl)
  (try simp only [Act.put,aT,aZ,aS])
  refine wpAnyH_take (i := 9) (v := ?_) rfl (by kernel_rfl) (by kernel_rfl) (by kernel_rfl) (fun _ _ _ h => by cases h.1) (.inl ⟨by rfl,?_⟩) (by assumption) ?_
  rotate_left
  · (intro w' hSw; (try dsimp only at hSw); skip; go_simp <;> with_reducible rfl)
  (try simp only [Act.put,aT,aZ,aS])
  refine wpAnyH_take (i := 10) (v := ?_) rfl (by kernel_rfl) (by kernel_rfl) (by kernel_rfl) (fun _ _ _ h => by cases h.1) (.inl ⟨by rfl,?_⟩) (by assumption) ?_
  rotate_left
  · (intro w' hSw; (try dsimp only at hSw); skip; go_simp <;> with_reducible rfl)
  (try simp only [Act.put,aT,aZ,aS])
  refine wpAnyH_take (i := 11) (v := ?_) rfl (by kernel_rfl) (by kernel_rfl) (by kernel_rfl) (fun _ _ _ h => by cases h.1) (.inl ⟨by rfl,?_⟩) (by assumption) ?_
  rotate_left
  · (intro w' hSw; (try dsimp only at hSw); (have q0 := hSw.x5.at_ 0 (.int .i64 t.p1) rfl; have q1 := hSw.x5.at_ 1 (.int .i64 t.p2) rfl; have q2 := hSw.nw.job.at_ 6 (.int .i64 G.u1) rfl; have q3 := hSw.nw.job.at_ 7 (.int .i64 G.u2) rfl; have q4 := hSw.nw.wd.at_ 0 (.int .i64 W.1) rfl; have q5 := hSw.nw.wd.at_ 1 (.int .i64 W.2) rfl); go_simp <;> with_reducible rfl)
  (try simp only [Act.put,aT,aZ,aS])
  refine wpAnyH_take (i := 12) (v := ?_) rfl (by kernel_rfl) (by kernel_rfl) (by kernel_rfl) (fun _ _ _ h => by cases h.1) (.inl ⟨by rfl,?_⟩) (by assumption) ?_
  rotate_left
  · (intro w' hSw; (try dsimp only at hSw); skip; go_simp <;> with_reducible rfl)
  (try simp only [Act.put,aT,aZ,aS])
  refine wpAnyH_take (i := 13) (v := ?_) rfl (by kernel_rfl) (by kernel_rfl) (by kernel_rfl) (fun _ _ _ h => by cases h.1) (.inl ⟨by rfl,?_⟩) (by assumption) ?_
  rotate_left
  · (intro w' hSw; (try dsimp only at hSw); skip; go_simp <;> with_reducible rfl)
  (try simp only [Act.put,aT,aZ,aS])
  refine wpAnyH_take (i := 14) (v := ?_) rfl (by kernel_rfl) (by kernel_rfl) (by kernel_rfl) (fun _ _ _ h => by cases h.1) (.inl ⟨by rfl,?_⟩) (by assumption) ?_
  rotate_left
  · (intro w' hSw; (try dsimp only at hSw); skip; go_simp <;> with_reducible rfl)
  (try simp only [Act.put,aT,aZ,aS])
  refine wpAnyH_take (i := 15) (v := ?_) rfl (by kernel_rfl) (by kernel_rfl) (by kernel_rfl) (fun _ _ _ h => by cases h.1) (.inl ⟨by rfl,?_⟩) (by assumption) ?_
  rotate_left
  · (intro w' hSw; (try dsimp only at hSw); (have q0 := hSw.x5.at_ 0 (.int .i64 t.p1) rfl; have q1 := hSw.x5.at_ 1 (.int .i64 t.p2) rfl; have q2 := hSw.nw.job.at_ 6 (.int .i64 G.u1) rfl; have q3 := hSw.nw.job.at_ 7 (.int .i64 G.u2) rfl; have q4 := hSw.nw.wd.at_ 0 (.int .i64 W.1) rfl; have q5 := hSw.nw.wd.at_ 1 (.int .i64 W.2) rfl); go_simp <;> with_reducible rfl)
  (try simp only [Act.put,aT,aZ,aS])
  refine wpAnyH_take (i := 16) (v := ?_) rfl (by kernel_rfl) (by kernel_rfl) (by kernel_rfl) (fun _ _ _ h => by cases h.1) (.inl ⟨by rfl,?_⟩) (by assumption) ?_
  rotate_left
  · (intro w' hSw; (try dsimp only at hSw); skip; go_simp <;> with_reducible rfl)
  (try simp only [Act.put,aT,aZ,aS])
  refine wpAnyH_take (i := 18) (v := ?_) rfl (by kernel_rfl) (by kernel_rfl) (by kernel_rfl) (fun _ _ _ h => by cases h.1) (.inl ⟨by rfl,?_⟩) (by assumption) ?_
  rotate_left
  · (intro w' hSw; (try dsimp only at hSw); skip; go_simp <;> with_reducible rfl)
  (try simp only [Act.put,aT,aZ,aS])
  refine wpAnyH_take (i := 19) (v := ?_) rfl (by kernel_rfl) (by kernel_rfl) (by kernel_rfl) (fun _ _ _ h => by cases h.1) (.inl ⟨by rfl,?_⟩) (by assumption) ?_
  rotate_left
  · (intro w' hSw; (try dsimp only at hSw); skip; go_simp <;> with_reducible rfl)
  (try simp only [Act.put,aT,aZ,aS])
  refine wpAnyH_take (i := 20) (v := ?_) rfl (by kernel_rfl) (by kernel_rfl) (by kernel_rfl) (fun _ _ _ h => by cases h.1) (.inl ⟨by rfl,?_⟩) (by assumption) ?_
  rotate_left
  · (intro w' hSw; (try dsimp only at hSw); skip; go_simp <;> with_reducible rfl)
  (try simp only [Act.put,aT,aZ,aS])
  refine wpAnyH_take (i := 21) (v := ?_) rfl (by kernel_rfl) (by kernel_rfl) (by kernel_rfl) (fun _ _ _ h => by cases h.1) (.inl ⟨by rfl,?_⟩) (by assumption) ?_
  rotate_left
  · (intro w' hSw; (try dsimp only at hSw); skip; go_simp <;> with_reducible rfl)
  (try simp only [Act.put,aT,aZ,aS])
  refine wpAnyH_take (i := 22) (v := ?_) rfl (by kernel_rfl) (by kernel_rfl) (by kernel_rfl) (fun _ _ _ h => by cases h.1) (.inl ⟨by rfl,?_⟩) (by assumption) ?_
  rotate_left
  · (intro w' hSw; (try dsimp only at hSw); skip; go_simp <;> with_reducible rfl)
  (try simp only [Act.put,aT,aZ,aS])
  refine wpAnyH_ready (rs := [17]) (by kernel_rfl) (by simp) ?_
  refine AllReadyH.cons rfl (fun K hK => ?_) ?_
  · go_simp
    go_at_call 32
    refine (to_any _ _ _).mono ?_
    rintro e' wX ⟨rfl,hbX⟩
    have hBW_ := hBW.trans (hbX.mono hBW.size)
    clear hBW
    have hBW := hBW_
    have hS_ := hS.next hbX
    clear hBW_ hbX hS
    have hS := hS_
    clear hS_
    go_wp2_with fail
    refine hK.out _ _ hS (fun _ => ?_)
    clear hK K
    (try simp only [Act.put,aT,aZ,aS])
    refine wpAnyH_ready (rs := [23]) (by kernel_rfl) (by simp) ?_
    refine AllReadyH.cons rfl (fun K hK => ?_) ?_
    · go_simp
      go_at_call 33
      have hcall := HND.out (strk G t 1) (tips + 1) (roots) _ (tn_tip HTN.out HX.out.1) (tg_next HIN.out HU.out HTI.out) (by omega) hS.nw.rg
      push_cast at hcall
      rw [HE.out.1,HE.out.2] at hcall
      refine hcall.mono ?_
      rintro e' wY ⟨rfl,hbX⟩
      clear hcall
      have hBW_ := hBW.trans (hbX.mono hBW.size)
      clear hBW
      have hBW := hBW_
      have hS_ := hS.next hbX
      clear hBW_ hbX hS
      have hS := hS_
      clear hS_
      obtain ⟨cv,hcv⟩ : ∃ x,x = capk k (gT G (strk G t 1)) := ⟨_,rfl⟩
      rw [← hcv]
      have HCV := hidMk hcv
      have hcb : 0 ≤ cv ∧ cv ≤ 20 := by rw [hcv]; exact ⟨cap_nn _ (gT_nn _ _),by have := cap_top k (gT G (strk G t 1)); omega⟩
      have w6 : IntKind.i64.wrap (1 + cv) = 1 + cv := IntWalk.i64_in _ (by omega)
      clear hcv
      go_wp2_with fail
      refine hK.out _ _ hS (fun _ => ?_)
      clear hK K
      (try simp only [Act.put,aT,aZ,aS])
      refine wpAnyH_take (i := 24) (v := ?_) rfl (by kernel_rfl) (by kernel_rfl) (by kernel_rfl) (fun _ _ _ h => by cases h.1) (.inl ⟨by rfl,?_⟩) (by assumption) ?_
      rotate_left
      · (intro w' hSw; (try dsimp only at hSw); skip; go_simp <;> with_reducible rfl)
      (try simp only [Act.put,aT,aZ,aS])
      refine wpAnyH_take (i := 25) (v := ?_) rfl (by kernel_rfl) (by kernel_rfl) (by kernel_rfl) (fun _ _ _ h => by cases h.1) (.inl ⟨by rfl,?_⟩) (by assumption) ?_
      rotate_left
      · (intro w' hSw; (try dsimp only at hSw); skip; go_simp <;> with_reducible rfl)
      (try simp only [Act.put,aT,aZ,aS])
      refine wpAnyH_take (i := 26) (v := ?_) rfl (by kernel_rfl) (by kernel_rfl) (by kernel_rfl) (fun _ _ _ h => by cases h.1) (.inl ⟨by rfl,?_⟩) (by assumption) ?_
      rotate_left
      · (intro w' hSw; (try dsimp only at hSw); skip; go_simp <;> with_reducible rfl)
      (try simp only [Act.put,aT,aZ,aS])
      refine wpAnyH_done (by kernel_rfl) ?_ _
      exact ⟨rfl,_,_,_,_,_,_,_,_,_,_,_,_,_,_,_,_,_,_,_,_,_,_,_,_,_,_,by rw [← HCV.out]; rfl,hS⟩
    exact AllReadyH.nil
  exact AllReadyH.nil
set_option maxHeartbeats 9000000 in
set_option maxRecDepth 1000000 in
theorem nr12 {w0 : World} {g6 g7 g8 g15 : Nat} {G : Jb} {sa : Option Addr} {sn sc : Nat} {W : R2} {p1 p2 : Int} {tips roots k : Nat} {t : Tg} {b0 : Int} {Q : Exit → Act → World → Prop} {w : World} {u0 u1 u2 u9 A0 A1 A2 A3 A4 A7 A8 A9 Aa Ab Ac Ad Ae Af Ag Ah Ai Aj Ak Al Am An Ao Ap Aq Ar As At Au Av Aw Ax Ay Az C0 C1 C2 C3 C4 C5 C6 C7 C8 C9 Ca Cb Cc Cd Ce Cf Cg Ch Ci Cj Ck Cl Cm Cn Co Cp Cq Cr Cs Ct Cu Cv Cw Cx Cy Cz D0 D1 D2 D3 D4 D5 D6 D7 D8 D9 Da Db Dc Dd De Df Dg Dh Di Dj Dk Dl Dm Dn Do Dp Dq Dr Ds Dt Du Dv Dw Dx Dy Dz E0 E1 E2 E3 E4 E5 E6 E7 E8 E9 Ea Eb Ec Ed Ee Ef Eg Eh Ei Ej Ek El Em En Eo Ep Eq Er Es Et Eu Ev Ew Ex Ey Ez F0 F1 F2 F3 F4 F5 F6 F7 F8 F9 Fa Fb Fc Fd Fe Ff Fg Fh Fi Fj Fk Fl Fm Fn Fo : Value} (hnd : NDc G sa sn sc W k) (hin : G.In 1000) (hu : G.u1 ≤ G.u2 ∧ G.d1 ≤ G.d2) (hx : G.x1 ≤ G.x2 ∧ G.y1 ≤ G.y2) (hs : NX5 w0 w g6 g7 g8 g15 G sa sn sc W p1 p2 t) (htn : TNx G tips roots t) (hti : TgIn (k + 1) t) (hk : tips + roots + (k + 1) ≤ 10) (hb0 : -1000 ≤ b0 ∧ b0 ≤ 1000) (hK : ∀ (w' : World),NX5 w0 w' g6 g7 g8 g15 G sa sn sc W p1 p2 t → ∀ (v145 v146 v147 v148 v149 v150 v151 v152 v153 v154 v155 v156 v157 v158 v159 v160 v161 v162 v163 v164 v165 v166 v167 v168 v169 v170 : Value),Q .normal ⟨#[u0,u1,u2,(.int .i64 ↑tips),(.int .i64 ↑roots),(.int .i64 (↑k + 1)),(.pointer (some ⟨g6,0,none⟩)),(.pointer (some ⟨g7,0,none⟩)),(.pointer (some ⟨g8,0,none⟩)),u9,A0,A1,A2,A3,A4,(.pointer (some ⟨g15,0,none⟩)),(.int .i64 (mn b0 (1 + capk k (gT G (strk G t 2))))),A7,A8,A9,Aa,Ab,Ac,Ad,Ae,Af,Ag,Ah,Ai,Aj,Ak,Al,Am,An,Ao,Ap,Aq,Ar,As,At,Au,Av,Aw,Ax,Ay,Az,C0,C1,C2,C3,C4,C5,C6,C7,C8,C9,Ca,Cb,Cc,Cd,Ce,Cf,Cg,Ch,Ci,Cj,Ck,Cl,Cm,Cn,Co,Cp,Cq,Cr,Cs,Ct,Cu,Cv,Cw,Cx,Cy,Cz,D0,D1,D2,D3,D4,D5,D6,D7,D8,D9,Da,Db,Dc,Dd,De,Df,Dg,Dh,Di,Dj,Dk,Dl,Dm,Dn,Do,Dp,Dq,Dr,Ds,Dt,Du,Dv,Dw,Dx,Dy,Dz,E0,E1,E2,E3,E4,E5,E6,E7,E8,E9,Ea,Eb,Ec,Ed,Ee,Ef,Eg,Eh,Ei,Ej,Ek,El,Em,En,Eo,Ep,Eq,v145,v146,v147,v148,v149,v150,v151,v152,v153,v154,v155,v156,v157,v158,v159,v160,v161,v162,v163,v164,v165,v166,v167,v168,v169,v170,Fh,Fi,Fj,Fk,Fl,Fm,Fn,Fo],[]⟩ w') : Code.wp Try.prog (Code.region 12 #[⟨some 145,.move (.tmp 16),3,"outright.go:307",#[],none⟩,⟨some 146,.load 30 (.tmp 6),30,"outright.go:307",#[],none⟩,⟨some 147,.load 23 (.tmp 7),23,"outright.go:307",#[],none⟩,⟨some 148,.fieldAddr 23 (.tmp 15) 0,0,"outright.go:307",#[],none⟩,⟨some 149,.load 3 (.tmp 148),3,"outright.go:307",#[⟨3,.data⟩],none⟩,⟨some 150,.fieldAddr 30 (.tmp 6) 1,0,"outright.go:307",#[],none⟩,⟨some 151,.fieldAddr 27 (.tmp 150) 1,0,"outright.go:307",#[⟨5,.data⟩],none⟩,⟨some 152,.fieldAddr 23 (.tmp 151) 1,0,"outright.go:307",#[⟨6,.data⟩],none⟩,⟨some 153,.load 3 (.tmp 152),3,"outright.go:307",#[⟨7,.data⟩],none⟩,⟨some 154,.binOp .sub 3 (.tmp 149) (.tmp 153) 3,3,"outright.go:307",#[⟨4,.data⟩,⟨8,.data⟩],none⟩,⟨some 155,.fieldAddr 23 (.tmp 15) 1,0,"outright.go:307",#[],none⟩,⟨some 156,.load 3 (.tmp 155),3,"outright.go:307",#[⟨10,.data⟩],none⟩,⟨some 157,.fieldAddr 30 (.tmp 6) 1,0,"outright.go:307",#[],none⟩,⟨some 158,.fieldAddr 27 (.tmp 157) 1,0,"outright.go:307",#[⟨12,.data⟩],none⟩,⟨some 159,.fieldAddr 23 (.tmp 158) 0,0,"outright.go:307",#[⟨13,.data⟩],none⟩,⟨some 160,.load 3 (.tmp 159),3,"outright.go:307",#[⟨14,.data⟩],none⟩,⟨some 161,.binOp .sub 3 (.tmp 156) (.tmp 160) 3,3,"outright.go:307",#[⟨11,.data⟩,⟨15,.data⟩],none⟩,⟨some 162,.call { callee := .value (.func 32),args := #[.tmp 154,.tmp 161],argTypes := #[3,3] },23,"outright.go:307",#[⟨9,.data⟩,⟨16,.data⟩],none⟩,⟨some 163,.move (.tmp 3),3,"outright.go:307",#[],none⟩,⟨some 164,.move (.tmp 4),3,"outright.go:307",#[],none⟩,⟨some 165,.binOp .add 3 (.tmp 164) (.const (.int .i64 1)) 3,3,"outright.go:307",#[⟨19,.data⟩],none⟩,⟨some 166,.move (.tmp 5),3,"outright.go:307",#[],none⟩,⟨some 167,.binOp .sub 3 (.tmp 166) (.const (.int .i64 1)) 3,3,"outright.go:307",#[⟨21,.data⟩],none⟩,⟨some 168,.call { callee := .value (.func 33),args := #[.tmp 146,.tmp 147,.tmp 162,.tmp 163,.tmp 165,.tmp 167],argTypes := #[30,23,23,3,3,3] },3,"outright.go:307",#[⟨1,.data⟩,⟨2,.data⟩,⟨17,.data⟩,⟨18,.data⟩,⟨20,.data⟩,⟨22,.data⟩,⟨17,.chain⟩],none⟩,⟨some 169,.binOp .add 3 (.const (.int .i64 1)) (.tmp 168) 3,3,"outright.go:307",#[⟨23,.data⟩],none⟩,⟨some 170,.call { callee := .builtin .min,args := #[.tmp 145,.tmp 169],argTypes := #[3,3] },3,"outright.go:307",#[⟨0,.data⟩,⟨24,.data⟩],none⟩,⟨some 16,.assign (.tmp 170),3,"outright.go:307",#[⟨25,.data⟩,⟨23,.chain⟩,⟨0,.phase⟩,⟨1,.phase⟩,⟨2,.phase⟩,⟨3,.phase⟩,⟨4,.phase⟩,⟨5,.phase⟩,⟨6,.phase⟩,⟨7,.phase⟩,⟨8,.phase⟩,⟨9,.phase⟩,⟨10,.phase⟩,⟨11,.phase⟩,⟨12,.phase⟩,⟨13,.phase⟩,⟨14,.phase⟩,⟨15,.phase⟩,⟨16,.phase⟩,⟨17,.phase⟩,⟨18,.phase⟩,⟨19,.phase⟩,⟨20,.phase⟩,⟨21,.phase⟩,⟨22,.phase⟩,⟨23,.phase⟩,⟨24,.phase⟩,⟨25,.phase⟩],none⟩] true) Q ⟨#[u0,u1,u2,(.int .i64 ↑tips),(.int .i64 ↑roots),(.int .i64 (↑k + 1)),(.pointer (some ⟨g6,0,none⟩)),(.pointer (some ⟨g7,0,none⟩)),(.pointer (some ⟨g8,0,none⟩)),u9,A0,A1,A2,A3,A4,(.pointer (some ⟨g15,0,none⟩)),(.int .i64 b0),A7,A8,A9,Aa,Ab,Ac,Ad,Ae,Af,Ag,Ah,Ai,Aj,Ak,Al,Am,An,Ao,Ap,Aq,Ar,As,At,Au,Av,Aw,Ax,Ay,Az,C0,C1,C2,C3,C4,C5,C6,C7,C8,C9,Ca,Cb,Cc,Cd,Ce,Cf,Cg,Ch,Ci,Cj,Ck,Cl,Cm,Cn,Co,Cp,Cq,Cr,Cs,Ct,Cu,Cv,Cw,Cx,Cy,Cz,D0,D1,D2,D3,D4,D5,D6,D7,D8,D9,Da,Db,Dc,Dd,De,Df,Dg,Dh,Di,Dj,Dk,Dl,Dm,Dn,Do,Dp,Dq,Dr,Ds,Dt,Du,Dv,Dw,Dx,Dy,Dz,E0,E1,E2,E3,E4,E5,E6,E7,E8,E9,Ea,Eb,Ec,Ed,Ee,Ef,Eg,Eh,Ei,Ej,Ek,El,Em,En,Eo,Ep,Eq,Er,Es,Et,Eu,Ev,Ew,Ex,Ey,Ez,F0,F1,F2,F3,F4,F5,F6,F7,F8,F9,Fa,Fb,Fc,Fd,Fe,Ff,Fg,Fh,Fi,Fj,Fk,Fl,Fm,Fn,Fo],[]⟩ w := by
  have HND := hidMk hnd
  have HIN := hidMk hin
  have HU := hidMk hu
  have HX := hidMk hx
  have HTN := hidMk htn
  have HTI := hidMk hti
  have hpp : -148 ≤ t.p1 ∧ t.p1 ≤ 148 ∧ -148 ≤ t.p2 ∧ t.p2 ≤ 148 := by have h := hti.1; simp only [Tg.In] at h; omega
  have hq1 := hin.d2
  have hq2 := hin.d1
  have e1 : (strk G t 2).p1 = t.p1 - G.d2 := rfl
  have e2 : (strk G t 2).p2 = t.p2 - G.d1 := rfl
  have w1 : IntKind.i64.wrap (t.p1 - G.d2) = t.p1 - G.d2 := IntWalk.i64_in _ (by omega)
  have w2 : IntKind.i64.wrap (t.p2 - G.d1) = t.p2 - G.d1 := IntWalk.i64_in _ (by omega)
  have w3 : IntKind.i64.wrap ((tips : Int) + 1) = (tips : Int) + 1 := IntWalk.i64_in _ (by omega)
  have w4 : IntKind.i64.wrap ((roots : Int) + 1) = (roots : Int) + 1 := IntWalk.i64_in _ (by omega)
  have w5 : IntKind.i64.wrap (k : Int) = (k : Int) := IntWalk.i64_in _ (by omega)
  have HE := hidMk (And.intro e1 e2)
  clear e1 e2
  clear hnd hin hu hx htn hti
  refine region_via (R := fun a_ e_ a' w' => e_ = .normal ∧ ∃ (v145 v146 v147 v148 v149 v150 v151 v152 v153 v154 v155 v156 v157 v158 v159 v160 v161 v162 v163 v164 v165 v166 v167 v168 v169 v170 : Value),a' = (((((((((((((((((((((((((((a_.put (some 145) v145).put (some 146) v146).put (some 147) v147).put (some 148) v148).put (some 149) v149).put (some 150) v150).put (some 151) v151).put (some 152) v152).put (some 153) v153).put (some 154) v154).put (some 155) v155).put (some 156) v156).put (some 157) v157).put (some 158) v158).put (some 159) v159).put (some 160) v160).put (some 161) v161).put (some 162) v162).put (some 163) v163).put (some 164) v164).put (some 165) v165).put (some 166) v166).put (some 167) v167).put (some 168) v168).put (some 169) v169).put (some 170) v170).put (some 16) (.int .i64 (mn b0 (1 + capk k (gT G (strk G t 2)))))) ∧ NX5 w0 w' g6 g7 g8 g15 G sa sn sc W p1 p2 t) ?_ ?_
  rotate_left
  · rintro e_ a' w' ⟨rfl,v145,v146,v147,v148,v149,v150,v151,v152,v153,v154,v155,v156,v157,v158,v159,v160,v161,v162,v163,v164,v165,v166,v167,v168,v169,v170,rfl,hs'⟩
    simp only [Act.put,aT,aZ,aS]
    exact hK _ hs' _ _ _ _ _ _ _ _ _ _ _ _ _ _ _ _ _ _ _ _ _ _ _ _ _ _ 
  have hS : NX5 w0 w.drew g6 g7 g8 g15 G sa sn sc W p1 p2 t := hs.next (Below.refl _ _).drew
  have hBW : Below w.heap.size w w.drew := (Below.refl _ _).drew
  clear hs
  refine wp_region_held_drew (S := fun w' => NX5 w0 w' g6 g7 g8 g15 G sa sn sc W p1 p2 t) (by kernel_rfl) hS (fun hS0 => ?_)
  generalize hWd : w.drew = wd at hS0 hS hBW ⊢
  clear hWd
  refine wpAnyH_take (i := 0) (v := ?_) rfl (by kernel_rfl) (by kernel_rfl) (by kernel_rfl) (fun _ _ _ h => by cases h.1) (.inl ⟨by rfl,?_⟩) (by assumption) ?_
  rotate_left
  · (intro w' hSw; (try dsimp only at hSw); skip; go_simp <;> with_reducible rfl)
  (try simp only [Act.put,aT,aZ,aS])
  refine wpAnyH_take (i := 1) rfl (by kernel_rfl) (by kernel_rfl) (by kernel_rfl) (fun _ _ _ h => by cases h.1) (yields_row (by rfl) 30 _ rfl g6 (jobC G (.slice sa sn sc)) rfl 30 (fun w' hw => hw.nw.job) Try.underlying30 szJob) (by assumption) ?_
  (try simp only [Act.put,aT,aZ,aS])
  refine wpAnyH_take (i := 2) (v := ?_) rfl (by kernel_rfl) (by kernel_rfl) (by kernel_rfl) (fun _ _ _ h => by cases h.1) (.inl ⟨by rfl,?_⟩) (by assumption) ?_
  rotate_left
  · (intro w' hSw; (try dsimp only at hSw); (have q0 := hSw.x5.at_ 0 (.int .i64 t.p1) rfl; have q1 := hSw.x5.at_ 1 (.int .i64 t.p2) rfl; have q2 := hSw.nw.job.at_ 9 (.int .i64 G.d2) rfl; have q3 := hSw.nw.job.at_ 8 (.int .i64 G.d1) rfl; have q4 := hSw.nw.wd.at_ 0 (.int .i64 W.1) rfl; have q5 := hSw.nw.wd.at_ 1 (.int .i64 W.2) rfl); go_simp <;> with_reducible rfl)
  (try simp only [Act.put,aT,aZ,aS])
  refine wpAnyH_take (i := 3) (v := ?_) rfl (by kernel_rfl) (by kernel_rfl) (by kernel_rfl) (fun _ _ _ h => by cases h.1) (.inl ⟨by rfl,?_⟩) (by assumption) ?_
  rotate_left
  · (intro w' hSw; (try dsimp only at hSw); skip; go_simp <;> with_reducible rfl)
  (try simp only [Act.put,aT,aZ,aS])
  refine wpAnyH_take (i := 4) (v := ?_) rfl (by kernel_rfl) (by kernel_rfl) (by kernel_rfl) (fun _ _ _ h => by cases h.1) (.inl ⟨by rfl,?_⟩) (by assumption) ?_
  rotate_left
  · (intro w' hSw; (try dsimp only at hSw); (have q0 := hSw.x5.at_ 0 (.int .i64 t.p1) rfl; have q1 := hSw.x5.at_ 1 (.int .i64 t.p2) rfl; have q2 := hSw.nw.job.at_ 9 (.int .i64 G.d2) rfl; have q3 := hSw.nw.job.at_ 8 (.int .i64 G.d1) rfl; have q4 := hSw.nw.wd.at_ 0 (.int .i64 W.1) rfl; have q5 := hSw.nw.wd.at_ 1 (.int .i64 W.2) rfl); go_simp <;> with_reducible rfl)
  (try simp only [Act.put,aT,aZ,aS])
  refine wpAnyH_take (i := 5) (v := ?_) rfl (by kernel_rfl) (by kernel_rfl) (by kernel_rfl) (fun _ _ _ h => by cases h.1) (.inl ⟨by rfl,?_⟩) (by assumption) ?_
  rotate_left
  · (intro w' hSw; (try dsimp only at hSw); skip; go_simp <;> with_reducible rfl)
  (try simp only [Act.put,aT,aZ,aS])
  refine wpAnyH_take (i := 6) (v := ?_) rfl (by kernel_rfl) (by kernel_rfl) (by kernel_rfl) (fun _ _ _ h => by cases h.1) (.inl ⟨by rfl,?_⟩) (by assumption) ?_
  rotate_left
  · (intro w' hSw; (try dsimp only at hSw); skip; go_simp <;> with_reducible rfl)
  (try simp only [Act.put,aT,aZ,aS])
  refine wpAnyH_take (i := 7) (v := ?_) rfl (by kernel_rfl) (by kernel_rfl) (by kernel_rfl) (fun _ _ _ h => by cases h.1) (.inl ⟨by rfl,?_⟩) (by assumption) ?_
  rotate_left
  · (intro w' hSw; (try dsimp only at hSw); skip; go_simp <;> with_reducible rfl)
  (try simp only [Act.put,aT,aZ,aS])
  refine wpAnyH_take (i := 8) (v := ?_) rfl (by kernel_rfl) (by kernel_rfl) (by kernel_rfl) (fun _ _ _ h => by cases h.1) (.inl ⟨by rfl,?_⟩) (by assumption) ?_
  rotate_left
  · (intro w' hSw; (try dsimp only at hSw); (have q0 := hSw.x5.at_ 0 (.int .i64 t.p1) rfl; have q1 := hSw.x5.at_ 1 (.int .i64 t.p2) rfl; have q2 := hSw.nw.job.at_ 9 (.int .i64 G.d2) rfl; have q3 := hSw.nw.job.at_ 8 (.int .i64 G.d1) rfl; have q4 := hSw.nw.wd.at_ 0 (.int .i64 W.1) rfl; have q5 := hSw.nw.wd.at_ 1 (.int .i64 W.2) rfl); go_simp <;> with_reducible rfl)
  (try simp only [Act.put,aT,aZ,aS])
  refine wpAnyH_take (i := 9) (v := ?_) rfl (by kernel_rfl) (by kernel_rfl) (by kernel_rfl) (fun _ _ _ h => by cases h.1) (.inl ⟨by rfl,?_⟩) (by assumption) ?_
  rotate_left
  · (intro w' hSw; (try dsimp only at hSw); skip; go_simp <;> with_reducible rfl)
  (try simp only [Act.put,aT,aZ,aS])
  refine wpAnyH_take (i := 10) (v := ?_) rfl (by kernel_rfl) (by kernel_rfl) (by kernel_rfl) (fun _ _ _ h => by cases h.1) (.inl ⟨by rfl,?_⟩) (by assumption) ?_
  rotate_left
  · (intro w' hSw; (try dsimp only at hSw); skip; go_simp <;> with_reducible rfl)
  (try simp only [Act.put,aT,aZ,aS])
  refine wpAnyH_take (i := 11) (v := ?_) rfl (by kernel_rfl) (by kernel_rfl) (by kernel_rfl) (fun _ _ _ h => by cases h.1) (.inl ⟨by rfl,?_⟩) (by assumption) ?_
  rotate_left
  · (intro w' hSw; (try dsimp only at hSw); (have q0 := hSw.x5.at_ 0 (.int .i64 t.p1) rfl; have q1 := hSw.x5.at_ 1 (.int .i64 t.p2) rfl; have q2 := hSw.nw.job.at_ 9 (.int .i64 G.d2) rfl; have q3 := hSw.nw.job.at_ 8 (.int .i64 G.d1) rfl; have q4 := hSw.nw.wd.at_ 0 (.int .i64 W.1) rfl; have q5 := hSw.nw.wd.at_ 1 (.int .i64 W.2) rfl); go_simp <;> with_reducible rfl)
  (try simp only [Act.put,aT,aZ,aS])
  refine wpAnyH_take (i := 12) (v := ?_) rfl (by kernel_rfl) (by kernel_rfl) (by kernel_rfl) (fun _ _ _ h => by cases h.1) (.inl ⟨by rfl,?_⟩) (by assumption) ?_
  rotate_left
  · (intro w' hSw; (try dsimp only at hSw); skip; go_simp <;> with_reducible rfl)
  (try simp only [Act.put,aT,aZ,aS])
  refine wpAnyH_take (i := 13) (v := ?_) rfl (by kernel_rfl) (by kernel_rfl) (by kernel_rfl) (fun _ _ _ h => by cases h.1) (.inl ⟨by rfl,?_⟩) (by assumption) ?_
  rotate_left
  · (intro w' hSw; (try dsimp only at hSw); skip; go_simp <;> with_reducible rfl)
  (try simp only [Act.put,aT,aZ,aS])
  refine wpAnyH_take (i := 14) (v := ?_) rfl (by kernel_rfl) (by kernel_rfl) (by kernel_rfl) (fun _ _ _ h => by cases h.1) (.inl ⟨by rfl,?_⟩) (by assumption) ?_
  rotate_left
  · (intro w' hSw; (try dsimp only at hSw); skip; go_simp <;> with_reducible rfl)
  (try simp only [Act.put,aT,aZ,aS])
  refine wpAnyH_take (i := 15) (v := ?_) rfl (by kernel_rfl) (by kernel_rfl) (by kernel_rfl) (fun _ _ _ h => by cases h.1) (.inl ⟨by rfl,?_⟩) (by assumption) ?_
  rotate_left
  · (intro w' hSw; (try dsimp only at hSw); (have q0 := hSw.x5.at_ 0 (.int .i64 t.p1) rfl; have q1 := hSw.x5.at_ 1 (.int .i64 t.p2) rfl; have q2 := hSw.nw.job.at_ 9 (.int .i64 G.d2) rfl; have q3 := hSw.nw.job.at_ 8 (.int .i64 G.d1) rfl; have q4 := hSw.nw.wd.at_ 0 (.int .i64 W.1) rfl; have q5 := hSw.nw.wd.at_ 1 (.int .i64 W.2) rfl); go_simp <;> with_reducible rfl)
  (try simp only [Act.put,aT,aZ,aS])
  refine wpAnyH_take (i := 16) (v := ?_) rfl (by kernel_rfl) (by kernel_rfl) (by kernel_rfl) (fun _ _ _ h => by cases h.1) (.inl ⟨by rfl,?_⟩) (by assumption) ?_
  rotate_left
  · (intro w' hSw; (try dsimp only at hSw); skip; go_simp <;> with_reducible rfl)
  (try simp only [Act.put,aT,aZ,aS])
  refine wpAnyH_take (i := 18) (v := ?_) rfl (by kernel_rfl) (by kernel_rfl) (by kernel_rfl) (fun _ _ _ h => by cases h.1) (.inl ⟨by rfl,?_⟩) (by assumption) ?_
  rotate_left
  · (intro w' hSw; (try dsimp only at hSw); skip; go_simp <;> with_reducible rfl)
  (try simp only [Act.put,aT,aZ,aS])
  refine wpAnyH_take (i := 19) (v := ?_) rfl (by kernel_rfl) (by kernel_rfl) (by kernel_rfl) (fun _ _ _ h => by cases h.1) (.inl ⟨by rfl,?_⟩) (by assumption) ?_
  rotate_left
  · (intro w' hSw; (try dsimp only at hSw); skip; go_simp <;> with_reducible rfl)
  (try simp only [Act.put,aT,aZ,aS])
  refine wpAnyH_take (i := 20) (v := ?_) rfl (by kernel_rfl) (by kernel_rfl) (by kernel_rfl) (fun _ _ _ h => by cases h.1) (.inl ⟨by rfl,?_⟩) (by assumption) ?_
  rotate_left
  · (intro w' hSw; (try dsimp only at hSw); skip; go_simp <;> with_reducible rfl)
  (try simp only [Act.put,aT,aZ,aS])
  refine wpAnyH_take (i := 21) (v := ?_) rfl (by kernel_rfl) (by kernel_rfl) (by kernel_rfl) (fun _ _ _ h => by cases h.1) (.inl ⟨by rfl,?_⟩) (by assumption) ?_
  rotate_left
  · (intro w' hSw; (try dsimp only at hSw); skip; go_simp <;> with_reducible rfl)
  (try simp only [Act.put,aT,aZ,aS])
  refine wpAnyH_take (i := 22) (v := ?_) rfl (by kernel_rfl) (by kernel_rfl) (by kernel_rfl) (fun _ _ _ h => by cases h.1) (.inl ⟨by rfl,?_⟩) (by assumption) ?_
  rotate_left
  · (intro w' hSw; (try dsimp only at hSw); skip; go_simp <;> with_reducible rfl)
  (try simp only [Act.put,aT,aZ,aS])
  refine wpAnyH_ready (rs := [17]) (by kernel_rfl) (by simp) ?_
  refine AllReadyH.cons rfl (fun K hK => ?_) ?_
  · go_simp
    go_at_call 32
    refine (to_any _ _ _).mono ?_
    rintro e' wX ⟨rfl,hbX⟩
    have hBW_ := hBW.trans (hbX.mono hBW.size)
    clear hBW
    have hBW := hBW_
    have hS_ := hS.next hbX
    clear hBW_ hbX hS
    have hS := hS_
    clear hS_
    go_wp2_with fail
    refine hK.out _ _ hS (fun _ => ?_)
    clear hK K
    (try simp only [Act.put,aT,aZ,aS])
    refine wpAnyH_ready (rs := [23]) (by kernel_rfl) (by simp) ?_
    refine AllReadyH.cons rfl (fun K hK => ?_) ?_
    · go_simp
      go_at_call 33
      have hcall := HND.out (strk G t 2) (tips) (roots + 1) _ (tn_root HTN.out HX.out.2) (tg_next HIN.out HU.out HTI.out) (by omega) hS.nw.rg
      push_cast at hcall
      rw [HE.out.1,HE.out.2] at hcall
      refine hcall.mono ?_
      rintro e' wY ⟨rfl,hbX⟩
      clear hcall
      have hBW_ := hBW.trans (hbX.mono hBW.size)
      clear hBW
      have hBW := hBW_
      have hS_ := hS.next hbX
      clear hBW_ hbX hS
      have hS := hS_
      clear hS_
      obtain ⟨cv,hcv⟩ : ∃ x,x = capk k (gT G (strk G t 2)) := ⟨_,rfl⟩
      rw [← hcv]
      have HCV := hidMk hcv
      have hcb : 0 ≤ cv ∧ cv ≤ 20 := by rw [hcv]; exact ⟨cap_nn _ (gT_nn _ _),by have := cap_top k (gT G (strk G t 2)); omega⟩
      have w6 : IntKind.i64.wrap (1 + cv) = 1 + cv := IntWalk.i64_in _ (by omega)
      clear hcv
      go_wp2_with fail
      refine hK.out _ _ hS (fun _ => ?_)
      clear hK K
      (try simp only [Act.put,aT,aZ,aS])
      refine wpAnyH_take (i := 24) (v := ?_) rfl (by kernel_rfl) (by kernel_rfl) (by kernel_rfl) (fun _ _ _ h => by cases h.1) (.inl ⟨by rfl,?_⟩) (by assumption) ?_
      rotate_left
      · (intro w' hSw; (try dsimp only at hSw); skip; go_simp <;> with_reducible rfl)
      (try simp only [Act.put,aT,aZ,aS])
      refine wpAnyH_take (i := 25) (v := ?_) rfl (by kernel_rfl) (by kernel_rfl) (by kernel_rfl) (fun _ _ _ h => by cases h.1) (.inl ⟨by rfl,?_⟩) (by assumption) ?_
      rotate_left
      · (intro w' hSw; (try dsimp only at hSw); skip; go_simp <;> with_reducible rfl)
      (try simp only [Act.put,aT,aZ,aS])
      refine wpAnyH_take (i := 26) (v := ?_) rfl (by kernel_rfl) (by kernel_rfl) (by kernel_rfl) (fun _ _ _ h => by cases h.1) (.inl ⟨by rfl,?_⟩) (by assumption) ?_
      rotate_left
      · (intro w' hSw; (try dsimp only at hSw); skip; go_simp <;> with_reducible rfl)
      (try simp only [Act.put,aT,aZ,aS])
      refine wpAnyH_done (by kernel_rfl) ?_ _
      exact ⟨rfl,_,_,_,_,_,_,_,_,_,_,_,_,_,_,_,_,_,_,_,_,_,_,_,_,_,_,by rw [← HCV.out]; rfl,hS⟩
    exact AllReadyH.nil
  exact AllReadyH.nil
end Go.Proofs.Ytadmcafbffjjbaa
