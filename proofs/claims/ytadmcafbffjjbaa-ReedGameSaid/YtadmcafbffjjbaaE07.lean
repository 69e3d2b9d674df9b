/- Part 7 of the proof: GnB. -/
import Derived.Deep.WholeRow
import Derived.OwnWalk
import Derived.Test.YtadmcafbffjjbaaE06
namespace Go.Proofs.Ytadmcafbffjjbaa
set_option linter.all false
open Go.RowKit
structure NW (w0 w : World) (g6 g7 g8 : Nat) (G : Jb) (sa : Option Addr) (sn sc : Nat) (W : R2) (p1 p2 : Int) : Prop where
  b0 : Below w0.heap.size w0 w
  job : Bk w g6 30 (jobC G (.slice sa sn sc))
  wd : Bk w g7 23 #[.int .i64 W.1,.int .i64 W.2]
  x : Bk w g8 23 #[.int .i64 p1,.int .i64 p2]
  rg : Rg w w.heap.size sa G.sh
theorem NW.next {w0 w w' : World} {g6 g7 g8 : Nat} {G : Jb} {sa : Option Addr} {sn sc : Nat} {W : R2} {p1 p2 : Int} (h : NW w0 w g6 g7 g8 G sa sn sc W p1 p2) (hb : Below w.heap.size w w') : NW w0 w' g6 g7 g8 G sa sn sc W p1 p2 :=
  ⟨h.b0.trans (hb.mono h.b0.size),h.job.below hb h.job.lt,h.wd.below hb h.wd.lt,h.x.below hb h.x.lt,h.rg.up hb⟩
set_option maxRecDepth 1000000 in
def nr9 : Array Oper := #[⟨some 53,.fieldAddr 30 (.tmp 6) 0,0,"outright.go:303",#[],none⟩,⟨some 54,.fieldAddr 25 (.tmp 53) 1,0,"outright.go:303",#[⟨0,.data⟩],none⟩,⟨some 55,.fieldAddr 23 (.tmp 54) 0,0,"outright.go:303",#[⟨1,.data⟩],none⟩,⟨some 56,.load 3 (.tmp 55),3,"outright.go:303",#[⟨2,.data⟩],none⟩,⟨some 57,.move (.tmp 3),3,"outright.go:303",#[],none⟩,⟨some 58,.binOp .add 3 (.tmp 57) (.const (.int .i64 1)) 3,3,"outright.go:303",#[⟨4,.data⟩],none⟩,⟨some 59,.fieldAddr 30 (.tmp 6) 1,0,"outright.go:303",#[],none⟩,⟨some 60,.fieldAddr 27 (.tmp 59) 2,0,"outright.go:303",#[⟨6,.data⟩],none⟩,⟨some 61,.fieldAddr 23 (.tmp 60) 1,0,"outright.go:303",#[⟨7,.data⟩],none⟩,⟨some 62,.load 3 (.tmp 61),3,"outright.go:303",#[⟨8,.data⟩],none⟩,⟨some 63,.binOp .mul 3 (.tmp 58) (.tmp 62) 3,3,"outright.go:303",#[⟨5,.data⟩,⟨9,.data⟩],none⟩,⟨some 64,.binOp .sub 3 (.tmp 56) (.tmp 63) 3,3,"outright.go:303",#[⟨3,.data⟩,⟨10,.data⟩],none⟩,⟨some 65,.fieldAddr 30 (.tmp 6) 1,0,"outright.go:303",#[],none⟩,⟨some 66,.fieldAddr 27 (.tmp 65) 4,0,"outright.go:303",#[⟨12,.data⟩],none⟩,⟨some 67,.load 3 (.tmp 66),3,"outright.go:303",#[⟨13,.data⟩],none⟩,⟨some 68,.binOp .geq 3 (.tmp 64) (.tmp 67) 3,4,"outright.go:303",#[⟨11,.data⟩,⟨14,.data⟩],none⟩,⟨some 69,.move (.tmp 68),4,"outright.go:303",#[⟨15,.data⟩],none⟩,⟨some 70,.fieldAddr 30 (.tmp 6) 0,0,"outright.go:303",#[⟨16,.guard⟩],some (16,true)⟩,⟨some 71,.fieldAddr 25 (.tmp 70) 2,0,"outright.go:303",#[⟨17,.data⟩,⟨16,.guard⟩],some (16,true)⟩,⟨some 72,.fieldAddr 23 (.tmp 71) 0,0,"outright.go:303",#[⟨18,.data⟩,⟨16,.guard⟩],some (16,true)⟩,⟨some 73,.load 3 (.tmp 72),3,"outright.go:303",#[⟨19,.data⟩,⟨16,.guard⟩],some (16,true)⟩,⟨some 74,.move (.tmp 4),3,"outright.go:303",#[⟨16,.guard⟩],some (16,true)⟩,⟨some 75,.fieldAddr 30 (.tmp 6) 1,0,"outright.go:303",#[⟨16,.guard⟩],some (16,true)⟩,⟨some 76,.fieldAddr 27 (.tmp 75) 3,0,"outright.go:303",#[⟨22,.data⟩,⟨16,.guard⟩],some (16,true)⟩,⟨some 77,.fieldAddr 23 (.tmp 76) 1,0,"outright.go:303",#[⟨23,.data⟩,⟨16,.guard⟩],some (16,true)⟩,⟨some 78,.load 3 (.tmp 77),3,"outright.go:303",#[⟨24,.data⟩,⟨16,.guard⟩],some (16,true)⟩,⟨some 79,.binOp .mul 3 (.tmp 74) (.tmp 78) 3,3,"outright.go:303",#[⟨21,.data⟩,⟨25,.data⟩,⟨16,.guard⟩],some (16,true)⟩,⟨some 80,.binOp .sub 3 (.tmp 73) (.tmp 79) 3,3,"outright.go:303",#[⟨20,.data⟩,⟨26,.data⟩,⟨16,.guard⟩],some (16,true)⟩,⟨some 81,.fieldAddr 30 (.tmp 6) 1,0,"outright.go:303",#[⟨16,.guard⟩],some (16,true)⟩,⟨some 82,.fieldAddr 27 (.tmp 81) 4,0,"outright.go:303",#[⟨28,.data⟩,⟨16,.guard⟩],some (16,true)⟩,⟨some 83,.load 3 (.tmp 82),3,"outright.go:303",#[⟨29,.data⟩,⟨16,.guard⟩],some (16,true)⟩,⟨some 84,.binOp .geq 3 (.tmp 80) (.tmp 83) 3,4,"outright.go:303",#[⟨27,.data⟩,⟨30,.data⟩,⟨16,.guard⟩],some (16,true)⟩,⟨some 85,.pick (.tmp 69) (.tmp 84) (.const (.bool false)),4,"outright.go:303",#[⟨16,.data⟩,⟨31,.data⟩],none⟩]
set_option maxHeartbeats 400000 in
set_option maxRecDepth 1000000 in
theorem nr9_1 {G : Jb} {sa : Option Addr} {sn sc : Nat} {w : World} {g6 : Nat} {tips roots : Nat} {m1 m2 : Int} {bA : Bool} {Q : Exit → Act → World → Prop} {u0 u1 u2 u5 u7 u8 u9 A0 A1 A2 A3 A4 A5 A6 A7 A8 A9 Aa Ab Ac Ad Ae Af Ag Ah Ai Aj Ak Al Am An Ao Ap Aq Ar As At Au Av Aw Ax Ay Az C0 C1 C2 C3 C4 C5 C6 C7 C8 C9 Ca Cb Cc Cd Ce Cf Cg Ch Ci Cj Ck Cl Cm Cn Co Cp Cq Cr Cs Ct Cu Cv Cw Cx Cy Cz D0 D1 D2 D3 D4 D5 D6 D7 D8 D9 Da Db Dc Dd De Df Dg Dh Di Dj Dk Dl Dm Dn Do Dp Dq Dr Ds Dt Du Dv Dw Dx Dy Dz E0 E1 E2 E3 E4 E5 E6 E7 E8 E9 Ea Eb Ec Ed Ee Ef Eg Eh Ei Ej Ek El Em En Eo Ep Eq Er Es Et Eu Ev Ew Ex Ey Ez F0 F1 F2 F3 F4 F5 F6 F7 F8 F9 Fa Fb Fc Fd Fe Ff Fg Fh Fi Fj Fk Fl Fm Fn Fo : Value} (hJ : Bk w g6 30 (jobC G (.slice sa sn sc))) (hin : G.In 1000) (ht : tips ≤ 10 ∧ roots ≤ 10) (hw1 : IntKind.i64.wrap (((tips : Int) + 1) * G.x2) = m1) (hw2 : IntKind.i64.wrap ((roots : Int) * G.y2) = m2) (hm : -1000 ≤ m1 ∧ m1 ≤ 1000 ∧ -1000 ≤ m2 ∧ m2 ≤ 1000) (hA : bA = decide (G.le ≤ G.t1 - m1)) (hK : ∀ (v53 v54 v55 v56 v57 v58 v59 v60 v61 v62 v63 v64 v65 v66 v67 v68 v70 v71 v72 v73 v74 v75 v76 v77 v78 v79 v80 v81 v82 v83 v84 v85 : Value),Hid (wpOps Try.prog nr9 Q [17,18,19,20,21,22,23,24,25,26,27,28,29,30,31,32] ⟨#[u0,u1,u2,(.int .i64 ↑tips),(.int .i64 ↑roots),u5,(.pointer (some ⟨g6,0,none⟩)),u7,u8,u9,A0,A1,A2,A3,A4,A5,A6,A7,A8,A9,Aa,Ab,Ac,Ad,Ae,Af,Ag,Ah,Ai,Aj,Ak,Al,Am,An,Ao,Ap,Aq,Ar,As,At,Au,Av,Aw,Ax,Ay,Az,C0,C1,C2,C3,C4,C5,C6,v53,v54,v55,v56,v57,v58,v59,v60,v61,v62,v63,v64,v65,v66,v67,v68,(.bool bA),v70,v71,v72,v73,v74,v75,v76,v77,v78,v79,v80,v81,v82,v83,v84,v85,D4,D5,D6,D7,D8,D9,Da,Db,Dc,Dd,De,Df,Dg,Dh,Di,Dj,Dk,Dl,Dm,Dn,Do,Dp,Dq,Dr,Ds,Dt,Du,Dv,Dw,Dx,Dy,Dz,E0,E1,E2,E3,E4,E5,E6,E7,E8,E9,Ea,Eb,Ec,Ed,Ee,Ef,Eg,Eh,Ei,Ej,Ek,El,Em,En,Eo,Ep,Eq,Er,Es,Et,Eu,Ev,Ew,Ex,Ey,Ez,F0,F1,F2,F3,F4,F5,F6,F7,F8,F9,Fa,Fb,Fc,Fd,Fe,Ff,Fg,Fh,Fi,Fj,Fk,Fl,Fm,Fn,Fo],[]⟩ w)) : Hid (wpOps Try.prog nr9 Q [0,1,2,3,4,5,6,7,8,9,10,11,12,13,14,15,16,17,18,19,20,21,22,23,24,25,26,27,28,29,30,31,32] ⟨#[u0,u1,u2,(.int .i64 ↑tips),(.int .i64 ↑roots),u5,(.pointer (some ⟨g6,0,none⟩)),u7,u8,u9,A0,A1,A2,A3,A4,A5,A6,A7,A8,A9,Aa,Ab,Ac,Ad,Ae,Af,Ag,Ah,Ai,Aj,Ak,Al,Am,An,Ao,Ap,Aq,Ar,As,At,Au,Av,Aw,Ax,Ay,Az,C0,C1,C2,C3,C4,C5,C6,C7,C8,C9,Ca,Cb,Cc,Cd,Ce,Cf,Cg,Ch,Ci,Cj,Ck,Cl,Cm,Cn,Co,Cp,Cq,Cr,Cs,Ct,Cu,Cv,Cw,Cx,Cy,Cz,D0,D1,D2,D3,D4,D5,D6,D7,D8,D9,Da,Db,Dc,Dd,De,Df,Dg,Dh,Di,Dj,Dk,Dl,Dm,Dn,Do,Dp,Dq,Dr,Ds,Dt,Du,Dv,Dw,Dx,Dy,Dz,E0,E1,E2,E3,E4,E5,E6,E7,E8,E9,Ea,Eb,Ec,Ed,Ee,Ef,Eg,Eh,Ei,Ej,Ek,El,Em,En,Eo,Ep,Eq,Er,Es,Et,Eu,Ev,Ew,Ex,Ey,Ez,F0,F1,F2,F3,F4,F5,F6,F7,F8,F9,Fa,Fb,Fc,Fd,Fe,Ff,Fg,Fh,Fi,Fj,Fk,Fl,Fm,Fn,Fo],[]⟩ w) := by
  obtain ⟨hm1,hm2,hm3,hm4⟩ := hm
  obtain ⟨ht1,ht2⟩ := ht
  have e1 := hin.t1
  have e2 := hin.r1
  have q1 : IntKind.i64.wrap ((tips : Int) + 1) = (tips : Int) + 1 := IntWalk.i64_in _ (by omega)
  have q2 : IntKind.i64.wrap ((roots : Int) + 1) = (roots : Int) + 1 := IntWalk.i64_in _ (by omega)
  have q3 : IntKind.i64.wrap (G.t1 - m1) = G.t1 - m1 := IntWalk.i64_in _ (by omega)
  have q4 : IntKind.i64.wrap (G.r1 - m2) = G.r1 - m2 := IntWalk.i64_in _ (by omega)
  refine hL_take (o := ⟨some 53,.fieldAddr 30 (.tmp 6) 0,0,"outright.go:303",#[],none⟩) (v := ?_) (by kernel_rfl) (by kernel_rfl) ?_ ?_
  rotate_left
  · (skip; go_simp <;> with_reducible rfl)
  (try simp only [Act.put,aT,aZ,aS])
  refine hL_take (o := ⟨some 54,.fieldAddr 25 (.tmp 53) 1,0,"outright.go:303",#[⟨0,.data⟩],none⟩) (v := ?_) (by kernel_rfl) (by kernel_rfl) ?_ ?_
  rotate_left
  · (skip; go_simp <;> with_reducible rfl)
  (try simp only [Act.put,aT,aZ,aS])
  refine hL_take (o := ⟨some 55,.fieldAddr 23 (.tmp 54) 0,0,"outright.go:303",#[⟨1,.data⟩],none⟩) (v := ?_) (by kernel_rfl) (by kernel_rfl) ?_ ?_
  rotate_left
  · (skip; go_simp <;> with_reducible rfl)
  (try simp only [Act.put,aT,aZ,aS])
  refine hL_take (o := ⟨some 56,.load 3 (.tmp 55),3,"outright.go:303",#[⟨2,.data⟩],none⟩) (v := ?_) (by kernel_rfl) (by kernel_rfl) ?_ ?_
  rotate_left
  · ((have d0 := hJ.at_ 2 (.int .i64 G.t1) rfl; have d1 := hJ.at_ 11 (.int .i64 G.x2) rfl; have d2 := hJ.at_ 14 (.int .i64 G.le) rfl; have d3 := hJ.at_ 4 (.int .i64 G.r1) rfl; have d4 := hJ.at_ 13 (.int .i64 G.y2) rfl); go_simp <;> with_reducible rfl)
  (try simp only [Act.put,aT,aZ,aS])
  refine hL_take (o := ⟨some 57,.move (.tmp 3),3,"outright.go:303",#[],none⟩) (v := ?_) (by kernel_rfl) (by kernel_rfl) ?_ ?_
  rotate_left
  · (skip; go_simp <;> with_reducible rfl)
  (try simp only [Act.put,aT,aZ,aS])
  refine hL_take (o := ⟨some 58,.binOp .add 3 (.tmp 57) (.const (.int .i64 1)) 3,3,"outright.go:303",#[⟨4,.data⟩],none⟩) (v := ?_) (by kernel_rfl) (by kernel_rfl) ?_ ?_
  rotate_left
  · (skip; go_simp <;> with_reducible rfl)
  (try simp only [Act.put,aT,aZ,aS])
  refine hL_take (o := ⟨some 59,.fieldAddr 30 (.tmp 6) 1,0,"outright.go:303",#[],none⟩) (v := ?_) (by kernel_rfl) (by kernel_rfl) ?_ ?_
  rotate_left
  · (skip; go_simp <;> with_reducible rfl)
  (try simp only [Act.put,aT,aZ,aS])
  refine hL_take (o := ⟨some 60,.fieldAddr 27 (.tmp 59) 2,0,"outright.go:303",#[⟨6,.data⟩],none⟩) (v := ?_) (by kernel_rfl) (by kernel_rfl) ?_ ?_
  rotate_left
  · (skip; go_simp <;> with_reducible rfl)
  (try simp only [Act.put,aT,aZ,aS])
  refine hL_take (o := ⟨some 61,.fieldAddr 23 (.tmp 60) 1,0,"outright.go:303",#[⟨7,.data⟩],none⟩) (v := ?_) (by kernel_rfl) (by kernel_rfl) ?_ ?_
  rotate_left
  · (skip; go_simp <;> with_reducible rfl)
  (try simp only [Act.put,aT,aZ,aS])
  refine hL_take (o := ⟨some 62,.load 3 (.tmp 61),3,"outright.go:303",#[⟨8,.data⟩],none⟩) (v := ?_) (by kernel_rfl) (by kernel_rfl) ?_ ?_
  rotate_left
  · ((have d0 := hJ.at_ 2 (.int .i64 G.t1) rfl; have d1 := hJ.at_ 11 (.int .i64 G.x2) rfl; have d2 := hJ.at_ 14 (.int .i64 G.le) rfl; have d3 := hJ.at_ 4 (.int .i64 G.r1) rfl; have d4 := hJ.at_ 13 (.int .i64 G.y2) rfl); go_simp <;> with_reducible rfl)
  (try simp only [Act.put,aT,aZ,aS])
  refine hL_take (o := ⟨some 63,.binOp .mul 3 (.tmp 58) (.tmp 62) 3,3,"outright.go:303",#[⟨5,.data⟩,⟨9,.data⟩],none⟩) (v := .int .i64 m1) (by kernel_rfl) (by kernel_rfl) ?_ ?_
  · (skip; go_simp <;> with_reducible rfl)
  (try simp only [Act.put,aT,aZ,aS])
  refine hL_take (o := ⟨some 64,.binOp .sub 3 (.tmp 56) (.tmp 63) 3,3,"outright.go:303",#[⟨3,.data⟩,⟨10,.data⟩],none⟩) (v := ?_) (by kernel_rfl) (by kernel_rfl) ?_ ?_
  rotate_left
  · (skip; go_simp <;> with_reducible rfl)
  (try simp only [Act.put,aT,aZ,aS])
  refine hL_take (o := ⟨some 65,.fieldAddr 30 (.tmp 6) 1,0,"outright.go:303",#[],none⟩) (v := ?_) (by kernel_rfl) (by kernel_rfl) ?_ ?_
  rotate_left
  · (skip; go_simp <;> with_reducible rfl)
  (try simp only [Act.put,aT,aZ,aS])
  refine hL_take (o := ⟨some 66,.fieldAddr 27 (.tmp 65) 4,0,"outright.go:303",#[⟨12,.data⟩],none⟩) (v := ?_) (by kernel_rfl) (by kernel_rfl) ?_ ?_
  rotate_left
  · (skip; go_simp <;> with_reducible rfl)
  (try simp only [Act.put,aT,aZ,aS])
  refine hL_take (o := ⟨some 67,.load 3 (.tmp 66),3,"outright.go:303",#[⟨13,.data⟩],none⟩) (v := ?_) (by kernel_rfl) (by kernel_rfl) ?_ ?_
  rotate_left
  · ((have d0 := hJ.at_ 2 (.int .i64 G.t1) rfl; have d1 := hJ.at_ 11 (.int .i64 G.x2) rfl; have d2 := hJ.at_ 14 (.int .i64 G.le) rfl; have d3 := hJ.at_ 4 (.int .i64 G.r1) rfl; have d4 := hJ.at_ 13 (.int .i64 G.y2) rfl); go_simp <;> with_reducible rfl)
  (try simp only [Act.put,aT,aZ,aS])
  refine hL_take (o := ⟨some 68,.binOp .geq 3 (.tmp 64) (.tmp 67) 3,4,"outright.go:303",#[⟨11,.data⟩,⟨14,.data⟩],none⟩) (v := .bool bA) (by kernel_rfl) (by kernel_rfl) ?_ ?_
  · (subst hA; go_simp <;> with_reducible rfl)
  (try simp only [Act.put,aT,aZ,aS])
  refine hL_take (o := ⟨some 69,.move (.tmp 68),4,"outright.go:303",#[⟨15,.data⟩],none⟩) (v := .bool bA) (by kernel_rfl) (by kernel_rfl) ?_ ?_
  · (skip; go_simp <;> with_reducible rfl)
  (try simp only [Act.put,aT,aZ,aS])
  exact hK _ _ _ _ _ _ _ _ _ _ _ _ _ _ _ _ _ _ _ _ _ _ _ _ _ _ _ _ _ _ _ _ 
set_option maxHeartbeats 400000 in
set_option maxRecDepth 1000000 in
theorem nr9_2 {G : Jb} {sa : Option Addr} {sn sc : Nat} {w : World} {g6 : Nat} {tips roots : Nat} {m1 m2 : Int} {bB : Bool} {Q : Exit → Act → World → Prop} {u0 u1 u2 u5 u7 u8 u9 A0 A1 A2 A3 A4 A5 A6 A7 A8 A9 Aa Ab Ac Ad Ae Af Ag Ah Ai Aj Ak Al Am An Ao Ap Aq Ar As At Au Av Aw Ax Ay Az C0 C1 C2 C3 C4 C5 C6 C7 C8 C9 Ca Cb Cc Cd Ce Cf Cg Ch Ci Cj Ck Cl Cm Co Cp Cq Cr Cs Ct Cu Cv Cw Cx Cy Cz D0 D1 D2 D3 D4 D5 D6 D7 D8 D9 Da Db Dc Dd De Df Dg Dh Di Dj Dk Dl Dm Dn Do Dp Dq Dr Ds Dt Du Dv Dw Dx Dy Dz E0 E1 E2 E3 E4 E5 E6 E7 E8 E9 Ea Eb Ec Ed Ee Ef Eg Eh Ei Ej Ek El Em En Eo Ep Eq Er Es Et Eu Ev Ew Ex Ey Ez F0 F1 F2 F3 F4 F5 F6 F7 F8 F9 Fa Fb Fc Fd Fe Ff Fg Fh Fi Fj Fk Fl Fm Fn Fo : Value} (hJ : Bk w g6 30 (jobC G (.slice sa sn sc))) (hin : G.In 1000) (ht : tips ≤ 10 ∧ roots ≤ 10) (hw1 : IntKind.i64.wrap (((tips : Int) + 1) * G.x2) = m1) (hw2 : IntKind.i64.wrap ((roots : Int) * G.y2) = m2) (hm : -1000 ≤ m1 ∧ m1 ≤ 1000 ∧ -1000 ≤ m2 ∧ m2 ≤ 1000) (hB : bB = decide (G.le ≤ G.r1 - m2)) (hK : ∀ (v53 v54 v55 v56 v57 v58 v59 v60 v61 v62 v63 v64 v65 v66 v67 v68 v69 v70 v71 v72 v73 v74 v75 v76 v77 v78 v79 v80 v81 v82 v83 v84 : Value),Hid (wpOps Try.prog nr9 Q [] ⟨#[u0,u1,u2,(.int .i64 ↑tips),(.int .i64 ↑roots),u5,(.pointer (some ⟨g6,0,none⟩)),u7,u8,u9,A0,A1,A2,A3,A4,A5,A6,A7,A8,A9,Aa,Ab,Ac,Ad,Ae,Af,Ag,Ah,Ai,Aj,Ak,Al,Am,An,Ao,Ap,Aq,Ar,As,At,Au,Av,Aw,Ax,Ay,Az,C0,C1,C2,C3,C4,C5,C6,v53,v54,v55,v56,v57,v58,v59,v60,v61,v62,v63,v64,v65,v66,v67,v68,v69,v70,v71,v72,v73,v74,v75,v76,v77,v78,v79,v80,v81,v82,v83,v84,(.bool bB),D4,D5,D6,D7,D8,D9,Da,Db,Dc,Dd,De,Df,Dg,Dh,Di,Dj,Dk,Dl,Dm,Dn,Do,Dp,Dq,Dr,Ds,Dt,Du,Dv,Dw,Dx,Dy,Dz,E0,E1,E2,E3,E4,E5,E6,E7,E8,E9,Ea,Eb,Ec,Ed,Ee,Ef,Eg,Eh,Ei,Ej,Ek,El,Em,En,Eo,Ep,Eq,Er,Es,Et,Eu,Ev,Ew,Ex,Ey,Ez,F0,F1,F2,F3,F4,F5,F6,F7,F8,F9,Fa,Fb,Fc,Fd,Fe,Ff,Fg,Fh,Fi,Fj,Fk,Fl,Fm,Fn,Fo],[]⟩ w)) : Hid (wpOps Try.prog nr9 Q [17,18,19,20,21,22,23,24,25,26,27,28,29,30,31,32] ⟨#[u0,u1,u2,(.int .i64 ↑tips),(.int .i64 ↑roots),u5,(.pointer (some ⟨g6,0,none⟩)),u7,u8,u9,A0,A1,A2,A3,A4,A5,A6,A7,A8,A9,Aa,Ab,Ac,Ad,Ae,Af,Ag,Ah,Ai,Aj,Ak,Al,Am,An,Ao,Ap,Aq,Ar,As,At,Au,Av,Aw,Ax,Ay,Az,C0,C1,C2,C3,C4,C5,C6,C7,C8,C9,Ca,Cb,Cc,Cd,Ce,Cf,Cg,Ch,Ci,Cj,Ck,Cl,Cm,(.bool true),Co,Cp,Cq,Cr,Cs,Ct,Cu,Cv,Cw,Cx,Cy,Cz,D0,D1,D2,D3,D4,D5,D6,D7,D8,D9,Da,Db,Dc,Dd,De,Df,Dg,Dh,Di,Dj,Dk,Dl,Dm,Dn,Do,Dp,Dq,Dr,Ds,Dt,Du,Dv,Dw,Dx,Dy,Dz,E0,E1,E2,E3,E4,E5,E6,E7,E8,E9,Ea,Eb,Ec,Ed,Ee,Ef,Eg,Eh,Ei,Ej,Ek,El,Em,En,Eo,Ep,Eq,Er,Es,Et,Eu,Ev,Ew,Ex,Ey,Ez,F0,F1,F2,F3,F4,F5,F6,F7,F8,F9,Fa,Fb,Fc,Fd,Fe,Ff,Fg,Fh,Fi,Fj,Fk,Fl,Fm,Fn,Fo],[]⟩ w) := by
  obtain ⟨hm1,hm2,hm3,hm4⟩ := hm
  obtain ⟨ht1,ht2⟩ := ht
  have e1 := hin.t1
  have e2 := hin.r1
  have q1 : IntKind.i64.wrap ((tips : Int) + 1) = (tips : Int) + 1 := IntWalk.i64_in _ (by omega)
  have q2 : IntKind.i64.wrap ((roots : Int) + 1) = (roots : Int) + 1 := IntWalk.i64_in _ (by omega)
  have q3 : IntKind.i64.wrap (G.t1 - m1) = G.t1 - m1 := IntWalk.i64_in _ (by omega)
  have q4 : IntKind.i64.wrap (G.r1 - m2) = G.r1 - m2 := IntWalk.i64_in _ (by omega)
  refine hL_take (o := ⟨some 70,.fieldAddr 30 (.tmp 6) 0,0,"outright.go:303",#[⟨16,.guard⟩],some (16,true)⟩) (v := ?_) (by kernel_rfl) (by kernel_rfl) ?_ ?_
  rotate_left
  · (skip; go_simp <;> with_reducible rfl)
  (try simp only [Act.put,aT,aZ,aS])
  refine hL_take (o := ⟨some 71,.fieldAddr 25 (.tmp 70) 2,0,"outright.go:303",#[⟨17,.data⟩,⟨16,.guard⟩],some (16,true)⟩) (v := ?_) (by kernel_rfl) (by kernel_rfl) ?_ ?_
  rotate_left
  · (skip; go_simp <;> with_reducible rfl)
  (try simp only [Act.put,aT,aZ,aS])
  refine hL_take (o := ⟨some 72,.fieldAddr 23 (.tmp 71) 0,0,"outright.go:303",#[⟨18,.data⟩,⟨16,.guard⟩],some (16,true)⟩) (v := ?_) (by kernel_rfl) (by kernel_rfl) ?_ ?_
  rotate_left
  · (skip; go_simp <;> with_reducible rfl)
  (try simp only [Act.put,aT,aZ,aS])
  refine hL_take (o := ⟨some 73,.load 3 (.tmp 72),3,"outright.go:303",#[⟨19,.data⟩,⟨16,.guard⟩],some (16,true)⟩) (v := ?_) (by kernel_rfl) (by kernel_rfl) ?_ ?_
  rotate_left
  · ((have d0 := hJ.at_ 2 (.int .i64 G.t1) rfl; have d1 := hJ.at_ 11 (.int .i64 G.x2) rfl; have d2 := hJ.at_ 14 (.int .i64 G.le) rfl; have d3 := hJ.at_ 4 (.int .i64 G.r1) rfl; have d4 := hJ.at_ 13 (.int .i64 G.y2) rfl); go_simp <;> with_reducible rfl)
  (try simp only [Act.put,aT,aZ,aS])
  refine hL_take (o := ⟨some 74,.move (.tmp 4),3,"outright.go:303",#[⟨16,.guard⟩],some (16,true)⟩) (v := ?_) (by kernel_rfl) (by kernel_rfl) ?_ ?_
  rotate_left
  · (skip; go_simp <;> with_reducible rfl)
  (try simp only [Act.put,aT,aZ,aS])
  refine hL_take (o := ⟨some 75,.fieldAddr 30 (.tmp 6) 1,0,"outright.go:303",#[⟨16,.guard⟩],some (16,true)⟩) (v := ?_) (by kernel_rfl) (by kernel_rfl) ?_ ?_
  rotate_left
  · (skip; go_simp <;> with_reducible rfl)
  (try simp only [Act.put,aT,aZ,aS])
  refine hL_take (o := ⟨some 76,.fieldAddr 27 (.tmp 75) 3,0,"outright.go:303",#[⟨22,.data⟩,⟨16,.guard⟩],some (16,true)⟩) (v := ?_) (by kernel_rfl) (by kernel_rfl) ?_ ?_
  rotate_left
  · (skip; go_simp <;> with_reducible rfl)
  (try simp only [Act.put,aT,aZ,aS])
  refine hL_take (o := ⟨some 77,.fieldAddr 23 (.tmp 76) 1,0,"outright.go:303",#[⟨23,.data⟩,⟨16,.guard⟩],some (16,true)⟩) (v := ?_) (by kernel_rfl) (by kernel_rfl) ?_ ?_
  rotate_left
  · (skip; go_simp <;> with_reducible rfl)
  (try simp only [Act.put,aT,aZ,aS])
  refine hL_take (o := ⟨some 78,.load 3 (.tmp 77),3,"outright.go:303",#[⟨24,.data⟩,⟨16,.guard⟩],some (16,true)⟩) (v := ?_) (by kernel_rfl) (by kernel_rfl) ?_ ?_
  rotate_left
  · ((have d0 := hJ.at_ 2 (.int .i64 G.t1) rfl; have d1 := hJ.at_ 11 (.int .i64 G.x2) rfl; have d2 := hJ.at_ 14 (.int .i64 G.le) rfl; have d3 := hJ.at_ 4 (.int .i64 G.r1) rfl; have d4 := hJ.at_ 13 (.int .i64 G.y2) rfl); go_simp <;> with_reducible rfl)
  (try simp only [Act.put,aT,aZ,aS])
  refine hL_take (o := ⟨some 79,.binOp .mul 3 (.tmp 74) (.tmp 78) 3,3,"outright.go:303",#[⟨21,.data⟩,⟨25,.data⟩,⟨16,.guard⟩],some (16,true)⟩) (v := .int .i64 m2) (by kernel_rfl) (by kernel_rfl) ?_ ?_
  · (skip; go_simp <;> with_reducible rfl)
  (try simp only [Act.put,aT,aZ,aS])
  refine hL_take (o := ⟨some 80,.binOp .sub 3 (.tmp 73) (.tmp 79) 3,3,"outright.go:303",#[⟨20,.data⟩,⟨26,.data⟩,⟨16,.guard⟩],some (16,true)⟩) (v := ?_) (by kernel_rfl) (by kernel_rfl) ?_ ?_
  rotate_left
  · (skip; go_simp <;> with_reducible rfl)
  (try simp only [Act.put,aT,aZ,aS])
  refine hL_take (o := ⟨some 81,.fieldAddr 30 (.tmp 6) 1,0,"outright.go:303",#[⟨16,.guard⟩],some (16,true)⟩) (v := ?_) (by kernel_rfl) (by kernel_rfl) ?_ ?_
  rotate_left
  · (skip; go_simp <;> with_reducible rfl)
  (try simp only [Act.put,aT,aZ,aS])
  refine hL_take (o := ⟨some 82,.fieldAddr 27 (.tmp 81) 4,0,"outright.go:303",#[⟨28,.data⟩,⟨16,.guard⟩],some (16,true)⟩) (v := ?_) (by kernel_rfl) (by kernel_rfl) ?_ ?_
  rotate_left
  · (skip; go_simp <;> with_reducible rfl)
  (try simp only [Act.put,aT,aZ,aS])
  refine hL_take (o := ⟨some 83,.load 3 (.tmp 82),3,"outright.go:303",#[⟨29,.data⟩,⟨16,.guard⟩],some (16,true)⟩) (v := ?_) (by kernel_rfl) (by kernel_rfl) ?_ ?_
  rotate_left
  · ((have d0 := hJ.at_ 2 (.int .i64 G.t1) rfl; have d1 := hJ.at_ 11 (.int .i64 G.x2) rfl; have d2 := hJ.at_ 14 (.int .i64 G.le) rfl; have d3 := hJ.at_ 4 (.int .i64 G.r1) rfl; have d4 := hJ.at_ 13 (.int .i64 G.y2) rfl); go_simp <;> with_reducible rfl)
  (try simp only [Act.put,aT,aZ,aS])
  refine hL_take (o := ⟨some 84,.binOp .geq 3 (.tmp 80) (.tmp 83) 3,4,"outright.go:303",#[⟨27,.data⟩,⟨30,.data⟩,⟨16,.guard⟩],some (16,true)⟩) (v := .bool bB) (by kernel_rfl) (by kernel_rfl) ?_ ?_
  · (subst hB; go_simp <;> with_reducible rfl)
  (try simp only [Act.put,aT,aZ,aS])
  refine hL_take (o := ⟨some 85,.pick (.tmp 69) (.tmp 84) (.const (.bool false)),4,"outright.go:303",#[⟨16,.data⟩,⟨31,.data⟩],none⟩) (v := .bool bB) (by kernel_rfl) (by kernel_rfl) ?_ ?_
  · (skip; go_simp <;> with_reducible rfl)
  (try simp only [Act.put,aT,aZ,aS])
  exact hK _ _ _ _ _ _ _ _ _ _ _ _ _ _ _ _ _ _ _ _ _ _ _ _ _ _ _ _ _ _ _ _ 
set_option maxHeartbeats 400000 in
set_option maxRecDepth 1000000 in
theorem nr9_3 {G : Jb} {sa : Option Addr} {sn sc : Nat} {w : World} {g6 : Nat} {tips roots : Nat} {m1 m2 : Int} {b1 : Bool} {Q : Exit → Act → World → Prop} {u0 u1 u2 u5 u7 u8 u9 A0 A1 A2 A3 A4 A5 A6 A7 A8 A9 Aa Ab Ac Ad Ae Af Ag Ah Ai Aj Ak Al Am An Ao Ap Aq Ar As At Au Av Aw Ax Ay Az C0 C1 C2 C3 C4 C5 C6 C7 C8 C9 Ca Cb Cc Cd Ce Cf Cg Ch Ci Cj Ck Cl Cm Co Cp Cq Cr Cs Ct Cu Cv Cw Cx Cy Cz D0 D1 D2 D3 D4 D5 D6 D7 D8 D9 Da Db Dc Dd De Df Dg Dh Di Dj Dk Dl Dm Dn Do Dp Dq Dr Ds Dt Du Dv Dw Dx Dy Dz E0 E1 E2 E3 E4 E5 E6 E7 E8 E9 Ea Eb Ec Ed Ee Ef Eg Eh Ei Ej Ek El Em En Eo Ep Eq Er Es Et Eu Ev Ew Ex Ey Ez F0 F1 F2 F3 F4 F5 F6 F7 F8 F9 Fa Fb Fc Fd Fe Ff Fg Fh Fi Fj Fk Fl Fm Fn Fo : Value} (hJ : Bk w g6 30 (jobC G (.slice sa sn sc))) (hin : G.In 1000) (ht : tips ≤ 10 ∧ roots ≤ 10) (hw1 : IntKind.i64.wrap (((tips : Int) + 1) * G.x2) = m1) (hw2 : IntKind.i64.wrap ((roots : Int) * G.y2) = m2) (hm : -1000 ≤ m1 ∧ m1 ≤ 1000 ∧ -1000 ≤ m2 ∧ m2 ≤ 1000) (hb : b1 = false) (hK : ∀ (v53 v54 v55 v56 v57 v58 v59 v60 v61 v62 v63 v64 v65 v66 v67 v68 v69 v70 v71 v72 v73 v74 v75 v76 v77 v78 v79 v80 v81 v82 v83 v84 : Value),Hid (wpOps Try.prog nr9 Q [] ⟨#[u0,u1,u2,(.int .i64 ↑tips),(.int .i64 ↑roots),u5,(.pointer (some ⟨g6,0,none⟩)),u7,u8,u9,A0,A1,A2,A3,A4,A5,A6,A7,A8,A9,Aa,Ab,Ac,Ad,Ae,Af,Ag,Ah,Ai,Aj,Ak,Al,Am,An,Ao,Ap,Aq,Ar,As,At,Au,Av,Aw,Ax,Ay,Az,C0,C1,C2,C3,C4,C5,C6,v53,v54,v55,v56,v57,v58,v59,v60,v61,v62,v63,v64,v65,v66,v67,v68,v69,v70,v71,v72,v73,v74,v75,v76,v77,v78,v79,v80,v81,v82,v83,v84,(.bool b1),D4,D5,D6,D7,D8,D9,Da,Db,Dc,Dd,De,Df,Dg,Dh,Di,Dj,Dk,Dl,Dm,Dn,Do,Dp,Dq,Dr,Ds,Dt,Du,Dv,Dw,Dx,Dy,Dz,E0,E1,E2,E3,E4,E5,E6,E7,E8,E9,Ea,Eb,Ec,Ed,Ee,Ef,Eg,Eh,Ei,Ej,Ek,El,Em,En,Eo,Ep,Eq,Er,Es,Et,Eu,Ev,Ew,Ex,Ey,Ez,F0,F1,F2,F3,F4,F5,F6,F7,F8,F9,Fa,Fb,Fc,Fd,Fe,Ff,Fg,Fh,Fi,Fj,Fk,Fl,Fm,Fn,Fo],[]⟩ w)) : Hid (wpOps Try.prog nr9 Q [17,18,19,20,21,22,23,24,25,26,27,28,29,30,31,32] ⟨#[u0,u1,u2,(.int .i64 ↑tips),(.int .i64 ↑roots),u5,(.pointer (some ⟨g6,0,none⟩)),u7,u8,u9,A0,A1,A2,A3,A4,A5,A6,A7,A8,A9,Aa,Ab,Ac,Ad,Ae,Af,Ag,Ah,Ai,Aj,Ak,Al,Am,An,Ao,Ap,Aq,Ar,As,At,Au,Av,Aw,Ax,Ay,Az,C0,C1,C2,C3,C4,C5,C6,C7,C8,C9,Ca,Cb,Cc,Cd,Ce,Cf,Cg,Ch,Ci,Cj,Ck,Cl,Cm,(.bool b1),Co,Cp,Cq,Cr,Cs,Ct,Cu,Cv,Cw,Cx,Cy,Cz,D0,D1,D2,D3,D4,D5,D6,D7,D8,D9,Da,Db,Dc,Dd,De,Df,Dg,Dh,Di,Dj,Dk,Dl,Dm,Dn,Do,Dp,Dq,Dr,Ds,Dt,Du,Dv,Dw,Dx,Dy,Dz,E0,E1,E2,E3,E4,E5,E6,E7,E8,E9,Ea,Eb,Ec,Ed,Ee,Ef,Eg,Eh,Ei,Ej,Ek,El,Em,En,Eo,Ep,Eq,Er,Es,Et,Eu,Ev,Ew,Ex,Ey,Ez,F0,F1,F2,F3,F4,F5,F6,F7,F8,F9,Fa,Fb,Fc,Fd,Fe,Ff,Fg,Fh,Fi,Fj,Fk,Fl,Fm,Fn,Fo],[]⟩ w) := by
  obtain ⟨hm1,hm2,hm3,hm4⟩ := hm
  obtain ⟨ht1,ht2⟩ := ht
  have e1 := hin.t1
  have e2 := hin.r1
  have q1 : IntKind.i64.wrap ((tips : Int) + 1) = (tips : Int) + 1 := IntWalk.i64_in _ (by omega)
  have q2 : IntKind.i64.wrap ((roots : Int) + 1) = (roots : Int) + 1 := IntWalk.i64_in _ (by omega)
  have q3 : IntKind.i64.wrap (G.t1 - m1) = G.t1 - m1 := IntWalk.i64_in _ (by omega)
  have q4 : IntKind.i64.wrap (G.r1 - m2) = G.r1 - m2 := IntWalk.i64_in _ (by omega)
  have hz := fun a rest => @hL_skipD Try.prog nr9 Q a w 17 rest (some 70)
  refine hz _ _ ?_ ?_
  · subst hb
    kernel_rfl
  clear hz
  (try simp only [Act.put,aT,aZ,aS])
  have hz := fun a rest => @hL_skipD Try.prog nr9 Q a w 18 rest (some 71)
  refine hz _ _ ?_ ?_
  · subst hb
    kernel_rfl
  clear hz
  (try simp only [Act.put,aT,aZ,aS])
  have hz := fun a rest => @hL_skipD Try.prog nr9 Q a w 19 rest (some 72)
  refine hz _ _ ?_ ?_
  · subst hb
    kernel_rfl
  clear hz
  (try simp only [Act.put,aT,aZ,aS])
  have hz := fun a rest => @hL_skipD Try.prog nr9 Q a w 20 rest (some 73)
  refine hz _ _ ?_ ?_
  · subst hb
    kernel_rfl
  clear hz
  (try simp only [Act.put,aT,aZ,aS])
  have hz := fun a rest => @hL_skipD Try.prog nr9 Q a w 21 rest (some 74)
  refine hz _ _ ?_ ?_
  · subst hb
    kernel_rfl
  clear hz
  (try simp only [Act.put,aT,aZ,aS])
  have hz := fun a rest => @hL_skipD Try.prog nr9 Q a w 22 rest (some 75)
  refine hz _ _ ?_ ?_
  · subst hb
    kernel_rfl
  clear hz
  (try simp only [Act.put,aT,aZ,aS])
  have hz := fun a rest => @hL_skipD Try.prog nr9 Q a w 23 rest (some 76)
  refine hz _ _ ?_ ?_
  · subst hb
    kernel_rfl
  clear hz
  (try simp only [Act.put,aT,aZ,aS])
  have hz := fun a rest => @hL_skipD Try.prog nr9 Q a w 24 rest (some 77)
  refine hz _ _ ?_ ?_
  · subst hb
    kernel_rfl
  clear hz
  (try simp only [Act.put,aT,aZ,aS])
  have hz := fun a rest => @hL_skipD Try.prog nr9 Q a w 25 rest (some 78)
  refine hz _ _ ?_ ?_
  · subst hb
    kernel_rfl
  clear hz
  (try simp only [Act.put,aT,aZ,aS])
  have hz := fun a rest => @hL_skipD Try.prog nr9 Q a w 26 rest (some 79)
  refine hz _ _ ?_ ?_
  · subst hb
    kernel_rfl
  clear hz
  (try simp only [Act.put,aT,aZ,aS])
  have hz := fun a rest => @hL_skipD Try.prog nr9 Q a w 27 rest (some 80)
  refine hz _ _ ?_ ?_
  · subst hb
    kernel_rfl
  clear hz
  (try simp only [Act.put,aT,aZ,aS])
  have hz := fun a rest => @hL_skipD Try.prog nr9 Q a w 28 rest (some 81)
  refine hz _ _ ?_ ?_
  · subst hb
    kernel_rfl
  clear hz
  (try simp only [Act.put,aT,aZ,aS])
  have hz := fun a rest => @hL_skipD Try.prog nr9 Q a w 29 rest (some 82)
  refine hz _ _ ?_ ?_
  · subst hb
    kernel_rfl
  clear hz
  (try simp only [Act.put,aT,aZ,aS])
  have hz := fun a rest => @hL_skipD Try.prog nr9 Q a w 30 rest (some 83)
  refine hz _ _ ?_ ?_
  · subst hb
    kernel_rfl
  clear hz
  (try simp only [Act.put,aT,aZ,aS])
  have hz := fun a rest => @hL_skipD Try.prog nr9 Q a w 31 rest (some 84)
  refine hz _ _ ?_ ?_
  · subst hb
    kernel_rfl
  clear hz
  (try simp only [Act.put,aT,aZ,aS])
  refine hL_take (o := ⟨some 85,.pick (.tmp 69) (.tmp 84) (.const (.bool false)),4,"outright.go:303",#[⟨16,.data⟩,⟨31,.data⟩],none⟩) (v := .bool b1) (by kernel_rfl) (by kernel_rfl) ?_ ?_
  · (subst hb; go_simp <;> with_reducible rfl)
  (try simp only [Act.put,aT,aZ,aS])
  exact hK _ _ _ _ _ _ _ _ _ _ _ _ _ _ _ _ _ _ _ _ _ _ _ _ _ _ _ _ _ _ _ _ 
set_option maxHeartbeats 400000 in
set_option maxRecDepth 1000000 in
theorem nr9_run {G : Jb} {sa : Option Addr} {sn sc : Nat} {w : World} {g6 : Nat} {tips roots : Nat} {m1 m2 : Int} {Q : Exit → Act → World → Prop} {u0 u1 u2 u5 u7 u8 u9 A0 A1 A2 A3 A4 A5 A6 A7 A8 A9 Aa Ab Ac Ad Ae Af Ag Ah Ai Aj Ak Al Am An Ao Ap Aq Ar As At Au Av Aw Ax Ay Az C0 C1 C2 C3 C4 C5 C6 C7 C8 C9 Ca Cb Cc Cd Ce Cf Cg Ch Ci Cj Ck Cl Cm Cn Co Cp Cq Cr Cs Ct Cu Cv Cw Cx Cy Cz D0 D1 D2 D3 D4 D5 D6 D7 D8 D9 Da Db Dc Dd De Df Dg Dh Di Dj Dk Dl Dm Dn Do Dp Dq Dr Ds Dt Du Dv Dw Dx Dy Dz E0 E1 E2 E3 E4 E5 E6 E7 E8 E9 Ea Eb Ec Ed Ee Ef Eg Eh Ei Ej Ek El Em En Eo Ep Eq Er Es Et Eu Ev Ew Ex Ey Ez F0 F1 F2 F3 F4 F5 F6 F7 F8 F9 Fa Fb Fc Fd Fe Ff Fg Fh Fi Fj Fk Fl Fm Fn Fo : Value} (hJ : Bk w g6 30 (jobC G (.slice sa sn sc))) (hin : G.In 1000) (ht : tips ≤ 10 ∧ roots ≤ 10) (hw1 : IntKind.i64.wrap (((tips : Int) + 1) * G.x2) = m1) (hw2 : IntKind.i64.wrap ((roots : Int) * G.y2) = m2) (hm : -1000 ≤ m1 ∧ m1 ≤ 1000 ∧ -1000 ≤ m2 ∧ m2 ≤ 1000) (hK : ∀ (v53 v54 v55 v56 v57 v58 v59 v60 v61 v62 v63 v64 v65 v66 v67 v68 v69 v70 v71 v72 v73 v74 v75 v76 v77 v78 v79 v80 v81 v82 v83 v84 : Value),Q .normal ⟨#[u0,u1,u2,(.int .i64 ↑tips),(.int .i64 ↑roots),u5,(.pointer (some ⟨g6,0,none⟩)),u7,u8,u9,A0,A1,A2,A3,A4,A5,A6,A7,A8,A9,Aa,Ab,Ac,Ad,Ae,Af,Ag,Ah,Ai,Aj,Ak,Al,Am,An,Ao,Ap,Aq,Ar,As,At,Au,Av,Aw,Ax,Ay,Az,C0,C1,C2,C3,C4,C5,C6,v53,v54,v55,v56,v57,v58,v59,v60,v61,v62,v63,v64,v65,v66,v67,v68,v69,v70,v71,v72,v73,v74,v75,v76,v77,v78,v79,v80,v81,v82,v83,v84,(.bool (decide (G.le ≤ G.t1 - m1 ∧ G.le ≤ G.r1 - m2))),D4,D5,D6,D7,D8,D9,Da,Db,Dc,Dd,De,Df,Dg,Dh,Di,Dj,Dk,Dl,Dm,Dn,Do,Dp,Dq,Dr,Ds,Dt,Du,Dv,Dw,Dx,Dy,Dz,E0,E1,E2,E3,E4,E5,E6,E7,E8,E9,Ea,Eb,Ec,Ed,Ee,Ef,Eg,Eh,Ei,Ej,Ek,El,Em,En,Eo,Ep,Eq,Er,Es,Et,Eu,Ev,Ew,Ex,Ey,Ez,F0,F1,F2,F3,F4,F5,F6,F7,F8,F9,Fa,Fb,Fc,Fd,Fe,Ff,Fg,Fh,Fi,Fj,Fk,Fl,Fm,Fn,Fo],[]⟩ w) : Code.wp Try.prog (Code.region 9 nr9 false) Q ⟨#[u0,u1,u2,(.int .i64 ↑tips),(.int .i64 ↑roots),u5,(.pointer (some ⟨g6,0,none⟩)),u7,u8,u9,A0,A1,A2,A3,A4,A5,A6,A7,A8,A9,Aa,Ab,Ac,Ad,Ae,Af,Ag,Ah,Ai,Aj,Ak,Al,Am,An,Ao,Ap,Aq,Ar,As,At,Au,Av,Aw,Ax,Ay,Az,C0,C1,C2,C3,C4,C5,C6,C7,C8,C9,Ca,Cb,Cc,Cd,Ce,Cf,Cg,Ch,Ci,Cj,Ck,Cl,Cm,Cn,Co,Cp,Cq,Cr,Cs,Ct,Cu,Cv,Cw,Cx,Cy,Cz,D0,D1,D2,D3,D4,D5,D6,D7,D8,D9,Da,Db,Dc,Dd,De,Df,Dg,Dh,Di,Dj,Dk,Dl,Dm,Dn,Do,Dp,Dq,Dr,Ds,Dt,Du,Dv,Dw,Dx,Dy,Dz,E0,E1,E2,E3,E4,E5,E6,E7,E8,E9,Ea,Eb,Ec,Ed,Ee,Ef,Eg,Eh,Ei,Ej,Ek,El,Em,En,Eo,Ep,Eq,Er,Es,Et,Eu,Ev,Ew,Ex,Ey,Ez,F0,F1,F2,F3,F4,F5,F6,F7,F8,F9,Fa,Fb,Fc,Fd,Fe,Ff,Fg,Fh,Fi,Fj,Fk,Fl,Fm,Fn,Fo],[]⟩ w := by
  refine wp_region_l [0,1,2,3,4,5,6,7,8,9,10,11,12,13,14,15,16,17,18,19,20,21,22,23,24,25,26,27,28,29,30,31,32] (by kernel_rfl) ?_
  refine Hid.out ?_
  obtain ⟨bA,hA⟩ : ∃ b,b = decide (G.le ≤ G.t1 - m1) := ⟨_,rfl⟩
  refine nr9_1 hJ hin ht hw1 hw2 hm hA ?_
  intros
  by_cases h : bA = true
  · subst h
    obtain ⟨bB,hB⟩ : ∃ b,b = decide (G.le ≤ G.r1 - m2) := ⟨_,rfl⟩
    refine nr9_2 hJ hin ht hw1 hw2 hm hB ?_
    intros
    have h1 := of_decide_eq_true hA.symm
    have e : bB = decide (G.le ≤ G.t1 - m1 ∧ G.le ≤ G.r1 - m2) := by rw [hB]; simp [h1]
    subst e
    exact hidMk (hK _ _ _ _ _ _ _ _ _ _ _ _ _ _ _ _ _ _ _ _ _ _ _ _ _ _ _ _ _ _ _ _ )
  · have h : bA = false := by simpa using h
    have e : bA = decide (G.le ≤ G.t1 - m1 ∧ G.le ≤ G.r1 - m2) := by
      rw [h] at hA
      have h1 := of_decide_eq_false hA.symm
      rw [h]
      simp [h1]
    refine nr9_3 hJ hin ht hw1 hw2 hm h ?_
    intros
    rw [e]
    exact hidMk (hK _ _ _ _ _ _ _ _ _ _ _ _ _ _ _ _ _ _ _ _ _ _ _ _ _ _ _ _ _ _ _ _ )
set_option maxRecDepth 1000000 in
def nrB : Array Oper := #[⟨some 112,.fieldAddr 30 (.tmp 6) 0,0,"outright.go:306",#[],none⟩,⟨some 113,.fieldAddr 25 (.tmp 112) 1,0,"outright.go:306",#[⟨0,.data⟩],none⟩,⟨some 114,.fieldAddr 23 (.tmp 113) 0,0,"outright.go:306",#[⟨1,.data⟩],none⟩,⟨some 115,.load 3 (.tmp 114),3,"outright.go:306",#[⟨2,.data⟩],none⟩,⟨some 116,.move (.tmp 3),3,"outright.go:306",#[],none⟩,⟨some 117,.fieldAddr 30 (.tmp 6) 1,0,"outright.go:306",#[],none⟩,⟨some 118,.fieldAddr 27 (.tmp 117) 2,0,"outright.go:306",#[⟨5,.data⟩],none⟩,⟨some 119,.fieldAddr 23 (.tmp 118) 1,0,"outright.go:306",#[⟨6,.data⟩],none⟩,⟨some 120,.load 3 (.tmp 119),3,"outright.go:306",#[⟨7,.data⟩],none⟩,⟨some 121,.binOp .mul 3 (.tmp 116) (.tmp 120) 3,3,"outright.go:306",#[⟨4,.data⟩,⟨8,.data⟩],none⟩,⟨some 122,.binOp .sub 3 (.tmp 115) (.tmp 121) 3,3,"outright.go:306",#[⟨3,.data⟩,⟨9,.data⟩],none⟩,⟨some 123,.fieldAddr 30 (.tmp 6) 1,0,"outright.go:306",#[],none⟩,⟨some 124,.fieldAddr 27 (.tmp 123) 4,0,"outright.go:306",#[⟨11,.data⟩],none⟩,⟨some 125,.load 3 (.tmp 124),3,"outright.go:306",#[⟨12,.data⟩],none⟩,⟨some 126,.binOp .geq 3 (.tmp 122) (.tmp 125) 3,4,"outright.go:306",#[⟨10,.data⟩,⟨13,.data⟩],none⟩,⟨some 127,.move (.tmp 126),4,"outright.go:306",#[⟨14,.data⟩],none⟩,⟨some 128,.fieldAddr 30 (.tmp 6) 0,0,"outright.go:306",#[⟨15,.guard⟩],some (15,true)⟩,⟨some 129,.fieldAddr 25 (.tmp 128) 2,0,"outright.go:306",#[⟨16,.data⟩,⟨15,.guard⟩],some (15,true)⟩,⟨some 130,.fieldAddr 23 (.tmp 129) 0,0,"outright.go:306",#[⟨17,.data⟩,⟨15,.guard⟩],some (15,true)⟩,⟨some 131,.load 3 (.tmp 130),3,"outright.go:306",#[⟨18,.data⟩,⟨15,.guard⟩],some (15,true)⟩,⟨some 132,.move (.tmp 4),3,"outright.go:306",#[⟨15,.guard⟩],some (15,true)⟩,⟨some 133,.binOp .add 3 (.tmp 132) (.const (.int .i64 1)) 3,3,"outright.go:306",#[⟨20,.data⟩,⟨15,.guard⟩],some (15,true)⟩,⟨some 134,.fieldAddr 30 (.tmp 6) 1,0,"outright.go:306",#[⟨15,.guard⟩],some (15,true)⟩,⟨some 135,.fieldAddr 27 (.tmp 134) 3,0,"outright.go:306",#[⟨22,.data⟩,⟨15,.guard⟩],some (15,true)⟩,⟨some 136,.fieldAddr 23 (.tmp 135) 1,0,"outright.go:306",#[⟨23,.data⟩,⟨15,.guard⟩],some (15,true)⟩,⟨some 137,.load 3 (.tmp 136),3,"outright.go:306",#[⟨24,.data⟩,⟨15,.guard⟩],some (15,true)⟩,⟨some 138,.binOp .mul 3 (.tmp 133) (.tmp 137) 3,3,"outright.go:306",#[⟨21,.data⟩,⟨25,.data⟩,⟨15,.guard⟩],some (15,true)⟩,⟨some 139,.binOp .sub 3 (.tmp 131) (.tmp 138) 3,3,"outright.go:306",#[⟨19,.data⟩,⟨26,.data⟩,⟨15,.guard⟩],some (15,true)⟩,⟨some 140,.fieldAddr 30 (.tmp 6) 1,0,"outright.go:306",#[⟨15,.guard⟩],some (15,true)⟩,⟨some 141,.fieldAddr 27 (.tmp 140) 4,0,"outright.go:306",#[⟨28,.data⟩,⟨15,.guard⟩],some (15,true)⟩,⟨some 142,.load 3 (.tmp 141),3,"outright.go:306",#[⟨29,.data⟩,⟨15,.guard⟩],some (15,true)⟩,⟨some 143,.binOp .geq 3 (.tmp 139) (.tmp 142) 3,4,"outright.go:306",#[⟨27,.data⟩,⟨30,.data⟩,⟨15,.guard⟩],some (15,true)⟩,⟨some 144,.pick (.tmp 127) (.tmp 143) (.const (.bool false)),4,"outright.go:306",#[⟨15,.data⟩,⟨31,.data⟩],none⟩]
set_option maxHeartbeats 400000 in
set_option maxRecDepth 1000000 in
theorem nrB_1 {G : Jb} {sa : Option Addr} {sn sc : Nat} {w : World} {g6 : Nat} {tips roots : Nat} {m1 m2 : Int} {bA : Bool} {Q : Exit → Act → World → Prop} {u0 u1 u2 u5 u7 u8 u9 A0 A1 A2 A3 A4 A5 A6 A7 A8 A9 Aa Ab Ac Ad Ae Af Ag Ah Ai Aj Ak Al Am An Ao Ap Aq Ar As At Au Av Aw Ax Ay Az C0 C1 C2 C3 C4 C5 C6 C7 C8 C9 Ca Cb Cc Cd Ce Cf Cg Ch Ci Cj Ck Cl Cm Cn Co Cp Cq Cr Cs Ct Cu Cv Cw Cx Cy Cz D0 D1 D2 D3 D4 D5 D6 D7 D8 D9 Da Db Dc Dd De Df Dg Dh Di Dj Dk Dl Dm Dn Do Dp Dq Dr Ds Dt Du Dv Dw Dx Dy Dz E0 E1 E2 E3 E4 E5 E6 E7 E8 E9 Ea Eb Ec Ed Ee Ef Eg Eh Ei Ej Ek El Em En Eo Ep Eq Er Es Et Eu Ev Ew Ex Ey Ez F0 F1 F2 F3 F4 F5 F6 F7 F8 F9 Fa Fb Fc Fd Fe Ff Fg Fh Fi Fj Fk Fl Fm Fn Fo : Value} (hJ : Bk w g6 30 (jobC G (.slice sa sn sc))) (hin : G.In 1000) (ht : tips ≤ 10 ∧ roots ≤ 10) (hw1 : IntKind.i64.wrap ((tips : Int) * G.x2) = m1) (hw2 : IntKind.i64.wrap (((roots : Int) + 1) * G.y2) = m2) (hm : -1000 ≤ m1 ∧ m1 ≤ 1000 ∧ -1000 ≤ m2 ∧ m2 ≤ 1000) (hA : bA = decide (G.le ≤ G.t1 - m1)) (hK : ∀ (v112 v113 v114 v115 v116 v117 v118 v119 v120 v121 v122 v123 v124 v125 v126 v128 v129 v130 v131 v132 v133 v134 v135 v136 v137 v138 v139 v140 v141 v142 v143 v144 : Value),Hid (wpOps Try.prog nrB Q [16,17,18,19,20,21,22,23,24,25,26,27,28,29,30,31,32] ⟨#[u0,u1,u2,(.int .i64 ↑tips),(.int .i64 ↑roots),u5,(.pointer (some ⟨g6,0,none⟩)),u7,u8,u9,A0,A1,A2,A3,A4,A5,A6,A7,A8,A9,Aa,Ab,Ac,Ad,Ae,Af,Ag,Ah,Ai,Aj,Ak,Al,Am,An,Ao,Ap,Aq,Ar,As,At,Au,Av,Aw,Ax,Ay,Az,C0,C1,C2,C3,C4,C5,C6,C7,C8,C9,Ca,Cb,Cc,Cd,Ce,Cf,Cg,Ch,Ci,Cj,Ck,Cl,Cm,Cn,Co,Cp,Cq,Cr,Cs,Ct,Cu,Cv,Cw,Cx,Cy,Cz,D0,D1,D2,D3,D4,D5,D6,D7,D8,D9,Da,Db,Dc,Dd,De,Df,Dg,Dh,Di,Dj,Dk,Dl,Dm,Dn,Do,Dp,Dq,Dr,Ds,Dt,v112,v113,v114,v115,v116,v117,v118,v119,v120,v121,v122,v123,v124,v125,v126,(.bool bA),v128,v129,v130,v131,v132,v133,v134,v135,v136,v137,v138,v139,v140,v141,v142,v143,v144,Er,Es,Et,Eu,Ev,Ew,Ex,Ey,Ez,F0,F1,F2,F3,F4,F5,F6,F7,F8,F9,Fa,Fb,Fc,Fd,Fe,Ff,Fg,Fh,Fi,Fj,Fk,Fl,Fm,Fn,Fo],[]⟩ w)) : Hid (wpOps Try.prog nrB Q [0,1,2,3,4,5,6,7,8,9,10,11,12,13,14,15,16,17,18,19,20,21,22,23,24,25,26,27,28,29,30,31,32] ⟨#[u0,u1,u2,(.int .i64 ↑tips),(.int .i64 ↑roots),u5,(.pointer (some ⟨g6,0,none⟩)),u7,u8,u9,A0,A1,A2,A3,A4,A5,A6,A7,A8,A9,Aa,Ab,Ac,Ad,Ae,Af,Ag,Ah,Ai,Aj,Ak,Al,Am,An,Ao,Ap,Aq,Ar,As,At,Au,Av,Aw,Ax,Ay,Az,C0,C1,C2,C3,C4,C5,C6,C7,C8,C9,Ca,Cb,Cc,Cd,Ce,Cf,Cg,Ch,Ci,Cj,Ck,Cl,Cm,Cn,Co,Cp,Cq,Cr,Cs,Ct,Cu,Cv,Cw,Cx,Cy,Cz,D0,D1,D2,D3,D4,D5,D6,D7,D8,D9,Da,Db,Dc,Dd,De,Df,Dg,Dh,Di,Dj,Dk,Dl,Dm,Dn,Do,Dp,Dq,Dr,Ds,Dt,Du,Dv,Dw,Dx,Dy,Dz,E0,E1,E2,E3,E4,E5,E6,E7,E8,E9,Ea,Eb,Ec,Ed,Ee,Ef,Eg,Eh,Ei,Ej,Ek,El,Em,En,Eo,Ep,Eq,Er,Es,Et,Eu,Ev,Ew,Ex,Ey,Ez,F0,F1,F2,F3,F4,F5,F6,F7,F8,F9,Fa,Fb,Fc,Fd,Fe,Ff,Fg,Fh,Fi,Fj,Fk,Fl,Fm,Fn,Fo],[]⟩ w) := by
  obtain ⟨hm1,hm2,hm3,hm4⟩ := hm
  obtain ⟨ht1,ht2⟩ := ht
  have e1 := hin.t1
  have e2 := hin.r1
  have q1 : IntKind.i64.wrap ((tips : Int) + 1) = (tips : Int) + 1 := IntWalk.i64_in _ (by omega)
  have q2 : IntKind.i64.wrap ((roots : Int) + 1) = (roots : Int) + 1 := IntWalk.i64_in _ (by omega)
  have q3 : IntKind.i64.wrap (G.t1 - m1) = G.t1 - m1 := IntWalk.i64_in _ (by omega)
  have q4 : IntKind.i64.wrap (G.r1 - m2) = G.r1 - m2 := IntWalk.i64_in _ (by omega)
  refine hL_take (o := ⟨some 112,.fieldAddr 30 (.tmp 6) 0,0,"outright.go:306",#[],none⟩) (v := ?_) (by kernel_rfl) (by kernel_rfl) ?_ ?_
  rotate_left
  · (skip; go_simp <;> with_reducible rfl)
  (try simp only [Act.put,aT,aZ,aS])
  refine hL_take (o := ⟨some 113,.fieldAddr 25 (.tmp 112) 1,0,"outright.go:306",#[⟨0,.data⟩],none⟩) (v := ?_) (by kernel_rfl) (by kernel_rfl) ?_ ?_
  rotate_left
  · (skip; go_simp <;> with_reducible rfl)
  (try simp only [Act.put,aT,aZ,aS])
  refine hL_take (o := ⟨some 114,.fieldAddr 23 (.tmp 113) 0,0,"outright.go:306",#[⟨1,.data⟩],none⟩) (v := ?_) (by kernel_rfl) (by kernel_rfl) ?_ ?_
  rotate_left
  · (skip; go_simp <;> with_reducible rfl)
  (try simp only [Act.put,aT,aZ,aS])
  refine hL_take (o := ⟨some 115,.load 3 (.tmp 114),3,"outright.go:306",#[⟨2,.data⟩],none⟩) (v := ?_) (by kernel_rfl) (by kernel_rfl) ?_ ?_
  rotate_left
  · ((have d0 := hJ.at_ 2 (.int .i64 G.t1) rfl; have d1 := hJ.at_ 11 (.int .i64 G.x2) rfl; have d2 := hJ.at_ 14 (.int .i64 G.le) rfl; have d3 := hJ.at_ 4 (.int .i64 G.r1) rfl; have d4 := hJ.at_ 13 (.int .i64 G.y2) rfl); go_simp <;> with_reducible rfl)
  (try simp only [Act.put,aT,aZ,aS])
  refine hL_take (o := ⟨some 116,.move (.tmp 3),3,"outright.go:306",#[],none⟩) (v := ?_) (by kernel_rfl) (by kernel_rfl) ?_ ?_
  rotate_left
  · (skip; go_simp <;> with_reducible rfl)
  (try simp only [Act.put,aT,aZ,aS])
  refine hL_take (o := ⟨some 117,.fieldAddr 30 (.tmp 6) 1,0,"outright.go:306",#[],none⟩) (v := ?_) (by kernel_rfl) (by kernel_rfl) ?_ ?_
  rotate_left
  · (skip; go_simp <;> with_reducible rfl)
  (try simp only [Act.put,aT,aZ,aS])
  refine hL_take (o := ⟨some 118,.fieldAddr 27 (.tmp 117) 2,0,"outright.go:306",#[⟨5,.data⟩],none⟩) (v := ?_) (by kernel_rfl) (by kernel_rfl) ?_ ?_
  rotate_left
  · (skip; go_simp <;> with_reducible rfl)
  (try simp only [Act.put,aT,aZ,aS])
  refine hL_take (o := ⟨some 119,.fieldAddr 23 (.tmp 118) 1,0,"outright.go:306",#[⟨6,.data⟩],none⟩) (v := ?_) (by kernel_rfl) (by kernel_rfl) ?_ ?_
  rotate_left
  · (skip; go_simp <;> with_reducible rfl)
  (try simp only [Act.put,aT,aZ,aS])
  refine hL_take (o := ⟨some 120,.load 3 (.tmp 119),3,"outright.go:306",#[⟨7,.data⟩],none⟩) (v := ?_) (by kernel_rfl) (by kernel_rfl) ?_ ?_
  rotate_left
  · ((have d0 := hJ.at_ 2 (.int .i64 G.t1) rfl; have d1 := hJ.at_ 11 (.int .i64 G.x2) rfl; have d2 := hJ.at_ 14 (.int .i64 G.le) rfl; have d3 := hJ.at_ 4 (.int .i64 G.r1) rfl; have d4 := hJ.at_ 13 (.int .i64 G.y2) rfl); go_simp <;> with_reducible rfl)
  (try simp only [Act.put,aT,aZ,aS])
  refine hL_take (o := ⟨some 121,.binOp .mul 3 (.tmp 116) (.tmp 120) 3,3,"outright.go:306",#[⟨4,.data⟩,⟨8,.data⟩],none⟩) (v := .int .i64 m1) (by kernel_rfl) (by kernel_rfl) ?_ ?_
  · (skip; go_simp <;> with_reducible rfl)
  (try simp only [Act.put,aT,aZ,aS])
  refine hL_take (o := ⟨some 122,.binOp .sub 3 (.tmp 115) (.tmp 121) 3,3,"outright.go:306",#[⟨3,.data⟩,⟨9,.data⟩],none⟩) (v := ?_) (by kernel_rfl) (by kernel_rfl) ?_ ?_
  rotate_left
  · (skip; go_simp <;> with_reducible rfl)
  (try simp only [Act.put,aT,aZ,aS])
  refine hL_take (o := ⟨some 123,.fieldAddr 30 (.tmp 6) 1,0,"outright.go:306",#[],none⟩) (v := ?_) (by kernel_rfl) (by kernel_rfl) ?_ ?_
  rotate_left
  · (skip; go_simp <;> with_reducible rfl)
  (try simp only [Act.put,aT,aZ,aS])
  refine hL_take (o := ⟨some 124,.fieldAddr 27 (.tmp 123) 4,0,"outright.go:306",#[⟨11,.data⟩],none⟩) (v := ?_) (by kernel_rfl) (by kernel_rfl) ?_ ?_
  rotate_left
  · (skip; go_simp <;> with_reducible rfl)
  (try simp only [Act.put,aT,aZ,aS])
  refine hL_take (o := ⟨some 125,.load 3 (.tmp 124),3,"outright.go:306",#[⟨12,.data⟩],none⟩) (v := ?_) (by kernel_rfl) (by kernel_rfl) ?_ ?_
  rotate_left
  · ((have d0 := hJ.at_ 2 (.int .i64 G.t1) rfl; have d1 := hJ.at_ 11 (.int .i64 G.x2) rfl; have d2 := hJ.at_ 14 (.int .i64 G.le) rfl; have d3 := hJ.at_ 4 (.int .i64 G.r1) rfl; have d4 := hJ.at_ 13 (.int .i64 G.y2) rfl); go_simp <;> with_reducible rfl)
  (try simp only [Act.put,aT,aZ,aS])
  refine hL_take (o := ⟨some 126,.binOp .geq 3 (.tmp 122) (.tmp 125) 3,4,"outright.go:306",#[⟨10,.data⟩,⟨13,.data⟩],none⟩) (v := .bool bA) (by kernel_rfl) (by kernel_rfl) ?_ ?_
  · (subst hA; go_simp <;> with_reducible rfl)
  (try simp only [Act.put,aT,aZ,aS])
  refine hL_take (o := ⟨some 127,.move (.tmp 126),4,"outright.go:306",#[⟨14,.data⟩],none⟩) (v := .bool bA) (by kernel_rfl) (by kernel_rfl) ?_ ?_
  · (skip; go_simp <;> with_reducible rfl)
  (try simp only [Act.put,aT,aZ,aS])
  exact hK _ _ _ _ _ _ _ _ _ _ _ _ _ _ _ _ _ _ _ _ _ _ _ _ _ _ _ _ _ _ _ _ 
set_option maxHeartbeats 400000 in
set_option maxRecDepth 1000000 in
theorem nrB_2 {G : Jb} {sa : Option Addr} {sn sc : Nat} {w : World} {g6 : Nat} {tips roots : Nat} {m1 m2 : Int} {bB : Bool} {Q : Exit → Act → World → Prop} {u0 u1 u2 u5 u7 u8 u9 A0 A1 A2 A3 A4 A5 A6 A7 A8 A9 Aa Ab Ac Ad Ae Af Ag Ah Ai Aj Ak Al Am An Ao Ap Aq Ar As At Au Av Aw Ax Ay Az C0 C1 C2 C3 C4 C5 C6 C7 C8 C9 Ca Cb Cc Cd Ce Cf Cg Ch Ci Cj Ck Cl Cm Cn Co Cp Cq Cr Cs Ct Cu Cv Cw Cx Cy Cz D0 D1 D2 D3 D4 D5 D6 D7 D8 D9 Da Db Dc Dd De Df Dg Dh Di Dj Dk Dl Dm Dn Do Dp Dq Dr Ds Dt Du Dv Dw Dx Dy Dz E0 E1 E2 E3 E4 E5 E6 E7 E8 Ea Eb Ec Ed Ee Ef Eg Eh Ei Ej Ek El Em En Eo Ep Eq Er Es Et Eu Ev Ew Ex Ey Ez F0 F1 F2 F3 F4 F5 F6 F7 F8 F9 Fa Fb Fc Fd Fe Ff Fg Fh Fi Fj Fk Fl Fm Fn Fo : Value} (hJ : Bk w g6 30 (jobC G (.slice sa sn sc))) (hin : G.In 1000) (ht : tips ≤ 10 ∧ roots ≤ 10) (hw1 : IntKind.i64.wrap ((tips : Int) * G.x2) = m1) (hw2 : IntKind.i64.wrap (((roots : Int) + 1) * G.y2) = m2) (hm : -1000 ≤ m1 ∧ m1 ≤ 1000 ∧ -1000 ≤ m2 ∧ m2 ≤ 1000) (hB : bB = decide (G.le ≤ G.r1 - m2)) (hK : ∀ (v112 v113 v114 v115 v116 v117 v118 v119 v120 v121 v122 v123 v124 v125 v126 v127 v128 v129 v130 v131 v132 v133 v134 v135 v136 v137 v138 v139 v140 v141 v142 v143 : Value),Hid (wpOps Try.prog nrB Q [] ⟨#[u0,u1,u2,(.int .i64 ↑tips),(.int .i64 ↑roots),u5,(.pointer (some ⟨g6,0,none⟩)),u7,u8,u9,A0,A1,A2,A3,A4,A5,A6,A7,A8,A9,Aa,Ab,Ac,Ad,Ae,Af,Ag,Ah,Ai,Aj,Ak,Al,Am,An,Ao,Ap,Aq,Ar,As,At,Au,Av,Aw,Ax,Ay,Az,C0,C1,C2,C3,C4,C5,C6,C7,C8,C9,Ca,Cb,Cc,Cd,Ce,Cf,Cg,Ch,Ci,Cj,Ck,Cl,Cm,Cn,Co,Cp,Cq,Cr,Cs,Ct,Cu,Cv,Cw,Cx,Cy,Cz,D0,D1,D2,D3,D4,D5,D6,D7,D8,D9,Da,Db,Dc,Dd,De,Df,Dg,Dh,Di,Dj,Dk,Dl,Dm,Dn,Do,Dp,Dq,Dr,Ds,Dt,v112,v113,v114,v115,v116,v117,v118,v119,v120,v121,v122,v123,v124,v125,v126,v127,v128,v129,v130,v131,v132,v133,v134,v135,v136,v137,v138,v139,v140,v141,v142,v143,(.bool bB),Er,Es,Et,Eu,Ev,Ew,Ex,Ey,Ez,F0,F1,F2,F3,F4,F5,F6,F7,F8,F9,Fa,Fb,Fc,Fd,Fe,Ff,Fg,Fh,Fi,Fj,Fk,Fl,Fm,Fn,Fo],[]⟩ w)) : Hid (wpOps Try.prog nrB Q [16,17,18,19,20,21,22,23,24,25,26,27,28,29,30,31,32] ⟨#[u0,u1,u2,(.int .i64 ↑tips),(.int .i64 ↑roots),u5,(.pointer (some ⟨g6,0,none⟩)),u7,u8,u9,A0,A1,A2,A3,A4,A5,A6,A7,A8,A9,Aa,Ab,Ac,Ad,Ae,Af,Ag,Ah,Ai,Aj,Ak,Al,Am,An,Ao,Ap,Aq,Ar,As,At,Au,Av,Aw,Ax,Ay,Az,C0,C1,C2,C3,C4,C5,C6,C7,C8,C9,Ca,Cb,Cc,Cd,Ce,Cf,Cg,Ch,Ci,Cj,Ck,Cl,Cm,Cn,Co,Cp,Cq,Cr,Cs,Ct,Cu,Cv,Cw,Cx,Cy,Cz,D0,D1,D2,D3,D4,D5,D6,D7,D8,D9,Da,Db,Dc,Dd,De,Df,Dg,Dh,Di,Dj,Dk,Dl,Dm,Dn,Do,Dp,Dq,Dr,Ds,Dt,Du,Dv,Dw,Dx,Dy,Dz,E0,E1,E2,E3,E4,E5,E6,E7,E8,(.bool true),Ea,Eb,Ec,Ed,Ee,Ef,Eg,Eh,Ei,Ej,Ek,El,Em,En,Eo,Ep,Eq,Er,Es,Et,Eu,Ev,Ew,Ex,Ey,Ez,F0,F1,F2,F3,F4,F5,F6,F7,F8,F9,Fa,Fb,Fc,Fd,Fe,Ff,Fg,Fh,Fi,Fj,Fk,Fl,Fm,Fn,Fo],[]⟩ w) := by
  obtain ⟨hm1,hm2,hm3,hm4⟩ := hm
  obtain ⟨ht1,ht2⟩ := ht
  have e1 := hin.t1
  have e2 := hin.r1
  have q1 : IntKind.i64.wrap ((tips : Int) + 1) = (tips : Int) + 1 := IntWalk.i64_in _ (by omega)
  have q2 : IntKind.i64.wrap ((roots : Int) + 1) = (roots : Int) + 1 := IntWalk.i64_in _ (by omega)
  have q3 : IntKind.i64.wrap (G.t1 - m1) = G.t1 - m1 := IntWalk.i64_in _ (by omega)
  have q4 : IntKind.i64.wrap (G.r1 - m2) = G.r1 - m2 := IntWalk.i64_in _ (by omega)
  refine hL_take (o := ⟨some 128,.fieldAddr 30 (.tmp 6) 0,0,"outright.go:306",#[⟨15,.guard⟩],some (15,true)⟩) (v := ?_) (by kernel_rfl) (by kernel_rfl) ?_ ?_
  rotate_left
  · (skip; go_simp <;> with_reducible rfl)
  (try simp only [Act.put,aT,aZ,aS])
  refine hL_take (o := ⟨some 129,.fieldAddr 25 (.tmp 128) 2,0,"outright.go:306",#[⟨16,.data⟩,⟨15,.guard⟩],some (15,true)⟩) (v := ?_) (by kernel_rfl) (by kernel_rfl) ?_ ?_
  rotate_left
  · (skip; go_simp <;> with_reducible rfl)
  (try simp only [Act.put,aT,aZ,aS])
  refine hL_take (o := ⟨some 130,.fieldAddr 23 (.tmp 129) 0,0,"outright.go:306",#[⟨17,.data⟩,⟨15,.guard⟩],some (15,true)⟩) (v := ?_) (by kernel_rfl) (by kernel_rfl) ?_ ?_
  rotate_left
  · (skip; go_simp <;> with_reducible rfl)
  (try simp only [Act.put,aT,aZ,aS])
  refine hL_take (o := ⟨some 131,.load 3 (.tmp 130),3,"outright.go:306",#[⟨18,.data⟩,⟨15,.guard⟩],some (15,true)⟩) (v := ?_) (by kernel_rfl) (by kernel_rfl) ?_ ?_
  rotate_left
  · ((have d0 := hJ.at_ 2 (.int .i64 G.t1) rfl; have d1 := hJ.at_ 11 (.int .i64 G.x2) rfl; have d2 := hJ.at_ 14 (.int .i64 G.le) rfl; have d3 := hJ.at_ 4 (.int .i64 G.r1) rfl; have d4 := hJ.at_ 13 (.int .i64 G.y2) rfl); go_simp <;> with_reducible rfl)
  (try simp only [Act.put,aT,aZ,aS])
  refine hL_take (o := ⟨some 132,.move (.tmp 4),3,"outright.go:306",#[⟨15,.guard⟩],some (15,true)⟩) (v := ?_) (by kernel_rfl) (by kernel_rfl) ?_ ?_
  rotate_left
  · (skip; go_simp <;> with_reducible rfl)
  (try simp only [Act.put,aT,aZ,aS])
  refine hL_take (o := ⟨some 133,.binOp .add 3 (.tmp 132) (.const (.int .i64 1)) 3,3,"outright.go:306",#[⟨20,.data⟩,⟨15,.guard⟩],some (15,true)⟩) (v := ?_) (by kernel_rfl) (by kernel_rfl) ?_ ?_
  rotate_left
  · (skip; go_simp <;> with_reducible rfl)
  (try simp only [Act.put,aT,aZ,aS])
  refine hL_take (o := ⟨some 134,.fieldAddr 30 (.tmp 6) 1,0,"outright.go:306",#[⟨15,.guard⟩],some (15,true)⟩) (v := ?_) (by kernel_rfl) (by kernel_rfl) ?_ ?_
  rotate_left
  · (skip; go_simp <;> with_reducible rfl)
  (try simp only [Act.put,aT,aZ,aS])
  refine hL_take (o := ⟨some 135,.fieldAddr 27 (.tmp 134) 3,0,"outright.go:306",#[⟨22,.data⟩,⟨15,.guard⟩],some (15,true)⟩) (v := ?_) (by kernel_rfl) (by kernel_rfl) ?_ ?_
  rotate_left
  · (skip; go_simp <;> with_reducible rfl)
  (try simp only [Act.put,aT,aZ,aS])
  refine hL_take (o := ⟨some 136,.fieldAddr 23 (.tmp 135) 1,0,"outright.go:306",#[⟨23,.data⟩,⟨15,.guard⟩],some (15,true)⟩) (v := ?_) (by kernel_rfl) (by kernel_rfl) ?_ ?_
  rotate_left
  · (skip; go_simp <;> with_reducible rfl)
  (try simp only [Act.put,aT,aZ,aS])
  refine hL_take (o := ⟨some 137,.load 3 (.tmp 136),3,"outright.go:306",#[⟨24,.data⟩,⟨15,.guard⟩],some (15,true)⟩) (v := ?_) (by kernel_rfl) (by kernel_rfl) ?_ ?_
  rotate_left
  · ((have d0 := hJ.at_ 2 (.int .i64 G.t1) rfl; have d1 := hJ.at_ 11 (.int .i64 G.x2) rfl; have d2 := hJ.at_ 14 (.int .i64 G.le) rfl; have d3 := hJ.at_ 4 (.int .i64 G.r1) rfl; have d4 := hJ.at_ 13 (.int .i64 G.y2) rfl); go_simp <;> with_reducible rfl)
  (try simp only [Act.put,aT,aZ,aS])
  refine hL_take (o := ⟨some 138,.binOp .mul 3 (.tmp 133) (.tmp 137) 3,3,"outright.go:306",#[⟨21,.data⟩,⟨25,.data⟩,⟨15,.guard⟩],some (15,true)⟩) (v := .int .i64 m2) (by kernel_rfl) (by kernel_rfl) ?_ ?_
  · (skip; go_simp <;> with_reducible rfl)
  (try simp only [Act.put,aT,aZ,aS])
  refine hL_take (o := ⟨some 139,.binOp .sub 3 (.tmp 131) (.tmp 138) 3,3,"outright.go:306",#[⟨19,.data⟩,⟨26,.data⟩,⟨15,.guard⟩],some (15,true)⟩) (v := ?_) (by kernel_rfl) (by kernel_rfl) ?_ ?_
  rotate_left
  · (skip; go_simp <;> with_reducible rfl)
  (try simp only [Act.put,aT,aZ,aS])
  refine hL_take (o := ⟨some 140,.fieldAddr 30 (.tmp 6) 1,0,"outright.go:306",#[⟨15,.guard⟩],some (15,true)⟩) (v := ?_) (by kernel_rfl) (by kernel_rfl) ?_ ?_
  rotate_left
  · (skip; go_simp <;> with_reducible rfl)
  (try simp only [Act.put,aT,aZ,aS])
  refine hL_take (o := ⟨some 141,.fieldAddr 27 (.tmp 140) 4,0,"outright.go:306",#[⟨28,.data⟩,⟨15,.guard⟩],some (15,true)⟩) (v := ?_) (by kernel_rfl) (by kernel_rfl) ?_ ?_
  rotate_left
  · (skip; go_simp <;> with_reducible rfl)
  (try simp only [Act.put,aT,aZ,aS])
  refine hL_take (o := ⟨some 142,.load 3 (.tmp 141),3,"outright.go:306",#[⟨29,.data⟩,⟨15,.guard⟩],some (15,true)⟩) (v := ?_) (by kernel_rfl) (by kernel_rfl) ?_ ?_
  rotate_left
  · ((have d0 := hJ.at_ 2 (.int .i64 G.t1) rfl; have d1 := hJ.at_ 11 (.int .i64 G.x2) rfl; have d2 := hJ.at_ 14 (.int .i64 G.le) rfl; have d3 := hJ.at_ 4 (.int .i64 G.r1) rfl; have d4 := hJ.at_ 13 (.int .i64 G.y2) rfl); go_simp <;> with_reducible rfl)
  (try simp only [Act.put,aT,aZ,aS])
  refine hL_take (o := ⟨some 143,.binOp .geq 3 (.tmp 139) (.tmp 142) 3,4,"outright.go:306",#[⟨27,.data⟩,⟨30,.data⟩,⟨15,.guard⟩],some (15,true)⟩) (v := .bool bB) (by kernel_rfl) (by kernel_rfl) ?_ ?_
  · (subst hB; go_simp <;> with_reducible rfl)
  (try simp only [Act.put,aT,aZ,aS])
  refine hL_take (o := ⟨some 144,.pick (.tmp 127) (.tmp 143) (.const (.bool false)),4,"outright.go:306",#[⟨15,.data⟩,⟨31,.data⟩],none⟩) (v := .bool bB) (by kernel_rfl) (by kernel_rfl) ?_ ?_
  · (skip; go_simp <;> with_reducible rfl)
  (try simp only [Act.put,aT,aZ,aS])
  exact hK _ _ _ _ _ _ _ _ _ _ _ _ _ _ _ _ _ _ _ _ _ _ _ _ _ _ _ _ _ _ _ _ 
set_option maxHeartbeats 400000 in
set_option maxRecDepth 1000000 in
theorem nrB_3 {G : Jb} {sa : Option Addr} {sn sc : Nat} {w : World} {g6 : Nat} {tips roots : Nat} {m1 m2 : Int} {b1 : Bool} {Q : Exit → Act → World → Prop} {u0 u1 u2 u5 u7 u8 u9 A0 A1 A2 A3 A4 A5 A6 A7 A8 A9 Aa Ab Ac Ad Ae Af Ag Ah Ai Aj Ak Al Am An Ao Ap Aq Ar As At Au Av Aw Ax Ay Az C0 C1 C2 C3 C4 C5 C6 C7 C8 C9 Ca Cb Cc Cd Ce Cf Cg Ch Ci Cj Ck Cl Cm Cn Co Cp Cq Cr Cs Ct Cu Cv Cw Cx Cy Cz D0 D1 D2 D3 D4 D5 D6 D7 D8 D9 Da Db Dc Dd De Df Dg Dh Di Dj Dk Dl Dm Dn Do Dp Dq Dr Ds Dt Du Dv Dw Dx Dy Dz E0 E1 E2 E3 E4 E5 E6 E7 E8 Ea Eb Ec Ed Ee Ef Eg Eh Ei Ej Ek El Em En Eo Ep Eq Er Es Et Eu Ev Ew Ex Ey Ez F0 F1 F2 F3 F4 F5 F6 F7 F8 F9 Fa Fb Fc Fd Fe Ff Fg Fh Fi Fj Fk Fl Fm Fn Fo : Value} (hJ : Bk w g6 30 (jobC G (.slice sa sn sc))) (hin : G.In 1000) (ht : tips ≤ 10 ∧ roots ≤ 10) (hw1 : IntKind.i64.wrap ((tips : Int) * G.x2) = m1) (hw2 : IntKind.i64.wrap (((roots : Int) + 1) * G.y2) = m2) (hm : -1000 ≤ m1 ∧ m1 ≤ 1000 ∧ -1000 ≤ m2 ∧ m2 ≤ 1000) (hb : b1 = false) (hK : ∀ (v112 v113 v114 v115 v116 v117 v118 v119 v120 v121 v122 v123 v124 v125 v126 v127 v128 v129 v130 v131 v132 v133 v134 v135 v136 v137 v138 v139 v140 v141 v142 v143 : Value),Hid (wpOps Try.prog nrB Q [] ⟨#[u0,u1,u2,(.int .i64 ↑tips),(.int .i64 ↑roots),u5,(.pointer (some ⟨g6,0,none⟩)),u7,u8,u9,A0,A1,A2,A3,A4,A5,A6,A7,A8,A9,Aa,Ab,Ac,Ad,Ae,Af,Ag,Ah,Ai,Aj,Ak,Al,Am,An,Ao,Ap,Aq,Ar,As,At,Au,Av,Aw,Ax,Ay,Az,C0,C1,C2,C3,C4,C5,C6,C7,C8,C9,Ca,Cb,Cc,Cd,Ce,Cf,Cg,Ch,Ci,Cj,Ck,Cl,Cm,Cn,Co,Cp,Cq,Cr,Cs,Ct,Cu,Cv,Cw,Cx,Cy,Cz,D0,D1,D2,D3,D4,D5,D6,D7,D8,D9,Da,Db,Dc,Dd,De,Df,Dg,Dh,Di,Dj,Dk,Dl,Dm,Dn,Do,Dp,Dq,Dr,Ds,Dt,v112,v113,v114,v115,v116,v117,v118,v119,v120,v121,v122,v123,v124,v125,v126,v127,v128,v129,v130,v131,v132,v133,v134,v135,v136,v137,v138,v139,v140,v141,v142,v143,(.bool b1),Er,Es,Et,Eu,Ev,Ew,Ex,Ey,Ez,F0,F1,F2,F3,F4,F5,F6,F7,F8,F9,Fa,Fb,Fc,Fd,Fe,Ff,Fg,Fh,Fi,Fj,Fk,Fl,Fm,Fn,Fo],[]⟩ w)) : Hid (wpOps Try.prog nrB Q [16,17,18,19,20,21,22,23,24,25,26,27,28,29,30,31,32] ⟨#[u0,u1,u2,(.int .i64 ↑tips),(.int .i64 ↑roots),u5,(.pointer (some ⟨g6,0,none⟩)),u7,u8,u9,A0,A1,A2,A3,A4,A5,A6,A7,A8,A9,Aa,Ab,Ac,Ad,Ae,Af,Ag,Ah,Ai,Aj,Ak,Al,Am,An,Ao,Ap,Aq,Ar,As,At,Au,Av,Aw,Ax,Ay,Az,C0,C1,C2,C3,C4,C5,C6,C7,C8,C9,Ca,Cb,Cc,Cd,Ce,Cf,Cg,Ch,Ci,Cj,Ck,Cl,Cm,Cn,Co,Cp,Cq,Cr,Cs,Ct,Cu,Cv,Cw,Cx,Cy,Cz,D0,D1,D2,D3,D4,D5,D6,D7,D8,D9,Da,Db,Dc,Dd,De,Df,Dg,Dh,Di,Dj,Dk,Dl,Dm,Dn,Do,Dp,Dq,Dr,Ds,Dt,Du,Dv,Dw,Dx,Dy,Dz,E0,E1,E2,E3,E4,E5,E6,E7,E8,(.bool b1),Ea,Eb,Ec,Ed,Ee,Ef,Eg,Eh,Ei,Ej,Ek,El,Em,En,Eo,Ep,Eq,Er,Es,Et,Eu,Ev,Ew,Ex,Ey,Ez,F0,F1,F2,F3,F4,F5,F6,F7,F8,F9,Fa,Fb,Fc,Fd,Fe,Ff,Fg,Fh,Fi,Fj,Fk,Fl,Fm,Fn,Fo],[]⟩ w) := by
  obtain ⟨hm1,hm2,hm3,hm4⟩ := hm
  obtain ⟨ht1,ht2⟩ := ht
  have e1 := hin.t1
  have e2 := hin.r1
  have q1 : IntKind.i64.wrap ((tips : Int) + 1) = (tips : Int) + 1 := IntWalk.i64_in _ (by omega)
  have q2 : IntKind.i64.wrap ((roots : Int) + 1) = (roots : Int) + 1 := IntWalk.i64_in _ (by omega)
  have q3 : IntKind.i64.wrap (G.t1 - m1) = G.t1 - m1 := IntWalk.i64_in _ (by omega)
  have q4 : IntKind.i64.wrap (G.r1 - m2) = G.r1 - m2 := IntWalk.i64_in _ (by omega)
  have hz := fun a rest => @hL_skipD Try.prog nrB Q a w 16 rest (some 128)
  refine hz _ _ ?_ ?_
  · subst hb
    kernel_rfl
  clear hz
  (try simp only [Act.put,aT,aZ,aS])
  have hz := fun a rest => @hL_skipD Try.prog nrB Q a w 17 rest (some 129)
  refine hz _ _ ?_ ?_
  · subst hb
    kernel_rfl
  clear hz
  (try simp only [Act.put,aT,aZ,aS])
  have hz := fun a rest => @hL_skipD Try.prog nrB Q a w 18 rest (some 130)
  refine hz _ _ ?_ ?_
  · subst hb
    kernel_rfl
  clear hz
  (try simp only [Act.put,aT,aZ,aS])
  have hz := fun a rest => @hL_skipD Try.prog nrB Q a w 19 rest (some 131)
  refine hz _ _ ?_ ?_
  · subst hb
    kernel_rfl
  clear hz
  (try simp only [Act.put,aT,aZ,aS])
  have hz := fun a rest => @hL_skipD Try.prog nrB Q a w 20 rest (some 132)
  refine hz _ _ ?_ ?_
  · subst hb
    kernel_rfl
  clear hz
  (try simp only [Act.put,aT,aZ,aS])
  have hz := fun a rest => @hL_skipD Try.prog nrB Q a w 21 rest (some 133)
  refine hz _ _ ?_ ?_
  · subst hb
    kernel_rfl
  clear hz
  (try simp only [Act.put,aT,aZ,aS])
  have hz := fun a rest => @hL_skipD Try.prog nrB Q a w 22 rest (some 134)
  refine hz _ _ ?_ ?_
  · subst hb
    kernel_rfl
  clear hz
  (try simp only [Act.put,aT,aZ,aS])
  have hz := fun a rest => @hL_skipD Try.prog nrB Q a w 23 rest (some 135)
  refine hz _ _ ?_ ?_
  · subst hb
    kernel_rfl
  clear hz
  (try simp only [Act.put,aT,aZ,aS])
  have hz := fun a rest => @hL_skipD Try.prog nrB Q a w 24 rest (some 136)
  refine hz _ _ ?_ ?_
  · subst hb
    kernel_rfl
  clear hz
  (try simp only [Act.put,aT,aZ,aS])
  have hz := fun a rest => @hL_skipD Try.prog nrB Q a w 25 rest (some 137)
  refine hz _ _ ?_ ?_
  · subst hb
    kernel_rfl
  clear hz
  (try simp only [Act.put,aT,aZ,aS])
  have hz := fun a rest => @hL_skipD Try.prog nrB Q a w 26 rest (some 138)
  refine hz _ _ ?_ ?_
  · subst hb
    kernel_rfl
  clear hz
  (try simp only [Act.put,aT,aZ,aS])
  have hz := fun a rest => @hL_skipD Try.prog nrB Q a w 27 rest (some 139)
  refine hz _ _ ?_ ?_
  · subst hb
    kernel_rfl
  clear hz
  (try simp only [Act.put,aT,aZ,aS])
  have hz := fun a rest => @hL_skipD Try.prog nrB Q a w 28 rest (some 140)
  refine hz _ _ ?_ ?_
  · subst hb
    kernel_rfl
  clear hz
  (try simp only [Act.put,aT,aZ,aS])
  have hz := fun a rest => @hL_skipD Try.prog nrB Q a w 29 rest (some 141)
  refine hz _ _ ?_ ?_
  · subst hb
    kernel_rfl
  clear hz
  (try simp only [Act.put,aT,aZ,aS])
  have hz := fun a rest => @hL_skipD Try.prog nrB Q a w 30 rest (some 142)
  refine hz _ _ ?_ ?_
  · subst hb
    kernel_rfl
  clear hz
  (try simp only [Act.put,aT,aZ,aS])
  have hz := fun a rest => @hL_skipD Try.prog nrB Q a w 31 rest (some 143)
  refine hz _ _ ?_ ?_
  · subst hb
    kernel_rfl
  clear hz
  (try simp only [Act.put,aT,aZ,aS])
  refine hL_take (o := ⟨some 144,.pick (.tmp 127) (.tmp 143) (.const (.bool false)),4,"outright.go:306",#[⟨15,.data⟩,⟨31,.data⟩],none⟩) (v := .bool b1) (by kernel_rfl) (by kernel_rfl) ?_ ?_
  · (subst hb; go_simp <;> with_reducible rfl)
  (try simp only [Act.put,aT,aZ,aS])
  exact hK _ _ _ _ _ _ _ _ _ _ _ _ _ _ _ _ _ _ _ _ _ _ _ _ _ _ _ _ _ _ _ _ 
set_option maxHeartbeats 400000 in
set_option maxRecDepth 1000000 in
theorem nrB_run {G : Jb} {sa : Option Addr} {sn sc : Nat} {w : World} {g6 : Nat} {tips roots : Nat} {m1 m2 : Int} {Q : Exit → Act → World → Prop} {u0 u1 u2 u5 u7 u8 u9 A0 A1 A2 A3 A4 A5 A6 A7 A8 A9 Aa Ab Ac Ad Ae Af Ag Ah Ai Aj Ak Al Am An Ao Ap Aq Ar As At Au Av Aw Ax Ay Az C0 C1 C2 C3 C4 C5 C6 C7 C8 C9 Ca Cb Cc Cd Ce Cf Cg Ch Ci Cj Ck Cl Cm Cn Co Cp Cq Cr Cs Ct Cu Cv Cw Cx Cy Cz D0 D1 D2 D3 D4 D5 D6 D7 D8 D9 Da Db Dc Dd De Df Dg Dh Di Dj Dk Dl Dm Dn Do Dp Dq Dr Ds Dt Du Dv Dw Dx Dy Dz E0 E1 E2 E3 E4 E5 E6 E7 E8 E9 Ea Eb Ec Ed Ee Ef Eg Eh Ei Ej Ek El Em En Eo Ep Eq Er Es Et Eu Ev Ew Ex Ey Ez F0 F1 F2 F3 F4 F5 F6 F7 F8 F9 Fa Fb Fc Fd Fe Ff Fg Fh Fi Fj Fk Fl Fm Fn Fo : Value} (hJ : Bk w g6 30 (jobC G (.slice sa sn sc))) (hin : G.In 1000) (ht : tips ≤ 10 ∧ roots ≤ 10) (hw1 : IntKind.i64.wrap ((tips : Int) * G.x2) = m1) (hw2 : IntKind.i64.wrap (((roots : Int) + 1) * G.y2) = m2) (hm : -1000 ≤ m1 ∧ m1 ≤ 1000 ∧ -1000 ≤ m2 ∧ m2 ≤ 1000) (hK : ∀ (v112 v113 v114 v115 v116 v117 v118 v119 v120 v121 v122 v123 v124 v125 v126 v127 v128 v129 v130 v131 v132 v133 v134 v135 v136 v137 v138 v139 v140 v141 v142 v143 : Value),Q .normal ⟨#[u0,u1,u2,(.int .i64 ↑tips),(.int .i64 ↑roots),u5,(.pointer (some ⟨g6,0,none⟩)),u7,u8,u9,A0,A1,A2,A3,A4,A5,A6,A7,A8,A9,Aa,Ab,Ac,Ad,Ae,Af,Ag,Ah,Ai,Aj,Ak,Al,Am,An,Ao,Ap,Aq,Ar,As,At,Au,Av,Aw,Ax,Ay,Az,C0,C1,C2,C3,C4,C5,C6,C7,C8,C9,Ca,Cb,Cc,Cd,Ce,Cf,Cg,Ch,Ci,Cj,Ck,Cl,Cm,Cn,Co,Cp,Cq,Cr,Cs,Ct,Cu,Cv,Cw,Cx,Cy,Cz,D0,D1,D2,D3,D4,D5,D6,D7,D8,D9,Da,Db,Dc,Dd,De,Df,Dg,Dh,Di,Dj,Dk,Dl,Dm,Dn,Do,Dp,Dq,Dr,Ds,Dt,v112,v113,v114,v115,v116,v117,v118,v119,v120,v121,v122,v123,v124,v125,v126,v127,v128,v129,v130,v131,v132,v133,v134,v135,v136,v137,v138,v139,v140,v141,v142,v143,(.bool (decide (G.le ≤ G.t1 - m1 ∧ G.le ≤ G.r1 - m2))),Er,Es,Et,Eu,Ev,Ew,Ex,Ey,Ez,F0,F1,F2,F3,F4,F5,F6,F7,F8,F9,Fa,Fb,Fc,Fd,Fe,Ff,Fg,Fh,Fi,Fj,Fk,Fl,Fm,Fn,Fo],[]⟩ w) : Code.wp Try.prog (Code.region 11 nrB false) Q ⟨#[u0,u1,u2,(.int .i64 ↑tips),(.int .i64 ↑roots),u5,(.pointer (some ⟨g6,0,none⟩)),u7,u8,u9,A0,A1,A2,A3,A4,A5,A6,A7,A8,A9,Aa,Ab,Ac,Ad,Ae,Af,Ag,Ah,Ai,Aj,Ak,Al,Am,An,Ao,Ap,Aq,Ar,As,At,Au,Av,Aw,Ax,Ay,Az,C0,C1,C2,C3,C4,C5,C6,C7,C8,C9,Ca,Cb,Cc,Cd,Ce,Cf,Cg,Ch,Ci,Cj,Ck,Cl,Cm,Cn,Co,Cp,Cq,Cr,Cs,Ct,Cu,Cv,Cw,Cx,Cy,Cz,D0,D1,D2,D3,D4,D5,D6,D7,D8,D9,Da,Db,Dc,Dd,De,Df,Dg,Dh,Di,Dj,Dk,Dl,Dm,Dn,Do,Dp,Dq,Dr,Ds,Dt,Du,Dv,Dw,Dx,Dy,Dz,E0,E1,E2,E3,E4,E5,E6,E7,E8,E9,Ea,Eb,Ec,Ed,Ee,Ef,Eg,Eh,Ei,Ej,Ek,El,Em,En,Eo,Ep,Eq,Er,Es,Et,Eu,Ev,Ew,Ex,Ey,Ez,F0,F1,F2,F3,F4,F5,F6,F7,F8,F9,Fa,Fb,Fc,Fd,Fe,Ff,Fg,Fh,Fi,Fj,Fk,Fl,Fm,Fn,Fo],[]⟩ w := by
  refine wp_region_l [0,1,2,3,4,5,6,7,8,9,10,11,12,13,14,15,16,17,18,19,20,21,22,23,24,25,26,27,28,29,30,31,32] (by kernel_rfl) ?_
  refine Hid.out ?_
  obtain ⟨bA,hA⟩ : ∃ b,b = decide (G.le ≤ G.t1 - m1) := ⟨_,rfl⟩
  refine nrB_1 hJ hin ht hw1 hw2 hm hA ?_
  intros
  by_cases h : bA = true
  · subst h
    obtain ⟨bB,hB⟩ : ∃ b,b = decide (G.le ≤ G.r1 - m2) := ⟨_,rfl⟩
    refine nrB_2 hJ hin ht hw1 hw2 hm hB ?_
    intros
    have h1 := of_decide_eq_true hA.symm
    have e : bB = decide (G.le ≤ G.t1 - m1 ∧ G.le ≤ G.r1 - m2) := by rw [hB]; simp [h1]
    subst e
    exact hidMk (hK _ _ _ _ _ _ _ _ _ _ _ _ _ _ _ _ _ _ _ _ _ _ _ _ _ _ _ _ _ _ _ _ )
  · have h : bA = false := by simpa using h
    have e : bA = decide (G.le ≤ G.t1 - m1 ∧ G.le ≤ G.r1 - m2) := by
      rw [h] at hA
      have h1 := of_decide_eq_false hA.symm
      rw [h]
      simp [h1]
    refine nrB_3 hJ hin ht hw1 hw2 hm h ?_
    intros
    rw [e]
    exact hidMk (hK _ _ _ _ _ _ _ _ _ _ _ _ _ _ _ _ _ _ _ _ _ _ _ _ _ _ _ _ _ _ _ _ )
end Go.Proofs.Ytadmcafbffjjbaa
