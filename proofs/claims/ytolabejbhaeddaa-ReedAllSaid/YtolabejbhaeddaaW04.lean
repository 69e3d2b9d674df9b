/- Part 4 of the proof: AlF, PotS, Same, IntsT, AlG. -/
import Derived.Great.Walk
import Derived.Deep.WholeRow
import Derived.Deep.QuietTactic
import Derived.BigQuiet
import Derived.Deep.MidRow
import Derived.Test.YtolabejbhaeddaaW03
import Derived.Test.YtolabejbhaeddaaW02
import Derived.Test.YtolabejbhaeddaaW00
/- The law ReedAll: note. -/
namespace Go.Proofs.Ytolabejbhaeddaa
set_option linter.all false
open Go.RowKit Go.Great
set_option maxHeartbeats 4000000 in
set_option maxRecDepth 1000000 in
theorem nopart10 {w0 w : World} {bx g5 g6 : Nat} {J : Jb} {s : Value} {t : Fd} {sa : Option Addr} {sn sc : Nat} {sl : List Int} {e : En} {E : En} {n : Int} {th : Bool} {u1 u2 u4 u7 A0 A1 A2 A3 A4 A5 A6 A7 A8 A9 Aa Ab Ac Ad Ae Af Ag Ah Ai Aj Ak Al Am An Ao Ap Aq Ar As At Au Av Aw Ax Ay Az C0 C1 C2 C3 C4 C5 C6 C7 C8 C9 Ca Cb Cc Cd Ce Cf Cg Ch Ci Cj Ck Cl Cm Cn Co Cp Cq Cr Cs Ct Cu Cv Cw Cx Cy Cz D0 D1 D2 D3 D4 D5 D6 D7 D8 D9 Da Db Dc Dd De Df Dg Dh Di Dj Dk Dl Dm Dn Do Dp Dq Dr Ds Dt Du Dv Dw Dx Dy Dz E0 E1 E2 E3 E4 E5 E6 E7 E8 E9 Ea Eb Ec Ed Ee Ef Eg Eh Ei Ej Ek El Em u141 Eo Ep Eq Er Es Et Eu Ev Ew Ex Ey Ez F0 F1 F2 F3 F4 F5 F6 F7 F8 F9 Fa Fb Fc u167 : Value} (hs : NT w0 w bx g5 g6 J s t sa sl) (hE : Bk w bx 54 (enC e)) (ho : e.Ok) (hb : e.truths ≤ 100000000000000001) (hth : th = decide (thinB J t)) (hq : E = { e with fine := e.fine + one (n ≤ J.wi ∧ ¬ thinB J t) }) : Code.wp Try.prog norest10 (QNO bx E w0) ⟨#[(.pointer (some ⟨bx,0,none⟩)),u1,u2,(.slice sa sn sc),u4,(.pointer (some ⟨g5,0,none⟩)),(.pointer (some ⟨g6,0,none⟩)),u7,(.int .i64 n),(.bool th),A0,A1,A2,A3,A4,A5,A6,A7,A8,A9,Aa,Ab,Ac,Ad,Ae,Af,Ag,Ah,Ai,Aj,Ak,Al,Am,An,Ao,Ap,Aq,Ar,As,At,Au,Av,Aw,Ax,Ay,Az,C0,C1,C2,C3,C4,C5,C6,C7,C8,C9,Ca,Cb,Cc,Cd,Ce,Cf,Cg,Ch,Ci,Cj,Ck,Cl,Cm,Cn,Co,Cp,Cq,Cr,Cs,Ct,Cu,Cv,Cw,Cx,Cy,Cz,D0,D1,D2,D3,D4,D5,D6,D7,D8,D9,Da,Db,Dc,Dd,De,Df,Dg,Dh,Di,Dj,Dk,Dl,Dm,Dn,Do,Dp,Dq,Dr,Ds,Dt,Du,Dv,Dw,Dx,Dy,Dz,E0,E1,E2,E3,E4,E5,E6,E7,E8,E9,Ea,Eb,Ec,Ed,Ee,Ef,Eg,Eh,Ei,Ej,Ek,El,Em,u141,Eo,Ep,Eq,Er,Es,Et,Eu,Ev,Ew,Ex,Ey,Ez,F0,F1,F2,F3,F4,F5,F6,F7,F8,F9,Fa,Fb,Fc,u167],[]⟩ w := by
  rw [norest10_eq]
  have d0 := hs.job.at_ 16 (.int .i64 J.wi) rfl
  have z := hE.at_ 9 (.int .i64 e.fine) rfl
  have fz := hE.free 9
  have wz : IntKind.i64.wrap (e.fine + 1) = e.fine + 1 := IntWalk.i64_in _ (by obtain ⟨⟨a,b⟩,⟨c,d⟩,g,h⟩ := ho; omega)
  have HS := hidMk hs
  have HE := hidMk hE
  have HQ := hidMk hq
  clear hs hE hq
  rcases Bool.eq_false_or_eq_true th with h2 | h2
  · subst h2
    have hp : ¬ (n ≤ J.wi ∧ ¬ thinB J t) := fun h => h.2 (of_decide_eq_true hth.symm)
    have HT := hidMk hth
    clear hth
    by_cases hn1 : n ≤ J.wi
    · have h1 : one (n ≤ J.wi ∧ ¬ thinB J t) = 0 := if_neg hp
      have H1 := hidMk h1
      clear h1 hp
      go_wp2_with fail
      refine bodyPost_end0 (by kernel_rfl) rfl ⟨rfl,?_,HS.out.b0⟩
      rw [HQ.out,H1.out,Int.add_zero]
      exact HE.out
    · have h1 : one (n ≤ J.wi ∧ ¬ thinB J t) = 0 := if_neg hp
      have H1 := hidMk h1
      clear h1 hp
      go_wp2_with fail
      refine bodyPost_end0 (by kernel_rfl) rfl ⟨rfl,?_,HS.out.b0⟩
      rw [HQ.out,H1.out,Int.add_zero]
      exact HE.out
  · subst h2
    have hp2 : ¬ thinB J t := of_decide_eq_false hth.symm
    have HT := hidMk hth
    clear hth
    by_cases hn1 : n ≤ J.wi
    · have hp : n ≤ J.wi ∧ ¬ thinB J t := ⟨hn1,hp2⟩
      have h1 : one (n ≤ J.wi ∧ ¬ thinB J t) = 1 := if_pos hp
      have H1 := hidMk h1
      clear h1 hp
      go_wp2_with fail
      have HE2 := hidMk (HE.out.put 9 (.int .i64 (e.fine + 1)))
      have HS2 := hidMk (HS.out.put 9 (.int .i64 (e.fine + 1)))
      refine bodyPost_end0 (by kernel_rfl) rfl ⟨rfl,?_,HS2.out.b0⟩
      rw [HQ.out,H1.out]
      exact HE2.out
    · have hp : ¬ (n ≤ J.wi ∧ ¬ thinB J t) := fun h => hn1 h.1
      have h1 : one (n ≤ J.wi ∧ ¬ thinB J t) = 0 := if_neg hp
      have H1 := hidMk h1
      clear h1 hp
      go_wp2_with fail
      refine bodyPost_end0 (by kernel_rfl) rfl ⟨rfl,?_,HS.out.b0⟩
      rw [HQ.out,H1.out,Int.add_zero]
      exact HE.out
set_option maxHeartbeats 4000000 in
set_option maxRecDepth 1000000 in
theorem nopart9 {w0 w : World} {bx g5 g6 : Nat} {J : Jb} {s : Value} {t : Fd} {sa : Option Addr} {sn sc : Nat} {sl : List Int} {e : En} {E : En} {n : Int} {th : Bool} {u1 u2 u4 u7 A0 A1 A2 A3 A4 A5 A6 A7 A8 A9 Aa Ab Ac Ad Ae Af Ag Ah Ai Aj Ak Al Am An Ao Ap Aq Ar As At Au Av Aw Ax Ay Az C0 C1 C2 C3 C4 C5 C6 C7 C8 C9 Ca Cb Cc Cd Ce Cf Cg Ch Ci Cj Ck Cl Cm Cn Co Cp Cq Cr Cs Ct Cu Cv Cw Cx Cy Cz D0 D1 D2 D3 D4 D5 D6 D7 D8 D9 Da Db Dc Dd De Df Dg Dh Di Dj Dk Dl Dm Dn Do Dp Dq Dr Ds Dt Du Dv Dw Dx Dy Dz E0 E1 E2 E3 E4 E5 E6 E7 E8 E9 Ea Eb Ec Ed Ee Ef Eg Eh Ei Ej Ek El Em u141 Eo Ep Eq Er Es Et Eu Ev Ew Ex Ey Ez F0 F1 F2 F3 F4 F5 F6 F7 F8 F9 Fa Fb Fc u167 : Value} (hs : NT w0 w bx g5 g6 J s t sa sl) (hE : Bk w bx 54 (enC e)) (ho : e.Ok) (hb : e.truths ≤ 100000000000000001) (hl : e.thin + 1 ≤ e.truths) (hth : th = decide (thinB J t)) (hq : E = { e with thin := e.thin + one (thinB J t),fine := e.fine + one (n ≤ J.wi ∧ ¬ thinB J t) }) : Code.wp Try.prog norest9 (QNO bx E w0) ⟨#[(.pointer (some ⟨bx,0,none⟩)),u1,u2,(.slice sa sn sc),u4,(.pointer (some ⟨g5,0,none⟩)),(.pointer (some ⟨g6,0,none⟩)),u7,(.int .i64 n),(.bool th),A0,A1,A2,A3,A4,A5,A6,A7,A8,A9,Aa,Ab,Ac,Ad,Ae,Af,Ag,Ah,Ai,Aj,Ak,Al,Am,An,Ao,Ap,Aq,Ar,As,At,Au,Av,Aw,Ax,Ay,Az,C0,C1,C2,C3,C4,C5,C6,C7,C8,C9,Ca,Cb,Cc,Cd,Ce,Cf,Cg,Ch,Ci,Cj,Ck,Cl,Cm,Cn,Co,Cp,Cq,Cr,Cs,Ct,Cu,Cv,Cw,Cx,Cy,Cz,D0,D1,D2,D3,D4,D5,D6,D7,D8,D9,Da,Db,Dc,Dd,De,Df,Dg,Dh,Di,Dj,Dk,Dl,Dm,Dn,Do,Dp,Dq,Dr,Ds,Dt,Du,Dv,Dw,Dx,Dy,Dz,E0,E1,E2,E3,E4,E5,E6,E7,E8,E9,Ea,Eb,Ec,Ed,Ee,Ef,Eg,Eh,Ei,Ej,Ek,El,Em,u141,Eo,Ep,Eq,Er,Es,Et,Eu,Ev,Ew,Ex,Ey,Ez,F0,F1,F2,F3,F4,F5,F6,F7,F8,F9,Fa,Fb,Fc,u167],[]⟩ w := by
  rw [norest9_eq]
  have d0 := hs.job.at_ 16 (.int .i64 J.wi) rfl
  have z := hE.at_ 8 (.int .i64 e.thin) rfl
  have fz := hE.free 8
  have wz : IntKind.i64.wrap (e.thin + 1) = e.thin + 1 := IntWalk.i64_in _ (by obtain ⟨⟨a,b⟩,⟨c,d⟩,g,h⟩ := ho; omega)
  have HS := hidMk hs
  have HE := hidMk hE
  have HQ := hidMk hq
  clear hs hE hq
  have HO := hidMk ho
  clear ho
  rcases Bool.eq_false_or_eq_true th with h2 | h2
  · subst h2
    have hp : thinB J t := of_decide_eq_true hth.symm
    have HT := hidMk hth
    clear hth
    have h1 : one (thinB J t) = 1 := if_pos hp
    have H1 := hidMk h1
    clear h1 hp
    go_wp2_with fail
    have HE2 := hidMk (HE.out.put 8 (.int .i64 (e.thin + 1)))
    have HS2 := hidMk (HS.out.put 8 (.int .i64 (e.thin + 1)))
    exact nopart10 (e := { e with thin := e.thin + 1 }) HS2.out HE2.out ⟨HO.out.p,⟨by have := HO.out.t; show 0 ≤ e.thin + 1; omega,by show e.thin + 1 ≤ e.truths; omega⟩,HO.out.f⟩ hb HT.out (by rw [HQ.out,H1.out])
  · subst h2
    have hp : ¬ thinB J t := of_decide_eq_false hth.symm
    have HT := hidMk hth
    clear hth
    have h1 : one (thinB J t) = 0 := if_neg hp
    have H1 := hidMk h1
    clear h1 hp
    go_wp2_with fail
    exact nopart10 HS.out HE.out HO.out hb HT.out (by rw [HQ.out,H1.out,Int.add_zero])
set_option maxHeartbeats 4000000 in
set_option maxRecDepth 1000000 in
theorem nopart8 {w0 w : World} {bx g5 g6 : Nat} {J : Jb} {s : Value} {t : Fd} {sa : Option Addr} {sn sc : Nat} {sl : List Int} {e : En} {E : En} {n : Int} {th : Bool} {u1 u2 u4 u7 A0 A1 A2 A3 A4 A5 A6 A7 A8 A9 Aa Ab Ac Ad Ae Af Ag Ah Ai Aj Ak Al Am An Ao Ap Aq Ar As At Au Av Aw Ax Ay Az C0 C1 C2 C3 C4 C5 C6 C7 C8 C9 Ca Cb Cc Cd Ce Cf Cg Ch Ci Cj Ck Cl Cm Cn Co Cp Cq Cr Cs Ct Cu Cv Cw Cx Cy Cz D0 D1 D2 D3 D4 D5 D6 D7 D8 D9 Da Db Dc Dd De Df Dg Dh Di Dj Dk Dl Dm Dn Do Dp Dq Dr Ds Dt Du Dv Dw Dx Dy Dz E0 E1 E2 E3 E4 E5 E6 E7 E8 E9 Ea Eb Ec Ed Ee Ef Eg Eh Ei Ej Ek El Em u141 Eo Ep Eq Er Es Et Eu Ev Ew Ex Ey Ez F0 F1 F2 F3 F4 F5 F6 F7 F8 F9 Fa Fb Fc u167 : Value} (hs : NT w0 w bx g5 g6 J s t sa sl) (hE : Bk w bx 54 (enC e)) (ho : e.Ok) (hb : e.truths ≤ 100000000000000001) (hl : e.thin + 1 ≤ e.truths) (hl2 : e.passes + 1 ≤ e.truths) (hth : th = decide (thinB J t)) (hq : E = { e with passes := e.passes + one (n ≤ J.wi),thin := e.thin + one (thinB J t),fine := e.fine + one (n ≤ J.wi ∧ ¬ thinB J t) }) : Code.wp Try.prog norest8 (QNO bx E w0) ⟨#[(.pointer (some ⟨bx,0,none⟩)),u1,u2,(.slice sa sn sc),u4,(.pointer (some ⟨g5,0,none⟩)),(.pointer (some ⟨g6,0,none⟩)),u7,(.int .i64 n),(.bool th),A0,A1,A2,A3,A4,A5,A6,A7,A8,A9,Aa,Ab,Ac,Ad,Ae,Af,Ag,Ah,Ai,Aj,Ak,Al,Am,An,Ao,Ap,Aq,Ar,As,At,Au,Av,Aw,Ax,Ay,Az,C0,C1,C2,C3,C4,C5,C6,C7,C8,C9,Ca,Cb,Cc,Cd,Ce,Cf,Cg,Ch,Ci,Cj,Ck,Cl,Cm,Cn,Co,Cp,Cq,Cr,Cs,Ct,Cu,Cv,Cw,Cx,Cy,Cz,D0,D1,D2,D3,D4,D5,D6,D7,D8,D9,Da,Db,Dc,Dd,De,Df,Dg,Dh,Di,Dj,Dk,Dl,Dm,Dn,Do,Dp,Dq,Dr,Ds,Dt,Du,Dv,Dw,Dx,Dy,Dz,E0,E1,E2,E3,E4,E5,E6,E7,E8,E9,Ea,Eb,Ec,Ed,Ee,Ef,Eg,Eh,Ei,Ej,Ek,El,Em,u141,Eo,Ep,Eq,Er,Es,Et,Eu,Ev,Ew,Ex,Ey,Ez,F0,F1,F2,F3,F4,F5,F6,F7,F8,F9,Fa,Fb,Fc,u167],[]⟩ w := by
  rw [norest8_eq]
  have d0 := hs.job.at_ 16 (.int .i64 J.wi) rfl
  have z := hE.at_ 7 (.int .i64 e.passes) rfl
  have fz := hE.free 7
  have wz : IntKind.i64.wrap (e.passes + 1) = e.passes + 1 := IntWalk.i64_in _ (by obtain ⟨⟨a,b⟩,⟨c,d⟩,g,h⟩ := ho; omega)
  have HS := hidMk hs
  have HE := hidMk hE
  have HQ := hidMk hq
  clear hs hE hq
  have HO := hidMk ho
  clear ho
  have HT := hidMk hth
  clear hth
  by_cases hp : n ≤ J.wi
  · have hn1 := hp
    have h1 : one (n ≤ J.wi) = 1 := if_pos hp
    have H1 := hidMk h1
    clear h1 hp
    go_wp2_with fail
    have HE2 := hidMk (HE.out.put 7 (.int .i64 (e.passes + 1)))
    have HS2 := hidMk (HS.out.put 7 (.int .i64 (e.passes + 1)))
    exact nopart9 (e := { e with passes := e.passes + 1 }) HS2.out HE2.out ⟨⟨by have := HO.out.p; show 0 ≤ e.passes + 1; omega,by show e.passes + 1 ≤ e.truths; omega⟩,HO.out.t,HO.out.f⟩ hb hl HT.out (by rw [HQ.out,H1.out])
  · have hn1 := hp
    have h1 : one (n ≤ J.wi) = 0 := if_neg hp
    have H1 := hidMk h1
    clear h1 hp
    go_wp2_with fail
    exact nopart9 HS.out HE.out HO.out hb hl HT.out (by rw [HQ.out,H1.out,Int.add_zero])
set_option maxHeartbeats 4000000 in
set_option maxRecDepth 1000000 in
theorem nopart7 {w0 w : World} {bx g5 g6 : Nat} {J : Jb} {s : Value} {t : Fd} {sa : Option Addr} {sn sc : Nat} {sl : List Int} {e : En} {E : En} {n : Int} {u1 u2 u4 u7 u9 A0 A1 A2 A3 A4 A5 A6 A7 A8 A9 Aa Ab Ac Ad Ae Af Ag Ah Ai Aj Ak Al Am An Ao Ap Aq Ar As At Au Av Aw Ax Ay Az C0 C1 C2 C3 C4 C5 C6 C7 C8 C9 Ca Cb Cc Cd Ce Cf Cg Ch Ci Cj Ck Cl Cm Cn Co Cp Cq Cr Cs Ct Cu Cv Cw Cx Cy Cz D0 D1 D2 D3 D4 D5 D6 D7 D8 D9 Da Db Dc Dd De Df Dg Dh Di Dj Dk Dl Dm Dn Do Dp Dq Dr Ds Dt Du Dv Dw Dx Dy Dz E0 E1 E2 E3 E4 E5 E6 E7 E8 E9 Ea Eb Ec Ed Ee Ef Eg Eh Ei Ej Ek El Em u141 Eo Ep Eq Er Es Et Eu Ev Ew Ex Ey Ez F0 F1 F2 F3 F4 F5 F6 F7 F8 F9 Fa Fb Fc u167 : Value} (hs : NT w0 w bx g5 g6 J s t sa sl) (hE : Bk w bx 54 (enC e)) (ho : e.Ok) (hb : e.truths ≤ 100000000000000001) (hl : e.thin + 1 ≤ e.truths) (hl2 : e.passes + 1 ≤ e.truths) (hq : E = { e with passes := e.passes + one (n ≤ J.wi),thin := e.thin + one (thinB J t),fine := e.fine + one (n ≤ J.wi ∧ ¬ thinB J t) }) : Code.wp Try.prog norest7 (QNO bx E w0) ⟨#[(.pointer (some ⟨bx,0,none⟩)),u1,u2,(.slice sa sn sc),u4,(.pointer (some ⟨g5,0,none⟩)),(.pointer (some ⟨g6,0,none⟩)),u7,(.int .i64 n),u9,A0,A1,A2,A3,A4,A5,A6,A7,A8,A9,Aa,Ab,Ac,Ad,Ae,Af,Ag,Ah,Ai,Aj,Ak,Al,Am,An,Ao,Ap,Aq,Ar,As,At,Au,Av,Aw,Ax,Ay,Az,C0,C1,C2,C3,C4,C5,C6,C7,C8,C9,Ca,Cb,Cc,Cd,Ce,Cf,Cg,Ch,Ci,Cj,Ck,Cl,Cm,Cn,Co,Cp,Cq,Cr,Cs,Ct,Cu,Cv,Cw,Cx,Cy,Cz,D0,D1,D2,D3,D4,D5,D6,D7,D8,D9,Da,Db,Dc,Dd,De,Df,Dg,Dh,Di,Dj,Dk,Dl,Dm,Dn,Do,Dp,Dq,Dr,Ds,Dt,Du,Dv,Dw,Dx,Dy,Dz,E0,E1,E2,E3,E4,E5,E6,E7,E8,E9,Ea,Eb,Ec,Ed,Ee,Ef,Eg,Eh,Ei,Ej,Ek,El,Em,u141,Eo,Ep,Eq,Er,Es,Et,Eu,Ev,Ew,Ex,Ey,Ez,F0,F1,F2,F3,F4,F5,F6,F7,F8,F9,Fa,Fb,Fc,u167],[]⟩ w := by
  rw [norest7_eq]
  have d0 := hs.job.at_ 14 (.int .i64 J.le) rfl
  have d1 := hs.fl.at_ 1 (.int .i64 t.t) rfl
  have d2 := hs.fl.at_ 2 (.int .i64 t.r) rfl
  have HS := hidMk hs
  have HE := hidMk hE
  have HQ := hidMk hq
  clear hs hE hq
  by_cases h1 : t.t < J.le
  · have HH := hidMk h1
    go_wp2_with fail
    exact nopart8 HS.out HE.out ho hb hl hl2 (decide_eq_true (.inl HH.out)).symm HQ.out
  · by_cases h2 : t.r < J.le
    · have HH := hidMk h2
      go_wp2_with fail
      exact nopart8 HS.out HE.out ho hb hl hl2 (decide_eq_true (.inr HH.out)).symm HQ.out
    · have HH := hidMk (And.intro h1 h2)
      go_wp2_with fail
      exact nopart8 HS.out HE.out ho hb hl hl2 (decide_eq_false (fun h => by have := HH.out; unfold thinB at h; omega)).symm HQ.out
set_option maxHeartbeats 4000000 in
set_option maxRecDepth 1000000 in
theorem nopart6 {w0 w : World} {bx g5 g6 : Nat} {J : Jb} {s : Value} {t : Fd} {sa : Option Addr} {sn sc : Nat} {sl : List Int} {e : En} {E : En} {n : Int} {u1 u2 u4 u7 u9 A0 A1 A2 A3 A4 A5 A6 A7 A8 A9 Aa Ab Ac Ad Ae Af Ag Ah Ai Aj Ak Al Am An Ao Ap Aq Ar As At Au Av Aw Ax Ay Az C0 C1 C2 C3 C4 C5 C6 C7 C8 C9 Ca Cb Cc Cd Ce Cf Cg Ch Ci Cj Ck Cl Cm Cn Co Cp Cq Cr Cs Ct Cu Cv Cw Cx Cy Cz D0 D1 D2 D3 D4 D5 D6 D7 D8 D9 Da Db Dc Dd De Df Dg Dh Di Dj Dk Dl Dm Dn Do Dp Dq Dr Ds Dt Du Dv Dw Dx Dy Dz E0 E1 E2 E3 E4 E5 E6 E7 E8 E9 Ea Eb Ec Ed Ee Ef Eg Eh Ei Ej Ek El Em u141 Eo Ep Eq Er Es Et Eu Ev Ew Ex Ey Ez F0 F1 F2 F3 F4 F5 F6 F7 F8 F9 Fa Fb Fc u167 : Value} (hs : NT w0 w bx g5 g6 J s t sa sl) (hE : Bk w bx 54 (enC e)) (ho : e.Ok) (hb : e.truths ≤ 100000000000000000) (hq : E = { e with worst := mx e.worst n,truths := e.truths + 1,passes := e.passes + one (n ≤ J.wi),thin := e.thin + one (thinB J t),fine := e.fine + one (n ≤ J.wi ∧ ¬ thinB J t) }) : Code.wp Try.prog norest6 (QNO bx E w0) ⟨#[(.pointer (some ⟨bx,0,none⟩)),u1,u2,(.slice sa sn sc),u4,(.pointer (some ⟨g5,0,none⟩)),(.pointer (some ⟨g6,0,none⟩)),u7,(.int .i64 n),u9,A0,A1,A2,A3,A4,A5,A6,A7,A8,A9,Aa,Ab,Ac,Ad,Ae,Af,Ag,Ah,Ai,Aj,Ak,Al,Am,An,Ao,Ap,Aq,Ar,As,At,Au,Av,Aw,Ax,Ay,Az,C0,C1,C2,C3,C4,C5,C6,C7,C8,C9,Ca,Cb,Cc,Cd,Ce,Cf,Cg,Ch,Ci,Cj,Ck,Cl,Cm,Cn,Co,Cp,Cq,Cr,Cs,Ct,Cu,Cv,Cw,Cx,Cy,Cz,D0,D1,D2,D3,D4,D5,D6,D7,D8,D9,Da,Db,Dc,Dd,De,Df,Dg,Dh,Di,Dj,Dk,Dl,Dm,Dn,Do,Dp,Dq,Dr,Ds,Dt,Du,Dv,Dw,Dx,Dy,Dz,E0,E1,E2,E3,E4,E5,E6,E7,E8,E9,Ea,Eb,Ec,Ed,Ee,Ef,Eg,Eh,Ei,Ej,Ek,El,Em,u141,Eo,Ep,Eq,Er,Es,Et,Eu,Ev,Ew,Ex,Ey,Ez,F0,F1,F2,F3,F4,F5,F6,F7,F8,F9,Fa,Fb,Fc,u167],[]⟩ w := by
  rw [norest6_eq]
  have HQ := hidMk hq
  have HO := hidMk ho
  clear hq ho
  refine wp_seq_k fun K0 hK0 => ?_
  refine nor7 hs hE ⟨by have := HO.out.p; omega,by omega⟩ rfl ?_
  intro w' hs' hE'
  intros
  refine hK0 _ _ ?_
  exact nopart7 hs' hE' ⟨⟨HO.out.p.1,by have := HO.out.p; show e.passes ≤ e.truths + 1; omega⟩,⟨HO.out.t.1,by have := HO.out.t; show e.thin ≤ e.truths + 1; omega⟩,HO.out.f.1,by have := HO.out.f; show e.fine ≤ e.truths + 1; omega⟩ (by show e.truths + 1 ≤ _; omega) (by have := HO.out.t; show e.thin + 1 ≤ e.truths + 1; omega) (by have := HO.out.p; show e.passes + 1 ≤ e.truths + 1; omega) HQ.out
set_option maxHeartbeats 4000000 in
set_option maxRecDepth 1000000 in
theorem nopart5 {w0 w : World} {bx g5 g6 : Nat} {J : Jb} {s : Value} {t : Fd} {sa : Option Addr} {sn sc : Nat} {sl : List Int} {e : En} {E : En} {u1 u2 u4 u7 u8 u9 A0 A1 A2 A3 A4 A5 A6 A7 A8 A9 Aa Ab Ac Ad Ae Af Ag Ah Ai Aj Ak Al Am An Ao Ap Aq Ar As At Au Av Aw Ax Ay Az C0 C1 C2 C3 C4 C5 C6 C7 C8 C9 Ca Cb Cc Cd Ce Cf Cg Ch Ci Cj Ck Cl Cm Cn Co Cp Cq Cr Cs Ct Cu Cv Cw Cx Cy Cz D0 D1 D2 D3 D4 D5 D6 D7 D8 D9 Da Db Dc Dd De Df Dg Dh Di Dj Dk Dl Dm Dn Do Dp Dq Dr Ds Dt Du Dv Dw Dx Dy Dz E0 E1 E2 E3 E4 E5 E6 E7 E8 E9 Ea Eb Ec Ed Ee Ef Eg Eh Ei Ej Ek El Em u141 Eo Ep Eq Er Es Et Eu Ev Ew Ex Ey Ez F0 F1 F2 F3 F4 F5 F6 F7 F8 F9 Fa Fb Fc u167 : Value} (hs : NT w0 w bx g5 g6 J s t sa sl) (hE : Bk w bx 54 (enC e)) (ho : e.Ok) (hb : e.truths ≤ 100000000000000000) (hp : -500 ≤ t.p ∧ t.p ≤ 500) (hln : sn = sl.length ∧ sn ≤ 4) (hsl : ∀ x ∈ sl,-100 ≤ x ∧ x ≤ 100) (hq : E = { e with worst := mx e.worst (farI t.p sl),truths := e.truths + 1,passes := e.passes + one ((farI t.p sl) ≤ J.wi),thin := e.thin + one (thinB J t),fine := e.fine + one ((farI t.p sl) ≤ J.wi ∧ ¬ thinB J t) }) : Code.wp Try.prog norest5 (QNO bx E w0) ⟨#[(.pointer (some ⟨bx,0,none⟩)),u1,u2,(.slice sa sn sc),u4,(.pointer (some ⟨g5,0,none⟩)),(.pointer (some ⟨g6,0,none⟩)),u7,u8,u9,A0,A1,A2,A3,A4,A5,A6,A7,A8,A9,Aa,Ab,Ac,Ad,Ae,Af,Ag,Ah,Ai,Aj,Ak,Al,Am,An,Ao,Ap,Aq,Ar,As,At,Au,Av,Aw,Ax,Ay,Az,C0,C1,C2,C3,C4,C5,C6,C7,C8,C9,Ca,Cb,Cc,Cd,Ce,Cf,Cg,Ch,Ci,Cj,Ck,Cl,Cm,Cn,Co,Cp,Cq,Cr,Cs,Ct,Cu,Cv,Cw,Cx,Cy,Cz,D0,D1,D2,D3,D4,D5,D6,D7,D8,D9,Da,Db,Dc,Dd,De,Df,Dg,Dh,Di,Dj,Dk,Dl,Dm,Dn,Do,Dp,Dq,Dr,Ds,Dt,Du,Dv,Dw,Dx,Dy,Dz,E0,E1,E2,E3,E4,E5,E6,E7,E8,E9,Ea,Eb,Ec,Ed,Ee,Ef,Eg,Eh,Ei,Ej,Ek,El,Em,u141,Eo,Ep,Eq,Er,Es,Et,Eu,Ev,Ew,Ex,Ey,Ez,F0,F1,F2,F3,F4,F5,F6,F7,F8,F9,Fa,Fb,Fc,u167],[]⟩ w := by
  rw [norest5_eq]
  have HS := hidMk hs
  have HE := hidMk hE
  have HQ := hidMk hq
  clear hs hE hq
  have HL := hidMk hln
  clear hln
  have d0 := HS.out.fl.at_ 0 (.int .i64 t.p) rfl
  go_wp2_with fail
  refine (far_any t.p hp sa sn sc sl _ HL.out.1 HL.out.2 hsl HS.out.is).mono ?_
  rintro x w2 ⟨rfl,hb2⟩
  have HS2 := hidMk (HS.out.next hb2)
  have HE2 := hidMk (HE.out.below hb2 HE.out.lt)
  clear hb2 d0 HS HE
  go_wp2_with fail
  exact nopart6 HS2.out HE2.out ho hb HQ.out
set_option maxHeartbeats 4000000 in
set_option maxRecDepth 1000000 in
theorem nopart4 {w0 w : World} {bx g5 g6 : Nat} {J : Jb} {s : Value} {t : Fd} {sa : Option Addr} {sn sc : Nat} {sl : List Int} {e : En} {E : En} {u1 u2 u4 u7 u8 u9 A0 A1 A2 A3 A4 A5 A6 A7 A8 A9 Aa Ab Ac Ad Ae Af Ag Ah Ai Aj Ak Al Am An Ao Ap Aq Ar As At Au Av Aw Ax Ay Az C0 C1 C2 C3 C4 C5 C6 C7 C8 C9 Ca Cb Cc Cd Ce Cf Cg Ch Ci Cj Ck Cl Cm Cn Co Cp Cq Cr Cs Ct Cu Cv Cw Cx Cy Cz D0 D1 D2 D3 D4 D5 D6 D7 D8 D9 Da Db Dc Dd De Df Dg Dh Di Dj Dk Dl Dm Dn Do Dp Dq Dr Ds Dt Du Dv Dw Dx Dy Dz E0 E1 E2 E3 E4 E5 E6 E7 E8 E9 Ea Eb Ec Ed Ee Ef Eg Eh Ei Ej Ek El Em u141 Eo Ep Eq Er Es Et Eu Ev Ew Ex Ey Ez F0 F1 F2 F3 F4 F5 F6 F7 F8 F9 Fa Fb Fc u167 : Value} (hs : NT w0 w bx g5 g6 J s t sa sl) (hE : Bk w bx 54 (enC e)) (ho : e.Ok) (hb : e.truths ≤ 100000000000000000) (hp : -500 ≤ t.p ∧ t.p ≤ 500) (hln : sn = sl.length ∧ sn ≤ 4) (hsl : ∀ x ∈ sl,-100 ≤ x ∧ x ≤ 100) (hq : E = { e with rl := mn e.rl t.r,rh := mx e.rh t.r,worst := mx e.worst (farI t.p sl),truths := e.truths + 1,passes := e.passes + one ((farI t.p sl) ≤ J.wi),thin := e.thin + one (thinB J t),fine := e.fine + one ((farI t.p sl) ≤ J.wi ∧ ¬ thinB J t) }) : Code.wp Try.prog norest4 (QNO bx E w0) ⟨#[(.pointer (some ⟨bx,0,none⟩)),u1,u2,(.slice sa sn sc),u4,(.pointer (some ⟨g5,0,none⟩)),(.pointer (some ⟨g6,0,none⟩)),u7,u8,u9,A0,A1,A2,A3,A4,A5,A6,A7,A8,A9,Aa,Ab,Ac,Ad,Ae,Af,Ag,Ah,Ai,Aj,Ak,Al,Am,An,Ao,Ap,Aq,Ar,As,At,Au,Av,Aw,Ax,Ay,Az,C0,C1,C2,C3,C4,C5,C6,C7,C8,C9,Ca,Cb,Cc,Cd,Ce,Cf,Cg,Ch,Ci,Cj,Ck,Cl,Cm,Cn,Co,Cp,Cq,Cr,Cs,Ct,Cu,Cv,Cw,Cx,Cy,Cz,D0,D1,D2,D3,D4,D5,D6,D7,D8,D9,Da,Db,Dc,Dd,De,Df,Dg,Dh,Di,Dj,Dk,Dl,Dm,Dn,Do,Dp,Dq,Dr,Ds,Dt,Du,Dv,Dw,Dx,Dy,Dz,E0,E1,E2,E3,E4,E5,E6,E7,E8,E9,Ea,Eb,Ec,Ed,Ee,Ef,Eg,Eh,Ei,Ej,Ek,El,Em,u141,Eo,Ep,Eq,Er,Es,Et,Eu,Ev,Ew,Ex,Ey,Ez,F0,F1,F2,F3,F4,F5,F6,F7,F8,F9,Fa,Fb,Fc,u167],[]⟩ w := by
  rw [norest4_eq]
  have HQ := hidMk hq
  have HO := hidMk ho
  clear hq ho
  refine wp_seq_k fun K0 hK0 => ?_
  refine nor5 hs hE rfl rfl ?_
  intro w' hs' hE'
  intros
  refine hK0 _ _ ?_
  exact nopart5 hs' hE' ⟨HO.out.p,HO.out.t,HO.out.f⟩ hb hp hln hsl HQ.out
set_option maxHeartbeats 4000000 in
set_option maxRecDepth 1000000 in
theorem nopart3 {w0 w : World} {bx g5 g6 : Nat} {J : Jb} {s : Value} {t : Fd} {sa : Option Addr} {sn sc : Nat} {sl : List Int} {e : En} {E : En} {u1 u2 u4 u7 u8 u9 A0 A1 A2 A3 A4 A5 A6 A7 A8 A9 Aa Ab Ac Ad Ae Af Ag Ah Ai Aj Ak Al Am An Ao Ap Aq Ar As At Au Av Aw Ax Ay Az C0 C1 C2 C3 C4 C5 C6 C7 C8 C9 Ca Cb Cc Cd Ce Cf Cg Ch Ci Cj Ck Cl Cm Cn Co Cp Cq Cr Cs Ct Cu Cv Cw Cx Cy Cz D0 D1 D2 D3 D4 D5 D6 D7 D8 D9 Da Db Dc Dd De Df Dg Dh Di Dj Dk Dl Dm Dn Do Dp Dq Dr Ds Dt Du Dv Dw Dx Dy Dz E0 E1 E2 E3 E4 E5 E6 E7 E8 E9 Ea Eb Ec Ed Ee Ef Eg Eh Ei Ej Ek El Em u141 Eo Ep Eq Er Es Et Eu Ev Ew Ex Ey Ez F0 F1 F2 F3 F4 F5 F6 F7 F8 F9 Fa Fb Fc u167 : Value} (hs : NT w0 w bx g5 g6 J s t sa sl) (hE : Bk w bx 54 (enC e)) (ho : e.Ok) (hb : e.truths ≤ 100000000000000000) (hp : -500 ≤ t.p ∧ t.p ≤ 500) (hln : sn = sl.length ∧ sn ≤ 4) (hsl : ∀ x ∈ sl,-100 ≤ x ∧ x ≤ 100) (hq : E = { e with tl := mn e.tl t.t,th := mx e.th t.t,rl := mn e.rl t.r,rh := mx e.rh t.r,worst := mx e.worst (farI t.p sl),truths := e.truths + 1,passes := e.passes + one ((farI t.p sl) ≤ J.wi),thin := e.thin + one (thinB J t),fine := e.fine + one ((farI t.p sl) ≤ J.wi ∧ ¬ thinB J t) }) : Code.wp Try.prog norest3 (QNO bx E w0) ⟨#[(.pointer (some ⟨bx,0,none⟩)),u1,u2,(.slice sa sn sc),u4,(.pointer (some ⟨g5,0,none⟩)),(.pointer (some ⟨g6,0,none⟩)),u7,u8,u9,A0,A1,A2,A3,A4,A5,A6,A7,A8,A9,Aa,Ab,Ac,Ad,Ae,Af,Ag,Ah,Ai,Aj,Ak,Al,Am,An,Ao,Ap,Aq,Ar,As,At,Au,Av,Aw,Ax,Ay,Az,C0,C1,C2,C3,C4,C5,C6,C7,C8,C9,Ca,Cb,Cc,Cd,Ce,Cf,Cg,Ch,Ci,Cj,Ck,Cl,Cm,Cn,Co,Cp,Cq,Cr,Cs,Ct,Cu,Cv,Cw,Cx,Cy,Cz,D0,D1,D2,D3,D4,D5,D6,D7,D8,D9,Da,Db,Dc,Dd,De,Df,Dg,Dh,Di,Dj,Dk,Dl,Dm,Dn,Do,Dp,Dq,Dr,Ds,Dt,Du,Dv,Dw,Dx,Dy,Dz,E0,E1,E2,E3,E4,E5,E6,E7,E8,E9,Ea,Eb,Ec,Ed,Ee,Ef,Eg,Eh,Ei,Ej,Ek,El,Em,u141,Eo,Ep,Eq,Er,Es,Et,Eu,Ev,Ew,Ex,Ey,Ez,F0,F1,F2,F3,F4,F5,F6,F7,F8,F9,Fa,Fb,Fc,u167],[]⟩ w := by
  rw [norest3_eq]
  have HQ := hidMk hq
  have HO := hidMk ho
  clear hq ho
  refine wp_seq_k fun K0 hK0 => ?_
  refine nor4 hs hE rfl rfl ?_
  intro w' hs' hE'
  intros
  refine hK0 _ _ ?_
  exact nopart4 hs' hE' ⟨HO.out.p,HO.out.t,HO.out.f⟩ hb hp hln hsl HQ.out
set_option maxHeartbeats 4000000 in
set_option maxRecDepth 1000000 in
theorem nopart2 {w0 w : World} {bx g5 g6 : Nat} {J : Jb} {s : Value} {t : Fd} {sa : Option Addr} {sn sc : Nat} {sl : List Int} {e : En} {E : En} {u1 u2 u4 u7 u8 u9 A0 A1 A2 A3 A4 A5 A6 A7 A8 A9 Aa Ab Ac Ad Ae Af Ag Ah Ai Aj Ak Al Am An Ao Ap Aq Ar As At Au Av Aw Ax Ay Az C0 C1 C2 C3 C4 C5 C6 C7 C8 C9 Ca Cb Cc Cd Ce Cf Cg Ch Ci Cj Ck Cl Cm Cn Co Cp Cq Cr Cs Ct Cu Cv Cw Cx Cy Cz D0 D1 D2 D3 D4 D5 D6 D7 D8 D9 Da Db Dc Dd De Df Dg Dh Di Dj Dk Dl Dm Dn Do Dp Dq Dr Ds Dt Du Dv Dw Dx Dy Dz E0 E1 E2 E3 E4 E5 E6 E7 E8 E9 Ea Eb Ec Ed Ee Ef Eg Eh Ei Ej Ek El Em u141 Eo Ep Eq Er Es Et Eu Ev Ew Ex Ey Ez F0 F1 F2 F3 F4 F5 F6 F7 F8 F9 Fa Fb Fc u167 : Value} (hs : NT w0 w bx g5 g6 J s t sa sl) (hE : Bk w bx 54 (enC e)) (ho : e.Ok) (hb : e.truths ≤ 100000000000000000) (hp : -500 ≤ t.p ∧ t.p ≤ 500) (hln : sn = sl.length ∧ sn ≤ 4) (hsl : ∀ x ∈ sl,-100 ≤ x ∧ x ≤ 100) (hq : E = { e with pl := mn e.pl t.p,ph := mx e.ph t.p,tl := mn e.tl t.t,th := mx e.th t.t,rl := mn e.rl t.r,rh := mx e.rh t.r,worst := mx e.worst (farI t.p sl),truths := e.truths + 1,passes := e.passes + one ((farI t.p sl) ≤ J.wi),thin := e.thin + one (thinB J t),fine := e.fine + one ((farI t.p sl) ≤ J.wi ∧ ¬ thinB J t) }) : Code.wp Try.prog norest2 (QNO bx E w0) ⟨#[(.pointer (some ⟨bx,0,none⟩)),u1,u2,(.slice sa sn sc),u4,(.pointer (some ⟨g5,0,none⟩)),(.pointer (some ⟨g6,0,none⟩)),u7,u8,u9,A0,A1,A2,A3,A4,A5,A6,A7,A8,A9,Aa,Ab,Ac,Ad,Ae,Af,Ag,Ah,Ai,Aj,Ak,Al,Am,An,Ao,Ap,Aq,Ar,As,At,Au,Av,Aw,Ax,Ay,Az,C0,C1,C2,C3,C4,C5,C6,C7,C8,C9,Ca,Cb,Cc,Cd,Ce,Cf,Cg,Ch,Ci,Cj,Ck,Cl,Cm,Cn,Co,Cp,Cq,Cr,Cs,Ct,Cu,Cv,Cw,Cx,Cy,Cz,D0,D1,D2,D3,D4,D5,D6,D7,D8,D9,Da,Db,Dc,Dd,De,Df,Dg,Dh,Di,Dj,Dk,Dl,Dm,Dn,Do,Dp,Dq,Dr,Ds,Dt,Du,Dv,Dw,Dx,Dy,Dz,E0,E1,E2,E3,E4,E5,E6,E7,E8,E9,Ea,Eb,Ec,Ed,Ee,Ef,Eg,Eh,Ei,Ej,Ek,El,Em,u141,Eo,Ep,Eq,Er,Es,Et,Eu,Ev,Ew,Ex,Ey,Ez,F0,F1,F2,F3,F4,F5,F6,F7,F8,F9,Fa,Fb,Fc,u167],[]⟩ w := by
  rw [norest2_eq]
  have HQ := hidMk hq
  have HO := hidMk ho
  clear hq ho
  refine wp_seq_k fun K0 hK0 => ?_
  refine nor3 hs hE rfl rfl ?_
  intro w' hs' hE'
  intros
  refine hK0 _ _ ?_
  exact nopart3 hs' hE' ⟨HO.out.p,HO.out.t,HO.out.f⟩ hb hp hln hsl HQ.out
set_option maxHeartbeats 4000000 in
set_option maxRecDepth 1000000 in
theorem nopart1 {w0 w : World} {bx g5 g6 : Nat} {J : Jb} {s : Value} {t : Fd} {sa : Option Addr} {sn sc : Nat} {sl : List Int} {e : En} {E : En} {u1 u2 u4 u7 u8 u9 A0 A1 A2 A3 A4 A5 A6 A7 A8 A9 Aa Ab Ac Ad Ae Af Ag Ah Ai Aj Ak Al Am An Ao Ap Aq Ar As At Au Av Aw Ax Ay Az C0 C1 C2 C3 C4 C5 C6 C7 C8 C9 Ca Cb Cc Cd Ce Cf Cg Ch Ci Cj Ck Cl Cm Cn Co Cp Cq Cr Cs Ct Cu Cv Cw Cx Cy Cz D0 D1 D2 D3 D4 D5 D6 D7 D8 D9 Da Db Dc Dd De Df Dg Dh Di Dj Dk Dl Dm Dn Do Dp Dq Dr Ds Dt Du Dv Dw Dx Dy Dz E0 E1 E2 E3 E4 E5 E6 E7 E8 E9 Ea Eb Ec Ed Ee Ef Eg Eh Ei Ej Ek El Em u141 Eo Ep Eq Er Es Et Eu Ev Ew Ex Ey Ez F0 F1 F2 F3 F4 F5 F6 F7 F8 F9 Fa Fb Fc u167 : Value} (hs : NT w0 w bx g5 g6 J s t sa sl) (hE : Bk w bx 54 (enC e)) (ho : e.Ok) (hb : e.truths ≤ 100000000000000000) (hp : -500 ≤ t.p ∧ t.p ≤ 500) (hln : sn = sl.length ∧ sn ≤ 4) (hsl : ∀ x ∈ sl,-100 ≤ x ∧ x ≤ 100) (hq : E = { e with pl := mn (if decide (e.truths = 0) = true then t.p else e.pl) t.p,ph := mx (if decide (e.truths = 0) = true then t.p else e.ph) t.p,tl := mn (if decide (e.truths = 0) = true then t.t else e.tl) t.t,th := mx (if decide (e.truths = 0) = true then t.t else e.th) t.t,rl := mn (if decide (e.truths = 0) = true then t.r else e.rl) t.r,rh := mx (if decide (e.truths = 0) = true then t.r else e.rh) t.r,worst := mx e.worst (farI t.p sl),truths := e.truths + 1,passes := e.passes + one ((farI t.p sl) ≤ J.wi),thin := e.thin + one (thinB J t),fine := e.fine + one ((farI t.p sl) ≤ J.wi ∧ ¬ thinB J t) }) : Code.wp Try.prog norest1 (QNO bx E w0) ⟨#[(.pointer (some ⟨bx,0,none⟩)),u1,u2,(.slice sa sn sc),u4,(.pointer (some ⟨g5,0,none⟩)),(.pointer (some ⟨g6,0,none⟩)),u7,u8,u9,A0,A1,A2,A3,A4,A5,A6,A7,A8,A9,Aa,Ab,Ac,Ad,Ae,Af,Ag,Ah,Ai,Aj,Ak,Al,Am,An,Ao,Ap,Aq,Ar,As,At,Au,Av,Aw,Ax,Ay,Az,C0,C1,C2,C3,C4,C5,C6,C7,C8,C9,Ca,Cb,Cc,Cd,Ce,Cf,Cg,Ch,Ci,Cj,Ck,Cl,Cm,Cn,Co,Cp,Cq,Cr,Cs,Ct,Cu,Cv,Cw,Cx,Cy,Cz,D0,D1,D2,D3,D4,D5,D6,D7,D8,D9,Da,Db,Dc,Dd,De,Df,Dg,Dh,Di,Dj,Dk,Dl,Dm,Dn,Do,Dp,Dq,Dr,Ds,Dt,Du,Dv,Dw,Dx,Dy,Dz,E0,E1,E2,E3,E4,E5,E6,E7,E8,E9,Ea,Eb,Ec,Ed,Ee,Ef,Eg,Eh,Ei,Ej,Ek,El,Em,u141,Eo,Ep,Eq,Er,Es,Et,Eu,Ev,Ew,Ex,Ey,Ez,F0,F1,F2,F3,F4,F5,F6,F7,F8,F9,Fa,Fb,Fc,u167],[]⟩ w := by
  rw [norest1_eq]
  have HQ := hidMk hq
  have z := hE.at_ 10 (.int .i64 e.truths) rfl
  by_cases h0 : e.truths = 0
  · have HS := hidMk hs
    have HE := hidMk hE
    have H0 := hidMk h0
    have HHO := hidMk ho
    have HL := hidMk hln
    rw [h0] at z
    clear hs hE hq h0 ho hb hln
    refine wp_seq_k fun K0 hK0 => ?_
    go_wp2_with fail
    refine nor2 HS.out HE.out ?_
    intro w' hs' hE'
    intros
    refine hK0 _ _ ?_
    exact nopart2 hs' hE' ⟨HHO.out.p,HHO.out.t,HHO.out.f⟩ (by show e.truths ≤ _; rw [H0.out]; decide) hp HL.out hsl (by rw [HQ.out,if_pos (decide_eq_true H0.out),if_pos (decide_eq_true H0.out),if_pos (decide_eq_true H0.out),if_pos (decide_eq_true H0.out),if_pos (decide_eq_true H0.out),if_pos (decide_eq_true H0.out)])
  · have HS := hidMk hs
    have HE := hidMk hE
    have H0 := hidMk h0
    have HL := hidMk hln
    clear hs hE hq hln
    go_wp2_with fail
    exact nopart2 HS.out HE.out ho hb hp HL.out hsl (by
      have h1 : ¬ decide (e.truths = 0) = true := by simpa using H0.out
      rw [HQ.out]
      simp only [if_neg h1])
set_option maxHeartbeats 9000000 in
set_option maxRecDepth 1000000 in
/-- One truth is taken. -/
theorem note_any {J : Jb} {s : Value} {t : Fd} {sa : Option Addr} {sn sc : Nat} {sl : List Int} {e : En} {bx : Nat} {w : World} (hE : Bk w bx 54 (enC e)) (ho : e.Ok) (hb : e.truths ≤ 100000000000000000) (hp : -500 ≤ t.p ∧ t.p ≤ 500) (hln : sn = sl.length ∧ sn ≤ 4) (hsl : ∀ x ∈ sl,-100 ≤ x ∧ x ≤ 100) (hoff : Off sa bx) (his : Is w w.heap.size sa sl) :
    Calls Try.prog 59 #[(.pointer (some ⟨bx,0,none⟩)),.agg (jobC J s),fdV t,.slice sa sn sc] w fun x w' => x = .returned (.tuple #[]) ∧ Bk w' bx 54 (enC (e.note J (t,sl))) ∧ PB bx w.heap.size w w' := by
  have hl := hE.lt
  have q : Below w.heap.size w ((w.alloc (.cells (jobC J s) 30)).alloc (.cells #[.int .i64 t.p,.int .i64 t.t,.int .i64 t.r] 57)) := ((Below.refl _ _).alloc (Nat.le_refl _) _).alloc (by simp) _
  have hs : NT w ((w.alloc (.cells (jobC J s) 30)).alloc (.cells #[.int .i64 t.p,.int .i64 t.t,.int .i64 t.r] 57)) bx w.heap.size (w.heap.size + 1) J s t sa sl :=
    ⟨PB.of q,hl,(Bk.new _ _ _).alloc _,Bk.newAt _ _ _ _ (by simp),his.up q,⟨by omega,by omega⟩,hoff⟩
  have HS := hidMk hs
  have HE := hidMk (hE.below q hl)
  clear hs hE his q
  go_enter Try.func59,Try.ntmps59
  show Code.wp Try.prog nobody (QNO bx (e.note J (t,sl)) w) _ _
  rw [nobody_eq]
  go_wp2_with fail
  exact nopart1 HS.out HE.out ho hb hp hln hsl rfl
end Go.Proofs.Ytolabejbhaeddaa
/- Contract of StrokesOf. -/
namespace Go.Proofs.Ytolabejbhaeddaa
set_option linter.all false
open Go.RowKit
end Go.Proofs.Ytolabejbhaeddaa
/- The contract of musettekit.SameInts. -/
namespace Go.Proofs.Ytolabejbhaeddaa
set_option linter.all false
open Go.RowKit

end Go.Proofs.Ytolabejbhaeddaa
/- Contracts of the kit's Ints and Turn. -/
namespace Go.Proofs.Ytolabejbhaeddaa
set_option linter.all false
open Go.RowKit
theorem add_i (b off k : Nat) : (⟨b,off,none⟩ : Addr).add k = ⟨b,off + k,none⟩ := by
  unfold Addr.add
  split
  · rename_i hk0; subst hk0; rfl
  · rfl
theorem is_news {W : World} {B : Nat} {ad : Addr} {l : List Int} (h : Is W B (some ad) l) : ∀ j u,(l.map (Value.int .i64))[j]? = some u → W.cell? (ad.add j) = some u := by
  intro j u hj
  rw [List.getElem?_map] at hj
  obtain ⟨x,hx,rfl⟩ := Option.map_eq_some_iff.1 hj
  obtain ⟨b,off,e,_,e0⟩ := h j x hx
  cases e
  rw [add_i]
  exact e0
theorem is_one (l : List Int) : ∀ u ∈ l.map (Value.int .i64),u.oneCell' = true := by
  intro u hu
  obtain ⟨x,_,rfl⟩ := List.mem_map.1 hu
  rfl
end Go.Proofs.Ytolabejbhaeddaa
/- The law ReedAll: all, one truth. -/
namespace Go.Proofs.Ytolabejbhaeddaa
set_option linter.all false
open Go.RowKit Go.Great

theorem Rg.pbo {w w' : World} {B b : Nat} {a : Option Addr} {l : List R2} (h : Rg w B a l) (ho : l ≠ [] → Off a b) (hk : PB b B w w') : Rg w' B a l := fun k r hr => by
  obtain ⟨q,o,e,hb,h0,h1⟩ := h k r hr
  have hq := hk.heap q hb (ho (fun e2 => by rw [e2] at hr; simp at hr) q o none e)
  exact ⟨q,o,e,hb,(World.cell?_of_block (a := ⟨q,o + k * 2,none⟩) hq).trans h0,(World.cell?_of_block (a := ⟨q,o + k * 2 + 1,none⟩) hq).trans h1⟩
theorem Is.pbo {w w' : World} {B b : Nat} {a : Option Addr} {l : List Int} (h : Is w B a l) (ho : l ≠ [] → Off a b) (hk : PB b B w w') : Is w' B a l := fun k r hr => by
  obtain ⟨q,o,e,hb,h0⟩ := h k r hr
  have hq := hk.heap q hb (ho (fun e2 => by rw [e2] at hr; simp at hr) q o none e)
  exact ⟨q,o,e,hb,(World.cell?_of_block (a := ⟨q,o + k,none⟩) hq).trans h0⟩
theorem Rg.hi2 {w : World} {B B' : Nat} {a : Option Addr} {l : List R2} (h : Rg w B a l) (hB : B ≤ B') : Rg w B' a l := h.keep hB fun _ _ => rfl
theorem Is.hi2 {w : World} {B B' : Nat} {a : Option Addr} {l : List Int} (h : Is w B a l) (hB : B ≤ B') : Is w B' a l := h.keep hB fun _ _ => rfl
theorem Is.offB {w : World} {B b : Nat} {a : Option Addr} {l : List Int} (h : Is w B a l) (hb : B ≤ b) : l ≠ [] → Off a b := fun hl q o z e => by
  obtain ⟨q',o',e',hq,_⟩ := h 0 (l[0]'(List.length_pos_iff.2 hl)) (List.getElem?_eq_getElem _)
  rw [e'] at e
  cases e
  omega
theorem Rg.offB {w : World} {B b : Nat} {a : Option Addr} {l : List R2} (h : Rg w B a l) (hb : B ≤ b) : l ≠ [] → Off a b := fun hl q o z e => by
  obtain ⟨q',o',e',hq,_⟩ := h 0 (l[0]'(List.length_pos_iff.2 hl)) (List.getElem?_eq_getElem _)
  rw [e'] at e
  cases e
  omega
/-- What lies about in all. -/
structure AT (w0 w : World) (bx g6 g7 : Nat) (J : Jb) (sa : Option Addr) (sn sc : Nat) (t : Fd) (la : Option Addr) (l : List Int) (aa : Option Addr) (acc : List Int) : Prop where
  b0 : PB bx w0.heap.size w0 w
  hx : bx < w0.heap.size
  job : Bk w g6 30 (jobC J (.slice sa sn sc))
  fl : Bk w g7 57 #[.int .i64 t.p,.int .i64 t.t,.int .i64 t.r]
  rg0 : Rg w0 w0.heap.size sa J.sh
  ls0 : Is w0 w0.heap.size la l
  as0 : Is w0 w0.heap.size aa acc
  ne : w0.heap.size ≤ g6 ∧ w0.heap.size ≤ g7
  off : (J.sh ≠ [] → Off sa bx) ∧ (l ≠ [] → Off la bx) ∧ (acc ≠ [] → Off aa bx)
section
variable {w0 w w' : World} {bx g6 g7 : Nat} {J : Jb} {sa : Option Addr} {sn sc : Nat} {t : Fd} {la : Option Addr} {l : List Int} {aa : Option Addr} {acc : List Int}
theorem AT.rg (h : AT w0 w bx g6 g7 J sa sn sc t la l aa acc) : Rg w w.heap.size sa J.sh := (h.rg0.pbo h.off.1 h.b0).hi2 h.b0.size
theorem AT.ls (h : AT w0 w bx g6 g7 J sa sn sc t la l aa acc) : Is w w.heap.size la l := (h.ls0.pbo h.off.2.1 h.b0).hi2 h.b0.size
theorem AT.as (h : AT w0 w bx g6 g7 J sa sn sc t la l aa acc) : Is w w.heap.size aa acc := (h.as0.pbo h.off.2.2 h.b0).hi2 h.b0.size
theorem AT.pb (h : AT w0 w bx g6 g7 J sa sn sc t la l aa acc) (hk : PB bx w.heap.size w w') : AT w0 w' bx g6 g7 J sa sn sc t la l aa acc :=
  ⟨h.b0.trans hk h.b0.size,h.hx,h.job.pb hk h.job.lt (by have := h.ne; have := h.hx; omega),h.fl.pb hk h.fl.lt (by have := h.ne; have := h.hx; omega),h.rg0,h.ls0,h.as0,h.ne,h.off⟩
theorem AT.next (h : AT w0 w bx g6 g7 J sa sn sc t la l aa acc) (hb : Below w.heap.size w w') : AT w0 w' bx g6 g7 J sa sn sc t la l aa acc := h.pb (PB.of hb)
/-- A cell of a block of its own is set. -/
theorem AT.own (h : AT w0 w bx g6 g7 J sa sn sc t la l aa acc) {g i : Nat} (h0 : w0.heap.size ≤ g) (h6 : g6 ≠ g) (h7 : g7 ≠ g) (v : Value) : AT w0 (w.setCell ⟨g,i,none⟩ v) bx g6 g7 J sa sn sc t la l aa acc :=
  ⟨h.b0.setCell (p := ⟨g,i,none⟩) h0 v,h.hx,h.job.other (p := ⟨g,i,none⟩) h6 v,h.fl.other (p := ⟨g,i,none⟩) h7 v,h.rg0,h.ls0,h.as0,h.ne,h.off⟩
end
def QAL (bx : Nat) (E : En) (w0 : World) : Exit → Act → World → Prop := bodyPost Try.prog Try.f24 fun x w' => x = .returned (.tuple #[]) ∧ Bk w' bx 54 (enC E) ∧ PB bx w0.heap.size w0 w'
/-- The tongue is not far off yet. -/
def TB (k : Nat) (t : Fd) : Prop := (-(400 - 12 * (k : Int)) ≤ t.p ∧ t.p ≤ 400 - 12 * (k : Int)) ∧ (-(400 - 12 * (k : Int)) ≤ t.t ∧ t.t ≤ 400 - 12 * (k : Int)) ∧ (-(400 - 12 * (k : Int)) ≤ t.r ∧ t.r ≤ 400 - 12 * (k : Int))
abbrev capN : Int := 100000000000000000
theorem notes_append (J : Jb) (e : En) (a b : List (Fd × List Int)) : e.notes J (a ++ b) = (e.notes J a).notes J b := List.foldl_append
theorem notes_truths (J : Jb) : ∀ (l : List (Fd × List Int)) (e : En),(e.notes J l).truths = e.truths + l.length
  | [],e => by simp [En.notes]
  | q :: l,e => by
    have h := notes_truths J l (e.note J q)
    have h2 : (e.note J q).truths = e.truths + 1 := rfl
    show ((e.note J q).notes J l).truths = _
    rw [h,h2]
    simp only [List.length_cons]
    push_cast
    omega
theorem En.Ok.notes {J : Jb} : ∀ (l : List (Fd × List Int)) {e : En},e.Ok → (e.notes J l).Ok
  | [],_,h => h
  | q :: l,_,h => En.Ok.notes l (h.note q)
noncomputable def albody : Code := Try.f24.body.getD .skip
noncomputable def alrest1 : Code := sndB albody
noncomputable def alrest2 : Code := sndB alrest1
noncomputable def alrest3 : Code := sndB alrest2
noncomputable def alrest4 : Code := sndB alrest3
set_option maxRecDepth 1000000 in
theorem albody_eq : albody = .seq (Code.region 0 #[⟨some 6,.box 30 (.tmp 1),0,"outright.go:172",#[],none⟩,⟨some 7,.box 57 (.tmp 2),0,"outright.go:172",#[],none⟩] false) alrest1 := by kernel_rfl
set_option maxRecDepth 1000000 in
theorem alrest2_eq : alrest2 = .seq (Code.region 11 #[⟨some 58,.fieldAddr 30 (.tmp 6) 1,0,"outright.go:187",#[],none⟩,⟨some 59,.fieldAddr 27 (.tmp 58) 0,0,"outright.go:187",#[⟨0,.data⟩],none⟩,⟨some 60,.load 23 (.tmp 59),23,"outright.go:187",#[⟨1,.data⟩],none⟩,⟨some 61,.fieldAddr 30 (.tmp 6) 1,0,"outright.go:187",#[⟨8,.gcOnly .lateStores⟩],none⟩,⟨some 62,.fieldAddr 27 (.tmp 61) 2,0,"outright.go:187",#[⟨3,.data⟩,⟨8,.gcOnly .lateStores⟩],none⟩,⟨some 63,.load 23 (.tmp 62),23,"outright.go:187",#[⟨4,.data⟩,⟨8,.gcOnly .lateStores⟩],none⟩,⟨some 12,.alloc 23,0,"outright.go:187",#[],none⟩,⟨some 13,.alloc 23,0,"outright.go:187",#[],none⟩,⟨none,.store 23 (.tmp 12) (.tmp 60),0,"outright.go:187",#[⟨6,.data⟩,⟨2,.data⟩,⟨0,.phase⟩,⟨1,.phase⟩,⟨2,.phase⟩,⟨3,.textOnly .lateStores⟩,⟨4,.textOnly .lateStores⟩,⟨5,.textOnly .lateStores⟩,⟨6,.phase⟩,⟨7,.phase⟩],none⟩,⟨none,.store 23 (.tmp 13) (.tmp 63),0,"outright.go:187",#[⟨7,.data⟩,⟨5,.data⟩,⟨8,.chain⟩,⟨0,.phase⟩,⟨1,.phase⟩,⟨2,.phase⟩,⟨3,.phase⟩,⟨4,.phase⟩,⟨5,.phase⟩,⟨6,.phase⟩,⟨7,.phase⟩,⟨8,.phase⟩],none⟩] true) alrest3 := by kernel_rfl
set_option maxRecDepth 1000000 in
theorem alrest3_eq : alrest3 = .seq (.seq (Code.region 12 #[⟨some 64,.move (.tmp 3),31,"outright.go:188",#[],none⟩,⟨some 65,.indexAddr 31 (.tmp 64) (.const (.int .i64 0)),0,"outright.go:188",#[⟨0,.data⟩],none⟩,⟨some 66,.load 3 (.tmp 65),3,"outright.go:188",#[⟨1,.data⟩],none⟩,⟨some 67,.binOp .eql 3 (.tmp 66) (.const (.int .i64 2)) 3,4,"outright.go:188",#[⟨2,.data⟩],none⟩] false) (.cond (.tmp 67) (Code.region 13 #[⟨some 68,.fieldAddr 30 (.tmp 6) 1,0,"outright.go:189",#[],none⟩,⟨some 69,.fieldAddr 27 (.tmp 68) 1,0,"outright.go:189",#[⟨0,.data⟩],none⟩,⟨some 70,.fieldAddr 23 (.tmp 69) 1,0,"outright.go:189",#[⟨1,.data⟩],none⟩,⟨some 71,.load 3 (.tmp 70),3,"outright.go:189",#[⟨2,.data⟩],none⟩,⟨some 72,.unOp .neg 3 (.tmp 71),3,"outright.go:189",#[⟨3,.data⟩],none⟩,⟨some 73,.fieldAddr 30 (.tmp 6) 1,0,"outright.go:189",#[],none⟩,⟨some 74,.fieldAddr 27 (.tmp 73) 1,0,"outright.go:189",#[⟨5,.data⟩],none⟩,⟨some 75,.fieldAddr 23 (.tmp 74) 0,0,"outright.go:189",#[⟨6,.data⟩],none⟩,⟨some 76,.load 3 (.tmp 75),3,"outright.go:189",#[⟨7,.data⟩],none⟩,⟨some 77,.unOp .neg 3 (.tmp 76),3,"outright.go:189",#[⟨8,.data⟩],none⟩,⟨some 78,.call { callee := .value (.func 32),args := #[.tmp 72,.tmp 77],argTypes := #[3,3] },23,"outright.go:189",#[⟨4,.data⟩,⟨9,.data⟩],none⟩,⟨some 79,.fieldAddr 30 (.tmp 6) 1,0,"outright.go:189",#[⟨14,.gcOnly .lateStores⟩],none⟩,⟨some 80,.fieldAddr 27 (.tmp 79) 3,0,"outright.go:189",#[⟨11,.data⟩,⟨14,.gcOnly .lateStores⟩],none⟩,⟨some 81,.load 23 (.tmp 80),23,"outright.go:189",#[⟨12,.data⟩,⟨14,.gcOnly .lateStores⟩],none⟩,⟨none,.store 23 (.tmp 12) (.tmp 78),0,"outright.go:189",#[⟨10,.data⟩,⟨10,.chain⟩,⟨0,.phase⟩,⟨1,.phase⟩,⟨2,.phase⟩,⟨3,.phase⟩,⟨4,.phase⟩,⟨5,.phase⟩,⟨6,.phase⟩,⟨7,.phase⟩,⟨8,.phase⟩,⟨9,.phase⟩,⟨10,.phase⟩,⟨11,.textOnly .lateStores⟩,⟨12,.textOnly .lateStores⟩,⟨13,.textOnly .lateStores⟩],none⟩,⟨none,.store 23 (.tmp 13) (.tmp 81),0,"outright.go:189",#[⟨13,.data⟩,⟨14,.chain⟩,⟨0,.phase⟩,⟨1,.phase⟩,⟨2,.phase⟩,⟨3,.phase⟩,⟨4,.phase⟩,⟨5,.phase⟩,⟨6,.phase⟩,⟨7,.phase⟩,⟨8,.phase⟩,⟨9,.phase⟩,⟨10,.phase⟩,⟨11,.phase⟩,⟨12,.phase⟩,⟨13,.phase⟩,⟨14,.phase⟩],none⟩] true) .skip)) alrest4 := by kernel_rfl
/-- A way through code. -/
noncomputable def navC : List Nat → Code → Code
  | 0 :: p,.seq a _ => navC p a
  | 1 :: p,.seq _ b => navC p b
  | 0 :: p,.cond _ a _ => navC p a
  | 1 :: p,.cond _ _ b => navC p b
  | 0 :: p,.block _ a => navC p a
  | 0 :: p,.loop a => navC p a
  | _,a => a
noncomputable def alX : Code := navC [0,1,0] alrest1
noncomputable def alZ : Code := navC [1] alX
noncomputable def alB : Code := navC [0,1,0] alX
noncomputable def alL : Code := navC [1,0,0,1,0,0] alrest4
noncomputable def alM : Code := navC [1,0,0,1,0,0] alL
set_option maxRecDepth 1000000 in
theorem alrest1_cut : alrest1 = .seq (.seq (Code.region 1 #[⟨some 17,.move (.tmp 3),31,"outright.go:173",#[],none⟩,⟨some 18,.call { callee := .builtin .len,args := #[.tmp 17],argTypes := #[31] },3,"outright.go:173",#[⟨0,.data⟩],none⟩,⟨some 19,.binOp .eql 3 (.tmp 18) (.const (.int .i64 0)) 3,4,"outright.go:173",#[⟨1,.data⟩],none⟩] false) (.cond (.tmp 19) alX .skip)) alrest2 := by kernel_rfl
set_option maxRecDepth 1000000 in
theorem alX_eq : alX = .seq (.seq (Code.region 2 #[⟨some 20,.move (.tmp 4),31,"outright.go:174",#[],none⟩,⟨some 21,.call { callee := .builtin .len,args := #[.tmp 20],argTypes := #[31] },3,"outright.go:174",#[⟨0,.data⟩],none⟩,⟨some 22,.fieldAddr 30 (.tmp 6) 2,0,"outright.go:174",#[],none⟩,⟨some 23,.load 28 (.tmp 22),28,"outright.go:174",#[⟨2,.data⟩],none⟩,⟨some 24,.call { callee := .builtin .len,args := #[.tmp 23],argTypes := #[28] },3,"outright.go:174",#[⟨3,.data⟩],none⟩,⟨some 25,.binOp .lss 3 (.tmp 21) (.tmp 24) 3,4,"outright.go:174",#[⟨1,.data⟩,⟨4,.data⟩],none⟩] false) (.cond (.tmp 25) alB .skip)) alZ := by kernel_rfl
set_option maxRecDepth 1000000 in
theorem alZ_eq : alZ = (.seq (.seq (Code.region 8 #[⟨some 49,.move (.tmp 4),31,"outright.go:181",#[],none⟩,⟨some 50,.call { callee := .builtin .len,args := #[.tmp 49],argTypes := #[31] },3,"outright.go:181",#[⟨0,.data⟩],none⟩,⟨some 51,.binOp .eql 3 (.tmp 50) (.const (.int .i64 0)) 3,4,"outright.go:181",#[⟨1,.data⟩],none⟩] false) (.cond (.tmp 51) (Code.region 9 #[⟨some 52,.buildSlice 31 1 #[(0,.const (.int .i64 0))],31,"outright.go:182",#[],none⟩,⟨some 4,.assign (.tmp 52),31,"outright.go:182",#[⟨0,.data⟩,⟨0,.phase⟩],none⟩] false) .skip)) (.seq (Code.region 10 #[⟨some 53,.move (.tmp 0),100,"outright.go:184",#[],none⟩,⟨some 54,.load 30 (.tmp 6),30,"outright.go:184",#[],none⟩,⟨some 55,.load 57 (.tmp 7),57,"outright.go:184",#[],none⟩,⟨some 56,.move (.tmp 4),31,"outright.go:184",#[],none⟩,⟨some 57,.call { callee := .value (.func 59),args := #[.tmp 53,.tmp 54,.tmp 55,.tmp 56],argTypes := #[100,30,57,31] },0,"outright.go:184",#[⟨0,.data⟩,⟨1,.data⟩,⟨2,.data⟩,⟨3,.data⟩],none⟩] false) .ret)) := by kernel_rfl
set_option maxRecDepth 1000000 in
theorem alB_eq : alB = (.seq (Code.region 3 #[⟨some 26,.fieldAddr 30 (.tmp 6) 2,0,"outright.go:175",#[],none⟩,⟨some 27,.load 28 (.tmp 26),28,"outright.go:175",#[⟨0,.data⟩],none⟩,⟨some 28,.move (.tmp 4),31,"outright.go:175",#[],none⟩,⟨some 29,.call { callee := .builtin .len,args := #[.tmp 28],argTypes := #[31] },3,"outright.go:175",#[⟨2,.data⟩],none⟩,⟨some 30,.indexAddr 28 (.tmp 27) (.tmp 29),0,"outright.go:175",#[⟨1,.data⟩,⟨3,.data⟩],none⟩,⟨some 31,.load 23 (.tmp 30),23,"outright.go:175",#[⟨4,.data⟩],none⟩,⟨some 10,.alloc 23,0,"outright.go:175",#[],none⟩,⟨none,.store 23 (.tmp 10) (.tmp 31),0,"outright.go:175",#[⟨6,.data⟩,⟨5,.data⟩,⟨0,.phase⟩,⟨1,.phase⟩,⟨2,.phase⟩,⟨3,.phase⟩,⟨4,.phase⟩,⟨5,.phase⟩,⟨6,.phase⟩],none⟩] false) (.seq (.seq (Code.region 4 #[⟨some 32,.fieldAddr 23 (.tmp 10) 0,0,"outright.go:176",#[],none⟩,⟨some 33,.load 3 (.tmp 32),3,"outright.go:176",#[⟨0,.data⟩],none⟩,⟨some 11,.assign (.tmp 33),3,"outright.go:176",#[⟨1,.data⟩,⟨0,.phase⟩,⟨1,.phase⟩],none⟩] false) (.block 0 (.loop (.seq (.seq (Code.region 5 #[⟨some 34,.move (.tmp 11),3,"outright.go:176",#[],none⟩,⟨some 35,.fieldAddr 23 (.tmp 10) 1,0,"outright.go:176",#[],none⟩,⟨some 36,.load 3 (.tmp 35),3,"outright.go:176",#[⟨1,.data⟩],none⟩,⟨some 37,.binOp .leq 3 (.tmp 34) (.tmp 36) 3,4,"outright.go:176",#[⟨0,.data⟩,⟨2,.data⟩],none⟩] false) (.cond (.tmp 37) .skip (.exit 0))) (.seq (.block 1 (Code.region 7 #[⟨some 40,.move (.tmp 0),100,"outright.go:177",#[],none⟩,⟨some 41,.load 30 (.tmp 6),30,"outright.go:177",#[],none⟩,⟨some 42,.load 57 (.tmp 7),57,"outright.go:177",#[],none⟩,⟨some 43,.move (.tmp 4),31,"outright.go:177",#[],none⟩,⟨some 44,.call { callee := .value (.func 58),args := #[.tmp 43],argTypes := #[31] },31,"outright.go:177",#[⟨3,.data⟩],none⟩,⟨some 45,.move (.tmp 11),3,"outright.go:177",#[],none⟩,⟨some 46,.buildSlice 31 1 #[(0,.tmp 45)],31,"outright.go:177",#[⟨5,.data⟩],none⟩,⟨some 47,.call { callee := .builtin .append,args := #[.tmp 44,.tmp 46],argTypes := #[31,31] },31,"outright.go:177",#[⟨4,.data⟩,⟨6,.data⟩,⟨4,.chain⟩],none⟩,⟨some 48,.call { callee := .value (.func 24),args := #[.tmp 40,.tmp 41,.tmp 42,.const (.slice none 0 0),.tmp 47],argTypes := #[100,30,57,31,31] },0,"outright.go:177",#[⟨0,.data⟩,⟨1,.data⟩,⟨2,.data⟩,⟨7,.data⟩,⟨7,.chain⟩],none⟩] true)) (Code.region 6 #[⟨some 38,.move (.tmp 11),3,"outright.go:176",#[],none⟩,⟨some 39,.binOp .add 3 (.tmp 38) (.const (.int .i64 1)) 3,3,"outright.go:176",#[⟨0,.data⟩],none⟩,⟨some 11,.assign (.tmp 39),3,"outright.go:176",#[⟨1,.data⟩,⟨0,.phase⟩,⟨1,.phase⟩],none⟩] false)))))) .ret)) := by kernel_rfl
set_option maxRecDepth 1000000 in
theorem alrest4_cut : alrest4 = .seq (Code.region 14 #[⟨some 82,.fieldAddr 23 (.tmp 12) 0,0,"outright.go:191",#[],none⟩,⟨some 83,.load 3 (.tmp 82),3,"outright.go:191",#[⟨0,.data⟩],none⟩,⟨some 14,.assign (.tmp 83),3,"outright.go:191",#[⟨1,.data⟩,⟨0,.phase⟩,⟨1,.phase⟩],none⟩] false) (.block 2 (.loop (.seq (.seq (Code.region 15 #[⟨some 84,.move (.tmp 14),3,"outright.go:191",#[],none⟩,⟨some 85,.fieldAddr 23 (.tmp 12) 1,0,"outright.go:191",#[],none⟩,⟨some 86,.load 3 (.tmp 85),3,"outright.go:191",#[⟨1,.data⟩],none⟩,⟨some 87,.binOp .leq 3 (.tmp 84) (.tmp 86) 3,4,"outright.go:191",#[⟨0,.data⟩,⟨2,.data⟩],none⟩] false) (.cond (.tmp 87) .skip (.exit 2))) (.seq (.block 3 alL) (Code.region 16 #[⟨some 88,.move (.tmp 14),3,"outright.go:191",#[],none⟩,⟨some 89,.binOp .add 3 (.tmp 88) (.const (.int .i64 1)) 3,3,"outright.go:191",#[⟨0,.data⟩],none⟩,⟨some 14,.assign (.tmp 89),3,"outright.go:191",#[⟨1,.data⟩,⟨0,.phase⟩,⟨1,.phase⟩],none⟩] false))))) := by kernel_rfl
set_option maxRecDepth 1000000 in
theorem alL_eq : alL = .seq (Code.region 17 #[⟨some 90,.fieldAddr 23 (.tmp 13) 0,0,"outright.go:192",#[],none⟩,⟨some 91,.load 3 (.tmp 90),3,"outright.go:192",#[⟨0,.data⟩],none⟩,⟨some 15,.assign (.tmp 91),3,"outright.go:192",#[⟨1,.data⟩,⟨0,.phase⟩,⟨1,.phase⟩],none⟩] false) (.block 4 (.loop (.seq (.seq (Code.region 18 #[⟨some 92,.move (.tmp 15),3,"outright.go:192",#[],none⟩,⟨some 93,.fieldAddr 23 (.tmp 13) 1,0,"outright.go:192",#[],none⟩,⟨some 94,.load 3 (.tmp 93),3,"outright.go:192",#[⟨1,.data⟩],none⟩,⟨some 95,.binOp .leq 3 (.tmp 92) (.tmp 94) 3,4,"outright.go:192",#[⟨0,.data⟩,⟨2,.data⟩],none⟩] false) (.cond (.tmp 95) .skip (.exit 4))) (.seq (.block 5 alM) (Code.region 19 #[⟨some 96,.move (.tmp 15),3,"outright.go:192",#[],none⟩,⟨some 97,.binOp .add 3 (.tmp 96) (.const (.int .i64 1)) 3,3,"outright.go:192",#[⟨0,.data⟩],none⟩,⟨some 15,.assign (.tmp 97),3,"outright.go:192",#[⟨1,.data⟩,⟨0,.phase⟩,⟨1,.phase⟩],none⟩] false))))) := by kernel_rfl
set_option maxRecDepth 1000000 in
theorem alM_eq : alM = (.seq (Code.region 20 #[⟨some 98,.fieldAddr 57 (.tmp 7) 0,0,"outright.go:193",#[],none⟩,⟨some 99,.load 3 (.tmp 98),3,"outright.go:193",#[⟨0,.data⟩],none⟩,⟨some 100,.move (.tmp 14),3,"outright.go:193",#[],none⟩,⟨some 101,.binOp .add 3 (.tmp 99) (.tmp 100) 3,3,"outright.go:193",#[⟨1,.data⟩,⟨2,.data⟩],none⟩,⟨some 102,.fieldAddr 57 (.tmp 7) 1,0,"outright.go:193",#[],none⟩,⟨some 103,.load 3 (.tmp 102),3,"outright.go:193",#[⟨4,.data⟩],none⟩,⟨some 104,.fieldAddr 57 (.tmp 7) 2,0,"outright.go:193",#[],none⟩,⟨some 105,.load 3 (.tmp 104),3,"outright.go:193",#[⟨6,.data⟩],none⟩,⟨some 106,.build 57 #[(0,.tmp 101),(1,.tmp 103),(2,.tmp 105)],57,"outright.go:193",#[⟨3,.data⟩,⟨5,.data⟩,⟨7,.data⟩],none⟩,⟨some 16,.alloc 57,0,"outright.go:193",#[],none⟩,⟨none,.store 57 (.tmp 16) (.tmp 106),0,"outright.go:193",#[⟨9,.data⟩,⟨8,.data⟩,⟨0,.phase⟩,⟨1,.phase⟩,⟨2,.phase⟩,⟨3,.phase⟩,⟨4,.phase⟩,⟨5,.phase⟩,⟨6,.phase⟩,⟨7,.phase⟩,⟨8,.phase⟩,⟨9,.phase⟩],none⟩] false) (.seq (.seq (Code.region 21 #[⟨some 107,.move (.tmp 3),31,"outright.go:194",#[],none⟩,⟨some 108,.indexAddr 31 (.tmp 107) (.const (.int .i64 0)),0,"outright.go:194",#[⟨0,.data⟩],none⟩,⟨some 109,.load 3 (.tmp 108),3,"outright.go:194",#[⟨1,.data⟩],none⟩,⟨some 110,.binOp .eql 3 (.tmp 109) (.const (.int .i64 1)) 3,4,"outright.go:194",#[⟨2,.data⟩],none⟩] false) (.cond (.tmp 110) (Code.region 22 #[⟨some 111,.fieldAddr 57 (.tmp 7) 1,0,"outright.go:195",#[],none⟩,⟨some 112,.load 3 (.tmp 111),3,"outright.go:195",#[⟨0,.data⟩],none⟩,⟨some 113,.move (.tmp 15),3,"outright.go:195",#[],none⟩,⟨some 114,.binOp .sub 3 (.tmp 112) (.tmp 113) 3,3,"outright.go:195",#[⟨1,.data⟩,⟨2,.data⟩],none⟩,⟨some 115,.fieldAddr 57 (.tmp 16) 1,0,"outright.go:195",#[⟨0,.phase⟩,⟨1,.phase⟩,⟨2,.phase⟩,⟨3,.phase⟩],none⟩,⟨none,.store 3 (.tmp 115) (.tmp 114),0,"outright.go:195",#[⟨4,.data⟩,⟨3,.data⟩,⟨0,.phase⟩,⟨1,.phase⟩,⟨2,.phase⟩,⟨3,.phase⟩],none⟩] false) (Code.region 23 #[⟨some 116,.fieldAddr 57 (.tmp 7) 2,0,"outright.go:197",#[],none⟩,⟨some 117,.load 3 (.tmp 116),3,"outright.go:197",#[⟨0,.data⟩],none⟩,⟨some 118,.move (.tmp 15),3,"outright.go:197",#[],none⟩,⟨some 119,.binOp .sub 3 (.tmp 117) (.tmp 118) 3,3,"outright.go:197",#[⟨1,.data⟩,⟨2,.data⟩],none⟩,⟨some 120,.fieldAddr 57 (.tmp 16) 2,0,"outright.go:197",#[⟨0,.phase⟩,⟨1,.phase⟩,⟨2,.phase⟩,⟨3,.phase⟩],none⟩,⟨none,.store 3 (.tmp 120) (.tmp 119),0,"outright.go:197",#[⟨4,.data⟩,⟨3,.data⟩,⟨0,.phase⟩,⟨1,.phase⟩,⟨2,.phase⟩,⟨3,.phase⟩],none⟩] false))) (Code.region 24 #[⟨some 121,.move (.tmp 0),100,"outright.go:199",#[],none⟩,⟨some 122,.load 30 (.tmp 6),30,"outright.go:199",#[],none⟩,⟨some 123,.load 57 (.tmp 16),57,"outright.go:199",#[],none⟩,⟨some 124,.move (.tmp 3),31,"outright.go:199",#[],none⟩,⟨some 125,.slice 31 (.tmp 124) (some (.const (.int .i64 1))) none none,31,"outright.go:199",#[⟨3,.data⟩],none⟩,⟨some 126,.move (.tmp 4),31,"outright.go:199",#[],none⟩,⟨some 127,.call { callee := .value (.func 24),args := #[.tmp 121,.tmp 122,.tmp 123,.tmp 125,.tmp 126],argTypes := #[100,30,57,31,31] },0,"outright.go:199",#[⟨0,.data⟩,⟨1,.data⟩,⟨2,.data⟩,⟨4,.data⟩,⟨5,.data⟩],none⟩] true))) := by kernel_rfl
set_option maxHeartbeats 9000000 in
set_option maxRecDepth 1000000 in
theorem alZ_ok {w0 w : World} {bx g6 g7 : Nat} {J : Jb} {sa : Option Addr} {sn sc : Nat} {t : Fd} {la : Option Addr} {l : List Int} {aa : Option Addr} {an ac : Nat} {acc : List Int} {e : En} {Q : Exit → Act → World → Prop} {u1 u2 u3 u5 u8 u9 A0 A1 A2 A3 A4 A5 A6 A7 A8 A9 Aa Ab Ac Ad Ae Af Ag Ah Ai Aj Ak Al Am An Ao Ap Aq Ar As At Au Av Aw Ax Ay Az C0 C1 C2 C3 C4 C5 C6 C7 C8 C9 Ca Cb Cc Cd Ce Cf Cg Ch Ci Cj Ck Cl Cm Cn Co Cp Cq Cr Cs Ct Cu Cv Cw Cx Cy Cz D0 D1 D2 D3 D4 D5 D6 D7 D8 D9 Da Db Dc Dd De Df Dg Dh Di Dj Dk Dl Dm Dn Do Dp Dq Dr Ds Dt Du Dv Dw Dx Dy Dz E0 E1 E2 E3 E4 E5 E6 E7 E8 E9 : Value} (hs : AT w0 w bx g6 g7 J sa sn sc t la l aa acc) (hE : Bk w bx 54 (enC e)) (ho : e.Ok) (hb : e.truths ≤ capN) (htb : TB 0 t) (han : an = acc.length ∧ an ≤ 4) (hac : ∀ x ∈ acc,-100 ≤ x ∧ x ≤ 100) (hQ : ∀ (w' : World),Bk w' bx 54 (enC (e.note J (t,if acc = [] then [0] else acc))) → PB bx w0.heap.size w0 w' → ∀ (u0 u1 u2 u3 u4 u5 u6 u7 u8 u9 A0 A1 A2 A3 A4 A5 A6 A7 A8 A9 Aa Ab Ac Ad Ae Af Ag Ah Ai Aj Ak Al Am An Ao Ap Aq Ar As At Au Av Aw Ax Ay Az C0 C1 C2 C3 C4 C5 C6 C7 C8 C9 Ca Cb Cc Cd Ce Cf Cg Ch Ci Cj Ck Cl Cm Cn Co Cp Cq Cr Cs Ct Cu Cv Cw Cx Cy Cz D0 D1 D2 D3 D4 D5 D6 D7 D8 D9 Da Db Dc Dd De Df Dg Dh Di Dj Dk Dl Dm Dn Do Dp Dq Dr Ds Dt Du Dv Dw Dx Dy Dz E0 E1 E2 E3 E4 E5 E6 E7 E8 E9 : Value),Q .ret ⟨#[u0,u1,u2,u3,u4,u5,u6,u7,u8,u9,A0,A1,A2,A3,A4,A5,A6,A7,A8,A9,Aa,Ab,Ac,Ad,Ae,Af,Ag,Ah,Ai,Aj,Ak,Al,Am,An,Ao,Ap,Aq,Ar,As,At,Au,Av,Aw,Ax,Ay,Az,C0,C1,C2,C3,C4,C5,C6,C7,C8,C9,Ca,Cb,Cc,Cd,Ce,Cf,Cg,Ch,Ci,Cj,Ck,Cl,Cm,Cn,Co,Cp,Cq,Cr,Cs,Ct,Cu,Cv,Cw,Cx,Cy,Cz,D0,D1,D2,D3,D4,D5,D6,D7,D8,D9,Da,Db,Dc,Dd,De,Df,Dg,Dh,Di,Dj,Dk,Dl,Dm,Dn,Do,Dp,Dq,Dr,Ds,Dt,Du,Dv,Dw,Dx,Dy,Dz,E0,E1,E2,E3,E4,E5,E6,E7,E8,E9],[]⟩ w') : Code.wp Try.prog alZ Q ⟨#[(.pointer (some ⟨bx,0,none⟩)),u1,u2,u3,(.slice aa an ac),u5,(.pointer (some ⟨g6,0,none⟩)),(.pointer (some ⟨g7,0,none⟩)),u8,u9,A0,A1,A2,A3,A4,A5,A6,A7,A8,A9,Aa,Ab,Ac,Ad,Ae,Af,Ag,Ah,Ai,Aj,Ak,Al,Am,An,Ao,Ap,Aq,Ar,As,At,Au,Av,Aw,Ax,Ay,Az,C0,C1,C2,C3,C4,C5,C6,C7,C8,C9,Ca,Cb,Cc,Cd,Ce,Cf,Cg,Ch,Ci,Cj,Ck,Cl,Cm,Cn,Co,Cp,Cq,Cr,Cs,Ct,Cu,Cv,Cw,Cx,Cy,Cz,D0,D1,D2,D3,D4,D5,D6,D7,D8,D9,Da,Db,Dc,Dd,De,Df,Dg,Dh,Di,Dj,Dk,Dl,Dm,Dn,Do,Dp,Dq,Dr,Ds,Dt,Du,Dv,Dw,Dx,Dy,Dz,E0,E1,E2,E3,E4,E5,E6,E7,E8,E9],[]⟩ w := by
  rw [alZ_eq]
  have d0 := hs.fl.at_ 0 (.int .i64 t.p) rfl
  have d1 := hs.fl.at_ 1 (.int .i64 t.t) rfl
  have d2 := hs.fl.at_ 2 (.int .i64 t.r) rfl
  have HS := hidMk hs
  have HE := hidMk hE
  have HO := hidMk ho
  have HA := hidMk han
  have HC := hidMk hac
  have HQ := hidMk hQ
  clear hQ
  obtain ⟨ht1,ht2,ht3⟩ := htb
  cases acc with
  | nil =>
    obtain rfl : an = 0 := han.1
    clear hs hE ho hac han
    have hl7 := HS.out.fl.lt
    go_wp2_with (first | (refine wpList_load_row rfl 30 _ rfl g6 rfl _ (jobC J (.slice sa sn sc)) _ _ (HS.out.job.alloc _) Try.underlying30 rfl szJob ?_))
    have q : Below w.heap.size w (w.alloc (.cells #[.int .i64 0] 3)) := (Below.refl _ _).alloc (Nat.le_refl _) _
    have hx := HS.out.b0.size
    have hxx := HS.out.hx
    refine (note_any (J := J) (t := t) (sl := [0]) (HE.out.below q HE.out.lt) HO.out hb (by omega) ⟨rfl,by decide⟩ (by simp) (fun q o z e => by cases e; omega) (Is.of_bk [0] (Bk.new _ _ _) (by simp))).mono ?_
    rintro x w2 ⟨rfl,hE2,hk2⟩
    have HF := hidMk (And.intro hE2 (HS.out.b0.trans ((PB.of q).trans hk2 (by simp)) HS.out.b0.size))
    clear hE2 hk2 q d0 d1 d2
    go_wp2_with fail
    exact HQ.out _ HF.out.1 HF.out.2 _ _ _ _ _ _ _ _ _ _ _ _ _ _ _ _ _ _ _ _ _ _ _ _ _ _ _ _ _ _ _ _ _ _ _ _ _ _ _ _ _ _ _ _ _ _ _ _ _ _ _ _ _ _ _ _ _ _ _ _ _ _ _ _ _ _ _ _ _ _ _ _ _ _ _ _ _ _ _ _ _ _ _ _ _ _ _ _ _ _ _ _ _ _ _ _ _ _ _ _ _ _ _ _ _ _ _ _ _ _ _ _ _ _ _ _ _ _ _ _ _ _ _ _ _ _ _ _ 
  | cons y acc =>
    have hoff := hs.off.2.2 (by simp)
    have hn0 : ¬ an = 0 := by rw [han.1]; simp
    have hn0' : (an == 0) = false := by simp [hn0]
    have hn1 : ((an : Int) == 0) = false := by simp [hn0]
    clear hs hE ho hac han
    go_wp2_with (first | (refine wpList_load_row rfl 30 _ rfl g6 rfl _ (jobC J (.slice sa sn sc)) _ _ HS.out.job Try.underlying30 rfl szJob ?_))
    refine (note_any (J := J) (t := t) HE.out HO.out hb (by omega) HA.out HC.out hoff HS.out.as).mono ?_
    rintro x w2 ⟨rfl,hE2,hk2⟩
    have HF := hidMk (And.intro hE2 (HS.out.b0.trans hk2 HS.out.b0.size))
    clear hE2 hk2 d0 d1 d2
    go_wp2_with fail
    exact HQ.out _ HF.out.1 HF.out.2 _ _ _ _ _ _ _ _ _ _ _ _ _ _ _ _ _ _ _ _ _ _ _ _ _ _ _ _ _ _ _ _ _ _ _ _ _ _ _ _ _ _ _ _ _ _ _ _ _ _ _ _ _ _ _ _ _ _ _ _ _ _ _ _ _ _ _ _ _ _ _ _ _ _ _ _ _ _ _ _ _ _ _ _ _ _ _ _ _ _ _ _ _ _ _ _ _ _ _ _ _ _ _ _ _ _ _ _ _ _ _ _ _ _ _ _ _ _ _ _ _ _ _ _ _ _ _ _ 
end Go.Proofs.Ytolabejbhaeddaa
