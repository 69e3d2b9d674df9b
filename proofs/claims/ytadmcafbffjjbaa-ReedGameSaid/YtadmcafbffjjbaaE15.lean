/- Part 15 of the proof: GnJ. -/
import Derived.Deep.WholeRow
import Derived.Deep.MidRow
import Derived.Test.YtadmcafbffjjbaaE14
namespace Go.Proofs.Ytadmcafbffjjbaa
set_option linter.all false
open Go.RowKit
theorem setK_eq {J : Jb} {T T1 : Tg} {v : Value} (ht : T1.t1 = T.t1 ∧ T1.t2 = T.t2 ∧ T1.r1 = T.r1 ∧ T1.r2 = T.r2) : jobC (J.setTg T1) v = ((jobC (J.setTg T) v).setIfInBounds 0 (.int .i64 T1.p1)).setIfInBounds 1 (.int .i64 T1.p2) := by
  obtain ⟨a1,a2,a3,a4,a5,a6⟩ := T1
  obtain ⟨b1,b2,b3,b4,b5,b6⟩ := T
  obtain ⟨h1,h2,h3,h4⟩ := ht
  simp only at h1 h2 h3 h4
  subst h1 h2 h3 h4
  rfl
set_option maxHeartbeats 1000000 in
set_option maxRecDepth 1000000 in
theorem zp7 {w0 : World} {b g4 g7 g10 g11 : Nat} {J : Jb} {ja : Option Addr} {jn jc : Nat} {ka : Option Addr} {kc : Nat} {X : R2} {n s : Int} {th : Bool} {Q : Exit → Act → World → Prop} {T : Tg} {x : Fd} {kd : Int} {w : World} {u0 u1 u2 u6 u8 u9 A4 A5 A7 A8 A9 Aa Ab Ac Ad Ae Af Ag Ah Ai Aj Ak Al Am An Ao Ap Aq Ar As At Au Av Aw Ax Ay Az C0 C1 C2 C3 C4 C5 C6 C7 C8 C9 Ca Cb Cc Cd Ce Cf Cg Ch Ci Cj Ck Cl Cm Cn Co Cp Cq Cr Cs Ct Cu Cv Cw Cx Cy Cz D0 D1 D2 D3 D4 D5 D6 D7 D8 D9 Da Db Dc Dd De Df Dg Dh Di Dj Dk Dl Dm Dn Do Dp Dq Dr Ds Dt Du Dv Dw Dx Dy Dz E0 E1 E2 E3 E4 E5 E6 E7 E8 E9 Ea Eb Ec Ed Ee Ef Eg Eh Ei Ej Ek El Em En Eo Ep Eq Er Es Et Eu Ev Ew Ex Ey Ez F0 F1 F2 F3 F4 F5 F6 F7 F8 F9 Fa Fb Fc u167 Fe Ff Fg Fh Fi Fj Fk Fl Fm Fn Fo Fp Fq Fr Fs Ft Fu Fv Fw Fx Fy Fz L0 L1 L2 L3 L4 L5 L6 L7 L8 L9 La Lb Lc Ld Le Lf Lg Lh Li Lj Lk Ll Lm Ln Lo Lp Lq Lr : Value} (hF : J.Full) (hW : WOK J X) (htun : TunOK) (hjn : jn = J.sh.length) (hn4 : 0 ≤ n ∧ n ≤ 4) (h0s : 0 ≤ s) (hQ : GQ Q w0 b g4 g7 g10 g11 J ja jn jc ka kc X n s th) (hs : GL w0 w b g4 g7 g10 g11 J ja jn jc ka kc X T x) (hok : (J.setTg T).check = 0) (hhas : T.has x) (hkd : kd = 1 ∨ kd = 2) (hsp : spoilI J.le (strk J T kd) = 2) (hg : gT J (strk J T kd) ≤ n - (s + 1)) (hs1 : s + 1 ≤ n) : Code.wp Try.prog zb7 Q ⟨#[u0,u1,u2,(.pointer (some ⟨b,0,none⟩)),(.pointer (some ⟨g4,0,none⟩)),(.int .i64 n),u6,(.pointer (some ⟨g7,0,none⟩)),u8,u9,(.pointer (some ⟨g10,0,none⟩)),(.pointer (some ⟨g11,0,none⟩)),(.bool th),(.int .i64 s),A4,A5,(.int .i64 kd),A7,A8,A9,Aa,Ab,Ac,Ad,Ae,Af,Ag,Ah,Ai,Aj,Ak,Al,Am,An,Ao,Ap,Aq,Ar,As,At,Au,Av,Aw,Ax,Ay,Az,C0,C1,C2,C3,C4,C5,C6,C7,C8,C9,Ca,Cb,Cc,Cd,Ce,Cf,Cg,Ch,Ci,Cj,Ck,Cl,Cm,Cn,Co,Cp,Cq,Cr,Cs,Ct,Cu,Cv,Cw,Cx,Cy,Cz,D0,D1,D2,D3,D4,D5,D6,D7,D8,D9,Da,Db,Dc,Dd,De,Df,Dg,Dh,Di,Dj,Dk,Dl,Dm,Dn,Do,Dp,Dq,Dr,Ds,Dt,Du,Dv,Dw,Dx,Dy,Dz,E0,E1,E2,E3,E4,E5,E6,E7,E8,E9,Ea,Eb,Ec,Ed,Ee,Ef,Eg,Eh,Ei,Ej,Ek,El,Em,En,Eo,Ep,Eq,Er,Es,Et,Eu,Ev,Ew,Ex,Ey,Ez,F0,F1,F2,F3,F4,F5,F6,F7,F8,F9,Fa,Fb,Fc,u167,Fe,Ff,Fg,Fh,Fi,Fj,Fk,Fl,Fm,Fn,Fo,Fp,Fq,Fr,Fs,Ft,Fu,Fv,Fw,Fx,Fy,Fz,L0,L1,L2,L3,L4,L5,L6,L7,L8,L9,La,Lb,Lc,Ld,Le,Lf,Lg,Lh,Li,Lj,Lk,Ll,Lm,Ln,Lo,Lp,Lq,Lr],[]⟩ w := by
  rw [zb7_eq]
  have HF := hidMk hF
  have HW := hidMk hW
  have HT := hidMk htun
  have HJN := hidMk hjn
  have HQ := hidMk hQ
  have HS := hidMk hs
  clear hF hW htun hjn hQ hs
  have HOK := hidMk hok
  have HH := hidMk hhas
  have HSP := hidMk hsp
  have HG := hidMk hg
  have hFT := check_full hok
  have ht := hFT.t
  have hr := hFT.r
  have hp := hFT.p
  simp only [Jb.setTg] at ht hr hp
  have hxp := hhas.p
  have hxt := hhas.t
  have hxr := hhas.r
  have hin := (check_ok (Jb.Full.check HF.out)).inn
  have d0 := HS.out.fx.at_ 0 (.int .i64 x.p) rfl
  have d1 := HS.out.fx.at_ 1 (.int .i64 x.t) rfl
  have d2 := HS.out.fx.at_ 2 (.int .i64 x.r) rfl
  have HIN := hidMk hin
  clear hok hhas hsp hg hFT hin
  rcases hkd with rfl | rfl
  · go_wp2_with (refine wpList_load_row rfl 30 _ rfl g4 rfl _ (jobC J (.slice ja jn jc)) _ _ HS.out.job Try.underlying30 rfl szJob ?_)
    refine (strikeTip_any b J (.slice ja jn jc) T x _ HS.out.pt (HIN.out.mono (by decide)) HF.out.u.2.1 HF.out.x.2.1 HH.out (by omega)).mono ?_
    rintro e w2 ⟨y,rfl,hy,hk,hp2⟩
    have HS2 := hidMk (HS.out.pot hk hp2)
    have HY := hidMk hy
    clear hk hp2 HS d0 d1 d2 hy
    have z0 := HS2.out.fx.at_ 0 _ rfl
    have z1 := HS2.out.fx.at_ 1 _ rfl
    have z2 := HS2.out.fx.at_ 2 _ rfl
    have f0 := HS2.out.fx.free 0
    have f1 := HS2.out.fx.free 1
    have f2 := HS2.out.fx.free 2
    go_wp2_with fail
    have hfx := ((HS2.out.fx.put 0 (.int .i64 y.p)).put 1 (.int .i64 y.t)).put 2 (.int .i64 y.r)
    have hsx := (spoil_2 (le := J.le) (t := strk J T 1)).1 HSP.out
    have hyt := HY.out.t
    have hyr := HY.out.r
    refine zp8 HF.out HW.out HT.out HJN.out hn4 h0s HQ.out (HS2.out.setX (y := y) (Nat.le_antisymm (by simp) (by simp)) ⟨rfl,rfl,rfl⟩ (fun q hq => ((Below.heap_setCell _ ⟨g10,2,none⟩ _ q hq).trans (Below.heap_setCell _ ⟨g10,1,none⟩ _ q hq)).trans (Below.heap_setCell _ ⟨g10,0,none⟩ _ q hq)) hfx) HOK.out (by decide) (fun hb => gi_next HF.out HOK.out (by decide) HY.out HG.out h0s hb) hs1 (by omega)
  · go_wp2_with (refine wpList_load_row rfl 30 _ rfl g4 rfl _ (jobC J (.slice ja jn jc)) _ _ HS.out.job Try.underlying30 rfl szJob ?_)
    refine (strikeRoot_any b J (.slice ja jn jc) T x _ HS.out.pt (HIN.out.mono (by decide)) HF.out.d.2.1 HF.out.y.2.1 HH.out (by omega)).mono ?_
    rintro e w2 ⟨y,rfl,hy,hk,hp2⟩
    have HS2 := hidMk (HS.out.pot hk hp2)
    have HY := hidMk hy
    clear hk hp2 HS d0 d1 d2 hy
    have z0 := HS2.out.fx.at_ 0 _ rfl
    have z1 := HS2.out.fx.at_ 1 _ rfl
    have z2 := HS2.out.fx.at_ 2 _ rfl
    have f0 := HS2.out.fx.free 0
    have f1 := HS2.out.fx.free 1
    have f2 := HS2.out.fx.free 2
    go_wp2_with fail
    have hfx := ((HS2.out.fx.put 0 (.int .i64 y.p)).put 1 (.int .i64 y.t)).put 2 (.int .i64 y.r)
    have hsx := (spoil_2 (le := J.le) (t := strk J T 2)).1 HSP.out
    have hyt := HY.out.t
    have hyr := HY.out.r
    refine zp8 HF.out HW.out HT.out HJN.out hn4 h0s HQ.out (HS2.out.setX (y := y) (Nat.le_antisymm (by simp) (by simp)) ⟨rfl,rfl,rfl⟩ (fun q hq => ((Below.heap_setCell _ ⟨g10,2,none⟩ _ q hq).trans (Below.heap_setCell _ ⟨g10,1,none⟩ _ q hq)).trans (Below.heap_setCell _ ⟨g10,0,none⟩ _ q hq)) hfx) HOK.out (by decide) (fun hb => gi_next HF.out HOK.out (by decide) HY.out HG.out h0s hb) hs1 (by omega)
set_option maxHeartbeats 1000000 in
set_option maxRecDepth 1000000 in
theorem zp6 {w0 : World} {b g4 g7 g10 g11 : Nat} {J : Jb} {ja : Option Addr} {jn jc : Nat} {ka : Option Addr} {kc : Nat} {X : R2} {n s : Int} {th : Bool} {Q : Exit → Act → World → Prop} {T : Tg} {x : Fd} {kd : Int} {w : World} {u0 u1 u2 u6 u8 u9 A4 A5 A7 A8 A9 Aa Ab Ac Ad Ae Af Ag Ah Ai Aj Ak Al Am An Ao Ap Aq Ar As At Au Av Aw Ax Ay Az C0 C1 C2 C3 C4 C5 C6 C7 C8 C9 Ca Cb Cc Cd Ce Cf Cg Ch Ci Cj Ck Cl Cm Cn Co Cp Cq Cr Cs Ct Cu Cv Cw Cx Cy Cz D0 D1 D2 D3 D4 D5 D6 D7 D8 D9 Da Db Dc Dd De Df Dg Dh Di Dj Dk Dl Dm Dn Do Dp Dq Dr Ds Dt Du Dv Dw Dx Dy Dz E0 E1 E2 E3 E4 E5 E6 E7 E8 E9 Ea Eb Ec Ed Ee Ef Eg Eh Ei Ej Ek El Em En Eo Ep Eq Er Es Et Eu Ev Ew Ex Ey Ez F0 F1 F2 F3 F4 F5 F6 F7 F8 F9 Fa Fb Fc u167 Fe Ff Fg Fh Fi Fj Fk Fl Fm Fn Fo Fp Fq Fr Fs Ft Fu Fv Fw Fx Fy Fz L0 L1 L2 L3 L4 L5 L6 L7 L8 L9 La Lb Lc Ld Le Lf Lg Lh Li Lj Lk Ll Lm Ln Lo Lp Lq Lr : Value} (hF : J.Full) (hW : WOK J X) (htun : TunOK) (hjn : jn = J.sh.length) (hn4 : 0 ≤ n ∧ n ≤ 4) (h0s : 0 ≤ s) (hQ : GQ Q w0 b g4 g7 g10 g11 J ja jn jc ka kc X n s th) (hs : GL w0 w b g4 g7 g10 g11 J ja jn jc ka kc X T x) (hok : (J.setTg T).check = 0) (hhas : T.has x) (hkd : kd = 1 ∨ kd = 2) (hsp : spoilI J.le (strk J T kd) = 2) (hg : gT J (strk J T kd) ≤ n - (s + 1)) (hs1 : s + 1 ≤ n) : Code.wp Try.prog zb6 Q ⟨#[u0,u1,u2,(.pointer (some ⟨b,0,none⟩)),(.pointer (some ⟨g4,0,none⟩)),(.int .i64 n),u6,(.pointer (some ⟨g7,0,none⟩)),u8,u9,(.pointer (some ⟨g10,0,none⟩)),(.pointer (some ⟨g11,0,none⟩)),(.bool th),(.int .i64 s),A4,A5,(.int .i64 kd),A7,A8,A9,Aa,Ab,Ac,Ad,Ae,Af,Ag,Ah,Ai,Aj,Ak,Al,Am,An,Ao,Ap,Aq,Ar,As,At,Au,Av,Aw,Ax,Ay,Az,C0,C1,C2,C3,C4,C5,C6,C7,C8,C9,Ca,Cb,Cc,Cd,Ce,Cf,Cg,Ch,Ci,Cj,Ck,Cl,Cm,Cn,Co,Cp,Cq,Cr,Cs,Ct,Cu,Cv,Cw,Cx,Cy,Cz,D0,D1,D2,D3,D4,D5,D6,D7,D8,D9,Da,Db,Dc,Dd,De,Df,Dg,Dh,Di,Dj,Dk,Dl,Dm,Dn,Do,Dp,Dq,Dr,Ds,Dt,Du,Dv,Dw,Dx,Dy,Dz,E0,E1,E2,E3,E4,E5,E6,E7,E8,E9,Ea,Eb,Ec,Ed,Ee,Ef,Eg,Eh,Ei,Ej,Ek,El,Em,En,Eo,Ep,Eq,Er,Es,Et,Eu,Ev,Ew,Ex,Ey,Ez,F0,F1,F2,F3,F4,F5,F6,F7,F8,F9,Fa,Fb,Fc,u167,Fe,Ff,Fg,Fh,Fi,Fj,Fk,Fl,Fm,Fn,Fo,Fp,Fq,Fr,Fs,Ft,Fu,Fv,Fw,Fx,Fy,Fz,L0,L1,L2,L3,L4,L5,L6,L7,L8,L9,La,Lb,Lc,Ld,Le,Lf,Lg,Lh,Li,Lj,Lk,Ll,Lm,Ln,Lo,Lp,Lq,Lr],[]⟩ w := by
  rw [zb6_eq]
  have HF := hidMk hF
  have HW := hidMk hW
  have HT := hidMk htun
  have HJN := hidMk hjn
  have HQ := hidMk hQ
  have HS := hidMk hs
  clear hF hW htun hjn hQ hs
  have HOK := hidMk hok
  have HH := hidMk hhas
  have HSP := hidMk hsp
  have HG := hidMk hg
  clear hok hhas hsp hg
  rcases hkd with rfl | rfl
  · go_wp2_with fail
    exact zp7 HF.out HW.out HT.out HJN.out hn4 h0s HQ.out HS.out HOK.out HH.out (by decide) HSP.out HG.out hs1
  · go_wp2_with fail
    exact zp7 HF.out HW.out HT.out HJN.out hn4 h0s HQ.out HS.out HOK.out HH.out (by decide) HSP.out HG.out hs1
set_option maxHeartbeats 1000000 in
set_option maxRecDepth 1000000 in
theorem zp5 {w0 : World} {b g4 g7 g10 g11 : Nat} {J : Jb} {ja : Option Addr} {jn jc : Nat} {ka : Option Addr} {kc : Nat} {X : R2} {n s : Int} {th : Bool} {Q : Exit → Act → World → Prop} {T : Tg} {x : Fd} {kd lf : Int} {g14 : Nat} {w : World} {u0 u1 u2 u6 u8 u9 A5 A8 A9 Aa Ab Ac Ad Ae Af Ag Ah Ai Aj Ak Al Am An Ao Ap Aq Ar As At Au Av Aw Ax Ay Az C0 C1 C2 C3 C4 C5 C6 C7 C8 C9 Ca Cb Cc Cd Ce Cf Cg Ch Ci Cj Ck Cl Cm Cn Co Cp Cq Cr Cs Ct Cu Cv Cw Cx Cy Cz D0 D1 D2 D3 D4 D5 D6 D7 D8 D9 Da Db Dc Dd De Df Dg Dh Di Dj Dk Dl Dm Dn Do Dp Dq Dr Ds Dt Du Dv Dw Dx Dy Dz E0 E1 E2 E3 E4 E5 E6 E7 E8 E9 Ea Eb Ec Ed Ee Ef Eg Eh Ei Ej Ek El Em En Eo Ep Eq Er Es Et Eu Ev Ew Ex Ey Ez F0 F1 F2 F3 F4 F5 F6 F7 F8 F9 Fa Fb Fc u167 Fe Ff Fg Fh Fi Fj Fk Fl Fm Fn Fo Fp Fq Fr Fs Ft Fu Fv Fw Fx Fy Fz L0 L1 L2 L3 L4 L5 L6 L7 L8 L9 La Lb Lc Ld Le Lf Lg Lh Li Lj Lk Ll Lm Ln Lo Lp Lq Lr : Value} (hF : J.Full) (hW : WOK J X) (htun : TunOK) (hjn : jn = J.sh.length) (hn4 : 0 ≤ n ∧ n ≤ 4) (h0s : 0 ≤ s) (hQ : GQ Q w0 b g4 g7 g10 g11 J ja jn jc ka kc X n s th) (hs : GL w0 w b g4 g7 g10 g11 J ja jn jc ka kc X T x) (hok : (J.setTg T).check = 0) (hhas : T.has x) (hkl : kd = (bestM J 4 T).1 ∧ lf = (bestM J 4 T).2) (hle : lf ≤ n - s) (h14 : Bk w g14 23 #[.int .i64 T.p1,.int .i64 T.p2]) : Code.wp Try.prog zb5 Q ⟨#[u0,u1,u2,(.pointer (some ⟨b,0,none⟩)),(.pointer (some ⟨g4,0,none⟩)),(.int .i64 n),u6,(.pointer (some ⟨g7,0,none⟩)),u8,u9,(.pointer (some ⟨g10,0,none⟩)),(.pointer (some ⟨g11,0,none⟩)),(.bool th),(.int .i64 s),(.pointer (some ⟨g14,0,none⟩)),A5,(.int .i64 kd),(.int .i64 lf),A8,A9,Aa,Ab,Ac,Ad,Ae,Af,Ag,Ah,Ai,Aj,Ak,Al,Am,An,Ao,Ap,Aq,Ar,As,At,Au,Av,Aw,Ax,Ay,Az,C0,C1,C2,C3,C4,C5,C6,C7,C8,C9,Ca,Cb,Cc,Cd,Ce,Cf,Cg,Ch,Ci,Cj,Ck,Cl,Cm,Cn,Co,Cp,Cq,Cr,Cs,Ct,Cu,Cv,Cw,Cx,Cy,Cz,D0,D1,D2,D3,D4,D5,D6,D7,D8,D9,Da,Db,Dc,Dd,De,Df,Dg,Dh,Di,Dj,Dk,Dl,Dm,Dn,Do,Dp,Dq,Dr,Ds,Dt,Du,Dv,Dw,Dx,Dy,Dz,E0,E1,E2,E3,E4,E5,E6,E7,E8,E9,Ea,Eb,Ec,Ed,Ee,Ef,Eg,Eh,Ei,Ej,Ek,El,Em,En,Eo,Ep,Eq,Er,Es,Et,Eu,Ev,Ew,Ex,Ey,Ez,F0,F1,F2,F3,F4,F5,F6,F7,F8,F9,Fa,Fb,Fc,u167,Fe,Ff,Fg,Fh,Fi,Fj,Fk,Fl,Fm,Fn,Fo,Fp,Fq,Fr,Fs,Ft,Fu,Fv,Fw,Fx,Fy,Fz,L0,L1,L2,L3,L4,L5,L6,L7,L8,L9,La,Lb,Lc,Ld,Le,Lf,Lg,Lh,Li,Lj,Lk,Ll,Lm,Ln,Lo,Lp,Lq,Lr],[]⟩ w := by
  rw [zb5_eq]
  have HF := hidMk hF
  have HW := hidMk hW
  have HT := hidMk htun
  have HJN := hidMk hjn
  have HQ := hidMk hQ
  have HS := hidMk hs
  clear hF hW htun hjn hQ hs
  have HOK := hidMk hok
  have HH := hidMk hhas
  have HKL := hidMk hkl
  have H14 := hidMk h14
  have hFT := check_full hok
  have hp := hFT.p
  simp only [Jb.setTg] at hp
  have hpp : T.p1 ≤ T.p2 := by omega
  have hu : J.u1 ≤ J.u2 ∧ J.d1 ≤ J.d2 := ⟨HF.out.u.2.1,HF.out.d.2.1⟩
  clear hok hhas hkl h14 hFT
  by_cases hl0 : lf = 0
  · obtain ⟨q1,q2⟩ := best_stopped hu HF.out.me.1 hpp (HKL.out.2.symm.trans hl0)
    have hk0 : kd = 0 := HKL.out.1.trans q2
    have hwx := (HW.out T.p1 T.p2 (by omega) hpp (by omega)).2 q1
    subst hl0 hk0
    have HWX := hidMk hwx
    have d0 := HS.out.wx.at_ 0 (.int .i64 X.1) rfl
    have d1 := HS.out.wx.at_ 1 (.int .i64 X.2) rfl
    have d2 := H14.out.at_ 0 (.int .i64 T.p1) rfl
    have d3 := H14.out.at_ 1 (.int .i64 T.p2) rfl
    clear hwx q1 q2
    go_wp2_with (first | (go_at_call 37; refine (wider_any _ _ _ _ _).mono ?_; rintro e w2 ⟨rfl,hb2⟩; rw [decide_eq_true HWX.out]; have HS2 := hidMk (HS.out.next hb2)) | (go_at_call 8; refine (HT.out _).mono ?_; rintro e w9 ⟨rfl,hb9⟩))
    exact HQ.out.2 _ (HS2.out.b0.trans (hb9.mono HS2.out.b0.size)) _ _ _ _ _ _ _ _ _ _ _ _ _ _ _ _ _ _ _ _ _ _ _ _ _ _ _ _ _ _ _ _ _ _ _ _ _ _ _ _ _ _ _ _ _ _ _ _ _ _ _ _ _ _ _ _ _ _ _ _ _ _ _ _ _ _ _ _ _ _ _ _ _ _ _ _ _ _ _ _ _ _ _ _ _ _ _ _ _ _ _ _ _ _ _ _ _ _ _ _ _ _ _ _ _ _ _ _ _ _ _ _ _ _ _ _ _ _ _ _ _ _ _ _ _ _ _ _ _ _ _ _ _ _ _ _ _ _ _ _ _ _ _ _ _ _ _ _ _ _ _ _ _ _ _ _ _ _ _ _ _ _ _ _ _ _ _ _ _ _ _ _ _ _ _ _ _ _ _ _ _ _ _ _ _ _ _ _ _ _ _ _ _ _ _ _ _ _ _ _ _ _ _ _ _ _ _ _ _ _ _ _ _ _ _ _ _ 
  · have hlf : (bestM J 4 T).2 ≠ 0 := fun h => hl0 (HKL.out.2.trans h)
    have hl4 : (bestM J 4 T).2 ≤ 4 := by rw [← HKL.out.2]; omega
    obtain ⟨q1,q2,q3⟩ := best_kind hu HF.out.me.1 hpp hlf hl4
    rw [← HKL.out.1] at q1 q2 q3
    rw [← HKL.out.2] at q3
    have hlp : 1 ≤ lf := by have := (best_bound J 4 T).1; have h2 := HKL.out.2; omega
    have Q1 := hidMk q1
    have Q2 := hidMk q2
    have Q3 := hidMk q3
    clear q1 q2 q3 hlf hl4
    go_wp2_with fail
    exact zp6 HF.out HW.out HT.out HJN.out hn4 h0s HQ.out HS.out HOK.out HH.out Q1.out Q2.out (by have := Q3.out; omega) (by omega)
set_option maxHeartbeats 1000000 in
set_option maxRecDepth 1000000 in
theorem zp4 {w0 : World} {b g4 g7 g10 g11 : Nat} {J : Jb} {ja : Option Addr} {jn jc : Nat} {ka : Option Addr} {kc : Nat} {X : R2} {n s : Int} {th : Bool} {Q : Exit → Act → World → Prop} {T : Tg} {x : Fd} {kd lf : Int} {g14 : Nat} {w : World} {u0 u1 u2 u6 u8 u9 A5 A9 Aa Ab Ac Ad Ae Af Ag Ah Ai Aj Ak Al Am An Ao Ap Aq Ar As At Au Av Aw Ax Ay Az C0 C1 C2 C3 C4 C5 C6 C7 C8 C9 Ca Cb Cc Cd Ce Cf Cg Ch Ci Cj Ck Cl Cm Cn Co Cp Cq Cr Cs Ct Cu Cv Cw Cx Cy Cz D0 D1 D2 D3 D4 D5 D6 D7 D8 D9 Da Db Dc Dd De Df Dg Dh Di Dj Dk Dl Dm Dn Do Dp Dq Dr Ds Dt Du Dv Dw Dx Dy Dz E0 E1 E2 E3 E4 E5 E6 E7 E8 E9 Ea Eb Ec Ed Ee Ef Eg Eh Ei Ej Ek El Em En Eo Ep Eq Er Es Et Eu Ev Ew Ex Ey Ez F0 F1 F2 F3 F4 F5 F6 F7 F8 F9 Fa Fb Fc u167 Fe Ff Fg Fh Fi Fj Fk Fl Fm Fn Fo Fp Fq Fr Fs Ft Fu Fv Fw Fx Fy Fz L0 L1 L2 L3 L4 L5 L6 L7 L8 L9 La Lb Lc Ld Le Lf Lg Lh Li Lj Lk Ll Lm Ln Lo Lp Lq Lr : Value} (hF : J.Full) (hW : WOK J X) (htun : TunOK) (hjn : jn = J.sh.length) (hn4 : 0 ≤ n ∧ n ≤ 4) (h0s : 0 ≤ s) (hQ : GQ Q w0 b g4 g7 g10 g11 J ja jn jc ka kc X n s th) (hs : GL w0 w b g4 g7 g10 g11 J ja jn jc ka kc X T x) (hok : (J.setTg T).check = 0) (hhas : T.has x) (hkl : kd = (bestM J 4 T).1 ∧ lf = (bestM J 4 T).2) (hle : lf ≤ n - s) (h14 : Bk w g14 23 #[.int .i64 T.p1,.int .i64 T.p2]) : Code.wp Try.prog zb4 Q ⟨#[u0,u1,u2,(.pointer (some ⟨b,0,none⟩)),(.pointer (some ⟨g4,0,none⟩)),(.int .i64 n),u6,(.pointer (some ⟨g7,0,none⟩)),u8,u9,(.pointer (some ⟨g10,0,none⟩)),(.pointer (some ⟨g11,0,none⟩)),(.bool th),(.int .i64 s),(.pointer (some ⟨g14,0,none⟩)),A5,(.int .i64 kd),(.int .i64 lf),(.int .i64 0),A9,Aa,Ab,Ac,Ad,Ae,Af,Ag,Ah,Ai,Aj,Ak,Al,Am,An,Ao,Ap,Aq,Ar,As,At,Au,Av,Aw,Ax,Ay,Az,C0,C1,C2,C3,C4,C5,C6,C7,C8,C9,Ca,Cb,Cc,Cd,Ce,Cf,Cg,Ch,Ci,Cj,Ck,Cl,Cm,Cn,Co,Cp,Cq,Cr,Cs,Ct,Cu,Cv,Cw,Cx,Cy,Cz,D0,D1,D2,D3,D4,D5,D6,D7,D8,D9,Da,Db,Dc,Dd,De,Df,Dg,Dh,Di,Dj,Dk,Dl,Dm,Dn,Do,Dp,Dq,Dr,Ds,Dt,Du,Dv,Dw,Dx,Dy,Dz,E0,E1,E2,E3,E4,E5,E6,E7,E8,E9,Ea,Eb,Ec,Ed,Ee,Ef,Eg,Eh,Ei,Ej,Ek,El,Em,En,Eo,Ep,Eq,Er,Es,Et,Eu,Ev,Ew,Ex,Ey,Ez,F0,F1,F2,F3,F4,F5,F6,F7,F8,F9,Fa,Fb,Fc,u167,Fe,Ff,Fg,Fh,Fi,Fj,Fk,Fl,Fm,Fn,Fo,Fp,Fq,Fr,Fs,Ft,Fu,Fv,Fw,Fx,Fy,Fz,L0,L1,L2,L3,L4,L5,L6,L7,L8,L9,La,Lb,Lc,Ld,Le,Lf,Lg,Lh,Li,Lj,Lk,Ll,Lm,Ln,Lo,Lp,Lq,Lr],[]⟩ w := by
  rw [zb4_eq]
  have HF := hidMk hF
  have HW := hidMk hW
  have HT := hidMk htun
  have HJN := hidMk hjn
  have HQ := hidMk hQ
  have HS := hidMk hs
  clear hF hW htun hjn hQ hs
  have HOK := hidMk hok
  have HH := hidMk hhas
  have HKL := hidMk hkl
  have H14 := hidMk h14
  have hlb : 0 ≤ lf := by rw [hkl.2]; exact (best_bound J 4 T).1
  have w1 : IntKind.i64.wrap (s + lf) = s + lf := IntWalk.i64_in _ (by omega)
  have hc : ¬ n < s + lf := by omega
  clear hok hhas hkl h14
  go_wp2_with fail
  exact zp5 HF.out HW.out HT.out HJN.out hn4 h0s HQ.out HS.out HOK.out HH.out HKL.out hle H14.out
set_option maxHeartbeats 1000000 in
set_option maxRecDepth 1000000 in
theorem zp3 {w0 : World} {b g4 g7 g10 g11 : Nat} {J : Jb} {ja : Option Addr} {jn jc : Nat} {ka : Option Addr} {kc : Nat} {X : R2} {n s : Int} {th : Bool} {Q : Exit → Act → World → Prop} {T : Tg} {x : Fd} {g14 : Nat} {w : World} {u0 u1 u2 u6 u8 u9 A5 A6 A7 A8 A9 Aa Ab Ac Ad Ae Af Ag Ah Ai Aj Ak Al Am An Ao Ap Aq Ar As At Au Av Aw Ax Ay Az C0 C1 C2 C3 C4 C5 C6 C7 C8 C9 Ca Cb Cc Cd Ce Cf Cg Ch Ci Cj Ck Cl Cm Cn Co Cp Cq Cr Cs Ct Cu Cv Cw Cx Cy Cz D0 D1 D2 D3 D4 D5 D6 D7 D8 D9 Da Db Dc Dd De Df Dg Dh Di Dj Dk Dl Dm Dn Do Dp Dq Dr Ds Dt Du Dv Dw Dx Dy Dz E0 E1 E2 E3 E4 E5 E6 E7 E8 E9 Ea Eb Ec Ed Ee Ef Eg Eh Ei Ej Ek El Em En Eo Ep Eq Er Es Et Eu Ev Ew Ex Ey Ez F0 F1 F2 F3 F4 F5 F6 F7 F8 F9 Fa Fb Fc u167 Fe Ff Fg Fh Fi Fj Fk Fl Fm Fn Fo Fp Fq Fr Fs Ft Fu Fv Fw Fx Fy Fz L0 L1 L2 L3 L4 L5 L6 L7 L8 L9 La Lb Lc Ld Le Lf Lg Lh Li Lj Lk Ll Lm Ln Lo Lp Lq Lr : Value} (hF : J.Full) (hW : WOK J X) (htun : TunOK) (hjn : jn = J.sh.length) (hn4 : 0 ≤ n ∧ n ≤ 4) (h0s : 0 ≤ s) (hQ : GQ Q w0 b g4 g7 g10 g11 J ja jn jc ka kc X n s th) (hs : GL w0 w b g4 g7 g10 g11 J ja jn jc ka kc X T x) (hok : (J.setTg T).check = 0) (hhas : T.has x) (hbm : (bestM J 4 T).2 ≤ n - s) (h14 : Bk w g14 23 #[.int .i64 T.p1,.int .i64 T.p2]) : Code.wp Try.prog zb3 Q ⟨#[u0,u1,u2,(.pointer (some ⟨b,0,none⟩)),(.pointer (some ⟨g4,0,none⟩)),(.int .i64 n),u6,(.pointer (some ⟨g7,0,none⟩)),u8,u9,(.pointer (some ⟨g10,0,none⟩)),(.pointer (some ⟨g11,0,none⟩)),(.bool th),(.int .i64 s),(.pointer (some ⟨g14,0,none⟩)),A5,A6,A7,A8,A9,Aa,Ab,Ac,Ad,Ae,Af,Ag,Ah,Ai,Aj,Ak,Al,Am,An,Ao,Ap,Aq,Ar,As,At,Au,Av,Aw,Ax,Ay,Az,C0,C1,C2,C3,C4,C5,C6,C7,C8,C9,Ca,Cb,Cc,Cd,Ce,Cf,Cg,Ch,Ci,Cj,Ck,Cl,Cm,Cn,Co,Cp,Cq,Cr,Cs,Ct,Cu,Cv,Cw,Cx,Cy,Cz,D0,D1,D2,D3,D4,D5,D6,D7,D8,D9,Da,Db,Dc,Dd,De,Df,Dg,Dh,Di,Dj,Dk,Dl,Dm,Dn,Do,Dp,Dq,Dr,Ds,Dt,Du,Dv,Dw,Dx,Dy,Dz,E0,E1,E2,E3,E4,E5,E6,E7,E8,E9,Ea,Eb,Ec,Ed,Ee,Ef,Eg,Eh,Ei,Ej,Ek,El,Em,En,Eo,Ep,Eq,Er,Es,Et,Eu,Ev,Ew,Ex,Ey,Ez,F0,F1,F2,F3,F4,F5,F6,F7,F8,F9,Fa,Fb,Fc,u167,Fe,Ff,Fg,Fh,Fi,Fj,Fk,Fl,Fm,Fn,Fo,Fp,Fq,Fr,Fs,Ft,Fu,Fv,Fw,Fx,Fy,Fz,L0,L1,L2,L3,L4,L5,L6,L7,L8,L9,La,Lb,Lc,Ld,Le,Lf,Lg,Lh,Li,Lj,Lk,Ll,Lm,Ln,Lo,Lp,Lq,Lr],[]⟩ w := by
  rw [zb3_eq]
  have HF := hidMk hF
  have HW := hidMk hW
  have HT := hidMk htun
  have HJN := hidMk hjn
  have HQ := hidMk hQ
  have HS := hidMk hs
  clear hF hW htun hjn hQ hs
  have HOK := hidMk hok
  have HH := hidMk hhas
  have H14 := hidMk h14
  have hjm : jn ≤ 9223372036854775807 := by have := HF.out.len; rw [HJN.out]; omega
  have hnx : nextI (J.setTg T) = ((bestM J 4 T).1,(bestM J 4 T).2,0) := by
    have e : (J.setTg T).tg = T := rfl
    unfold nextI
    rw [if_pos hok,e,bestM_setTg,if_neg (by omega)]
  have HNX := hidMk hnx
  obtain ⟨kd,hkd⟩ : ∃ k,k = (bestM J 4 T).1 := ⟨_,rfl⟩
  obtain ⟨lf,hlf⟩ : ∃ k,k = (bestM J 4 T).2 := ⟨_,rfl⟩
  rw [← hlf] at hbm
  have HKL := hidMk (And.intro hkd hlf)
  clear hok hhas h14 hnx hkd hlf
  go_wp2_with (refine wpList_load_row rfl 30 _ rfl g11 rfl _ (jobC (J.setTg T) (.slice ka jn kc)) _ _ HS.out.kn Try.underlying30 rfl szJob ?_)
  refine (next_any (J.setTg T) ka jn kc _ HJN.out hjm HS.out.krg).mono ?_
  rintro e w2 ⟨rfl,hb2⟩
  rw [HNX.out,← HKL.out.1,← HKL.out.2]
  have HS2 := hidMk (HS.out.next hb2)
  have H14' := hidMk (H14.out.below hb2 H14.out.lt)
  clear hb2
  go_wp2_with fail
  exact zp4 HF.out HW.out HT.out HJN.out hn4 h0s HQ.out HS2.out HOK.out HH.out HKL.out hbm H14'.out
set_option maxHeartbeats 1000000 in
set_option maxRecDepth 1000000 in
theorem zp2 {w0 : World} {b g4 g7 g10 g11 : Nat} {J : Jb} {ja : Option Addr} {jn jc : Nat} {ka : Option Addr} {kc : Nat} {X : R2} {n s : Int} {th : Bool} {Q : Exit → Act → World → Prop} {T T1 : Tg} {x : Fd} {g14 : Nat} {w : World} {u0 u1 u2 u6 u8 u9 A5 A6 A7 A8 A9 Aa Ab Ac Ad Ae Af Ag Ah Ai Aj Ak Al Am An Ao Ap Aq Ar As At Au Av Aw Ax Ay Az C0 C1 C2 C3 C4 C5 C6 C7 C8 C9 Ca Cb Cc Cd Ce Cf Cg Ch Ci Cj Ck Cl Cm Cn Co Cp Cq Cr Cs Ct Cu Cv Cw Cx Cy Cz D0 D1 D2 D3 D4 D5 D6 D7 D8 D9 Da Db Dc Dd De Df Dg Dh Di Dj Dk Dl Dm Dn Do Dp Dq Dr Ds Dt Du Dv Dw Dx Dy Dz E0 E1 E2 E3 E4 E5 E6 E7 E8 E9 Ea Eb Ec Ed Ee Ef Eg Eh Ei Ej Ek El Em En Eo Ep Eq Er Es Et Eu Ev Ew Ex Ey Ez F0 F1 F2 F3 F4 F5 F6 F7 F8 F9 Fa Fb Fc u167 Fe Ff Fg Fh Fi Fj Fk Fl Fm Fn Fo Fp Fq Fr Fs Ft Fu Fv Fw Fx Fy Fz L0 L1 L2 L3 L4 L5 L6 L7 L8 L9 La Lb Lc Ld Le Lf Lg Lh Li Lj Lk Ll Lm Ln Lo Lp Lq Lr : Value} (hF : J.Full) (hW : WOK J X) (htun : TunOK) (hjn : jn = J.sh.length) (hn4 : 0 ≤ n ∧ n ≤ 4) (h0s : 0 ≤ s) (hQ : GQ Q w0 b g4 g7 g10 g11 J ja jn jc ka kc X n s th) (hs : GL w0 w b g4 g7 g10 g11 J ja jn jc ka kc X T x) (ht1 : T1.t1 = T.t1 ∧ T1.t2 = T.t2 ∧ T1.r1 = T.r1 ∧ T1.r2 = T.r2) (hok : (J.setTg T1).check = 0) (hhas : T1.has x) (hbm : (bestM J 4 T1).2 ≤ n - s) (h14 : Bk w g14 23 #[.int .i64 T1.p1,.int .i64 T1.p2]) (h14n : g14 ≠ g11) : Code.wp Try.prog zb2 Q ⟨#[u0,u1,u2,(.pointer (some ⟨b,0,none⟩)),(.pointer (some ⟨g4,0,none⟩)),(.int .i64 n),u6,(.pointer (some ⟨g7,0,none⟩)),u8,u9,(.pointer (some ⟨g10,0,none⟩)),(.pointer (some ⟨g11,0,none⟩)),(.bool th),(.int .i64 s),(.pointer (some ⟨g14,0,none⟩)),A5,A6,A7,A8,A9,Aa,Ab,Ac,Ad,Ae,Af,Ag,Ah,Ai,Aj,Ak,Al,Am,An,Ao,Ap,Aq,Ar,As,At,Au,Av,Aw,Ax,Ay,Az,C0,C1,C2,C3,C4,C5,C6,C7,C8,C9,Ca,Cb,Cc,Cd,Ce,Cf,Cg,Ch,Ci,Cj,Ck,Cl,Cm,Cn,Co,Cp,Cq,Cr,Cs,Ct,Cu,Cv,Cw,Cx,Cy,Cz,D0,D1,D2,D3,D4,D5,D6,D7,D8,D9,Da,Db,Dc,Dd,De,Df,Dg,Dh,Di,Dj,Dk,Dl,Dm,Dn,Do,Dp,Dq,Dr,Ds,Dt,Du,Dv,Dw,Dx,Dy,Dz,E0,E1,E2,E3,E4,E5,E6,E7,E8,E9,Ea,Eb,Ec,Ed,Ee,Ef,Eg,Eh,Ei,Ej,Ek,El,Em,En,Eo,Ep,Eq,Er,Es,Et,Eu,Ev,Ew,Ex,Ey,Ez,F0,F1,F2,F3,F4,F5,F6,F7,F8,F9,Fa,Fb,Fc,u167,Fe,Ff,Fg,Fh,Fi,Fj,Fk,Fl,Fm,Fn,Fo,Fp,Fq,Fr,Fs,Ft,Fu,Fv,Fw,Fx,Fy,Fz,L0,L1,L2,L3,L4,L5,L6,L7,L8,L9,La,Lb,Lc,Ld,Le,Lf,Lg,Lh,Li,Lj,Lk,Ll,Lm,Ln,Lo,Lp,Lq,Lr],[]⟩ w := by
  rw [zb2_eq]
  have HF := hidMk hF
  have HW := hidMk hW
  have HT := hidMk htun
  have HJN := hidMk hjn
  have HQ := hidMk hQ
  have HS := hidMk hs
  clear hF hW htun hjn hQ hs
  have HOK := hidMk hok
  have HH := hidMk hhas
  have H14 := hidMk h14
  have d2 := h14.at_ 0 (.int .i64 T1.p1) rfl
  have d3 := h14.at_ 1 (.int .i64 T1.p2) rfl
  have z0 := HS.out.kn.at_ 0 _ rfl
  have z1 := HS.out.kn.at_ 1 _ rfl
  have f0 := HS.out.kn.free 0
  have f1 := HS.out.kn.free 1
  have hne : g14 ≠ g11 := h14n
  clear hok hhas h14
  go_wp2_with fail
  have hkn : Bk ((w.setCell ⟨g11,0,none⟩ (.int .i64 T1.p1)).setCell ⟨g11,1,none⟩ (.int .i64 T1.p2)) g11 30 (jobC (J.setTg T1) (.slice ka jn kc)) := by
    have h := (HS.out.kn.put 0 (.int .i64 T1.p1)).put 1 (.int .i64 T1.p2)
    rw [setK_eq ht1]
    exact h
  have hoth : ∀ q,q ≠ g11 → ((w.setCell ⟨g11,0,none⟩ (.int .i64 T1.p1)).setCell ⟨g11,1,none⟩ (.int .i64 T1.p2)).heap[q]? = w.heap[q]? := fun q hq => (Below.heap_setCell _ ⟨g11,1,none⟩ _ q hq).trans (Below.heap_setCell _ ⟨g11,0,none⟩ _ q hq)
  exact zp3 HF.out HW.out HT.out HJN.out hn4 h0s HQ.out (HS.out.setK (T' := T1) (Nat.le_antisymm (by simp) (by simp)) ⟨rfl,rfl,rfl⟩ hoth hkn) HOK.out HH.out hbm ((hoth g14 hne).trans H14.out)
set_option maxHeartbeats 1000000 in
set_option maxRecDepth 1000000 in
theorem zp1 {w0 : World} {b g4 g7 g10 g11 : Nat} {J : Jb} {ja : Option Addr} {jn jc : Nat} {ka : Option Addr} {kc : Nat} {X : R2} {n s : Int} {th : Bool} {Q : Exit → Act → World → Prop} {T T1 : Tg} {x : Fd} {g14 : Nat} {w : World} {u0 u1 u2 u6 u8 u9 A6 A7 A8 A9 Aa Ab Ac Ad Ae Af Ag Ah Ai Aj Ak Al Am An Ao Ap Aq Ar As At Au Av Aw Ax Ay Az C0 C1 C2 C3 C4 C5 C6 C7 C8 C9 Ca Cb Cc Cd Ce Cf Cg Ch Ci Cj Ck Cl Cm Cn Co Cp Cq Cr Cs Ct Cu Cv Cw Cx Cy Cz D0 D1 D2 D3 D4 D5 D6 D7 D8 D9 Da Db Dc Dd De Df Dg Dh Di Dj Dk Dl Dm Dn Do Dp Dq Dr Ds Dt Du Dv Dw Dx Dy Dz E0 E1 E2 E3 E4 E5 E6 E7 E8 E9 Ea Eb Ec Ed Ee Ef Eg Eh Ei Ej Ek El Em En Eo Ep Eq Er Es Et Eu Ev Ew Ex Ey Ez F0 F1 F2 F3 F4 F5 F6 F7 F8 F9 Fa Fb Fc u167 Fe Ff Fg Fh Fi Fj Fk Fl Fm Fn Fo Fp Fq Fr Fs Ft Fu Fv Fw Fx Fy Fz L0 L1 L2 L3 L4 L5 L6 L7 L8 L9 La Lb Lc Ld Le Lf Lg Lh Li Lj Lk Ll Lm Ln Lo Lp Lq Lr : Value} (hF : J.Full) (hW : WOK J X) (htun : TunOK) (hjn : jn = J.sh.length) (hn4 : 0 ≤ n ∧ n ≤ 4) (h0s : 0 ≤ s) (hQ : GQ Q w0 b g4 g7 g10 g11 J ja jn jc ka kc X n s th) (hs : GL w0 w b g4 g7 g10 g11 J ja jn jc ka kc X T x) (ht1 : T1.t1 = T.t1 ∧ T1.t2 = T.t2 ∧ T1.r1 = T.r1 ∧ T1.r2 = T.r2) (hin : T.p1 ≤ T1.p1 ∧ T1.p2 ≤ T.p2) (hok : (J.setTg T1).check = 0) (hhas : T1.has x) (hbm : (bestM J 4 T1).2 ≤ n - s) (h14 : Bk w g14 23 #[.int .i64 T1.p1,.int .i64 T1.p2]) (h14n : g14 ≠ g11) : Code.wp Try.prog zb1 Q ⟨#[u0,u1,u2,(.pointer (some ⟨b,0,none⟩)),(.pointer (some ⟨g4,0,none⟩)),(.int .i64 n),u6,(.pointer (some ⟨g7,0,none⟩)),u8,u9,(.pointer (some ⟨g10,0,none⟩)),(.pointer (some ⟨g11,0,none⟩)),(.bool th),(.int .i64 s),(.pointer (some ⟨g14,0,none⟩)),(.int .i64 0),A6,A7,A8,A9,Aa,Ab,Ac,Ad,Ae,Af,Ag,Ah,Ai,Aj,Ak,Al,Am,An,Ao,Ap,Aq,Ar,As,At,Au,Av,Aw,Ax,Ay,Az,C0,C1,C2,C3,C4,C5,C6,C7,C8,C9,Ca,Cb,Cc,Cd,Ce,Cf,Cg,Ch,Ci,Cj,Ck,Cl,Cm,Cn,Co,Cp,Cq,Cr,Cs,Ct,Cu,Cv,Cw,Cx,Cy,Cz,D0,D1,D2,D3,D4,D5,D6,D7,D8,D9,Da,Db,Dc,Dd,De,Df,Dg,Dh,Di,Dj,Dk,Dl,Dm,Dn,Do,Dp,Dq,Dr,Ds,Dt,Du,Dv,Dw,Dx,Dy,Dz,E0,E1,E2,E3,E4,E5,E6,E7,E8,E9,Ea,Eb,Ec,Ed,Ee,Ef,Eg,Eh,Ei,Ej,Ek,El,Em,En,Eo,Ep,Eq,Er,Es,Et,Eu,Ev,Ew,Ex,Ey,Ez,F0,F1,F2,F3,F4,F5,F6,F7,F8,F9,Fa,Fb,Fc,u167,Fe,Ff,Fg,Fh,Fi,Fj,Fk,Fl,Fm,Fn,Fo,Fp,Fq,Fr,Fs,Ft,Fu,Fv,Fw,Fx,Fy,Fz,L0,L1,L2,L3,L4,L5,L6,L7,L8,L9,La,Lb,Lc,Ld,Le,Lf,Lg,Lh,Li,Lj,Lk,Ll,Lm,Ln,Lo,Lp,Lq,Lr],[]⟩ w := by
  rw [zb1_eq]
  have HF := hidMk hF
  have HW := hidMk hW
  have HT := hidMk htun
  have HJN := hidMk hjn
  have HQ := hidMk hQ
  have HS := hidMk hs
  clear hF hW htun hjn hQ hs
  have HOK := hidMk hok
  have HH := hidMk hhas
  have H14 := hidMk h14
  have d2 := h14.at_ 0 (.int .i64 T1.p1) rfl
  have d3 := h14.at_ 1 (.int .i64 T1.p2) rfl
  have d4 := HS.out.fx.at_ 0 (.int .i64 x.p) rfl
  have d5 := HS.out.kn.at_ 0 (.int .i64 T.p1) rfl
  have d6 := HS.out.kn.at_ 1 (.int .i64 T.p2) rfl
  have HB := hidMk (show decide (T1.p1 ≤ x.p ∧ x.p ≤ T1.p2) = true from decide_eq_true hhas.p)
  have HI := hidMk (show decide (T.p1 ≤ T1.p1 ∧ T1.p2 ≤ T.p2) = true from decide_eq_true hin)
  clear hok hhas h14
  go_wp2_with fail
  refine (in_any _ _ _ _).mono ?_
  rintro e w2 ⟨rfl,hb2⟩
  rw [HB.out]
  have HS2 := hidMk (HS.out.next hb2)
  have H14' := hidMk (H14.out.below hb2 H14.out.lt)
  clear hb2 d2 d3 d4 d5 d6 HS H14
  have d2 := H14'.out.at_ 0 (.int .i64 T1.p1) rfl
  have d3 := H14'.out.at_ 1 (.int .i64 T1.p2) rfl
  have d5 := HS2.out.kn.at_ 0 (.int .i64 T.p1) rfl
  have d6 := HS2.out.kn.at_ 1 (.int .i64 T.p2) rfl
  go_wp2_with fail
  refine (wider_any _ _ _ _ _).mono ?_
  rintro e w3 ⟨rfl,hb3⟩
  rw [HI.out]
  have HS3 := hidMk (HS2.out.next hb3)
  have H14'' := hidMk (H14'.out.below hb3 H14'.out.lt)
  clear hb3 d2 d3 d5 d6
  go_wp2_with fail
  exact zp2 HF.out HW.out HT.out HJN.out hn4 h0s HQ.out HS3.out ht1 HOK.out HH.out hbm H14''.out h14n
end Go.Proofs.Ytadmcafbffjjbaa
