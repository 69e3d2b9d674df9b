/- Part 19 of the proof: GnN. -/
import Derived.Deep.WholeRow
import Derived.Deep.MidRow
import Derived.Test.YtadmcafbffjjbaaE17
import Derived.Test.YtadmcafbffjjbaaE06
import Derived.Test.YtadmcafbffjjbaaE01
import Derived.Test.YtadmcafbffjjbaaE02
import Derived.Test.YtadmcafbffjjbaaE10
import Derived.Test.YtadmcafbffjjbaaE13
import Derived.Test.YtadmcafbffjjbaaE18
import Derived.Test.YtadmcafbffjjbaaE00
namespace Go.Proofs.Ytadmcafbffjjbaa
set_option linter.all false
open Go.RowKit
theorem szRg2 : (Try.prog.info? 23).map (·.size) = some 2 := by kernel_rfl
structure GB (w0 w : World) (b g4 : Nat) (J : Jb) (ja : Option Addr) (jn jc : Nat) : Prop where
  b0 : Below w0.heap.size w0 w
  hb : w0.heap.size ≤ b
  pt : Pt w b
  job : Bk w g4 30 (jobC J (.slice ja jn jc))
  rg : Rg w w.heap.size ja J.sh
  ne : g4 ≠ b
theorem GB.next {w0 w w' : World} {b g4 : Nat} {J : Jb} {ja : Option Addr} {jn jc : Nat} (h : GB w0 w b g4 J ja jn jc) (hb : Below w.heap.size w w') : GB w0 w' b g4 J ja jn jc :=
  ⟨h.b0.trans (hb.mono h.b0.size),h.hb,h.pt.below hb h.pt.lt,h.job.below hb h.job.lt,h.rg.up hb,h.ne⟩
theorem GB.toP {w0 w : World} {b g4 : Nat} {J : Jb} {ja : Option Addr} {jn jc : Nat} (h : GB w0 w b g4 J ja jn jc) (X : R2) : GP w0 (w.alloc (.cells #[.int .i64 X.1,.int .i64 X.2] 23)) b g4 w.heap.size J ja jn jc X ∧ Rg (w.alloc (.cells #[.int .i64 X.1,.int .i64 X.2] 23)) w.heap.size ja J.sh ∧ w0.heap.size ≤ w.heap.size ∧ g4 ≠ w.heap.size := by
  have q : Below w.heap.size w (w.alloc (.cells #[.int .i64 X.1,.int .i64 X.2] 23)) := (Below.refl _ _).alloc (Nat.le_refl _) _
  have h2 := h.next q
  have l1 := h.pt.lt
  have l2 := h.job.lt
  exact ⟨⟨h2.b0,h2.hb,h2.pt,h2.job,h2.rg,Bk.new _ _ _,h.ne,by omega⟩,h.rg.below q,h.b0.size,by omega⟩
theorem GP.setX {w0 : World} {b g4 g7 : Nat} {J : Jb} {ja : Option Addr} {jn jc : Nat} {X : R2} {w : World} (h : GP w0 w b g4 g7 J ja jn jc X) (hr : Rg w g7 ja J.sh) (h7 : w0.heap.size ≤ g7) (h47 : g4 ≠ g7) (u v : Int) : GP w0 ((w.setCell ⟨g7,0,none⟩ (.int .i64 u)).setCell ⟨g7,1,none⟩ (.int .i64 v)) b g4 g7 J ja jn jc (u,v) := by
  obtain ⟨t,s,hp⟩ := h.pt
  have hnb : b ≠ g7 := fun e => h.ne.2 e.symm
  have hl := h.wx.lt
  exact ⟨(h.b0.setCell (p := ⟨g7,0,none⟩) h7 _).setCell (p := ⟨g7,1,none⟩) h7 _,h.hb,⟨t,s,Bk.other (p := ⟨g7,1,none⟩) (Bk.other (p := ⟨g7,0,none⟩) hp (by exact hnb) _) (by exact hnb) _⟩,(h.job.other (p := ⟨g7,0,none⟩) (by exact h47) _).other (p := ⟨g7,1,none⟩) (by exact h47) _,((hr.setg 0 _).setg 1 _).hi (by simp; omega),(h.wx.put 0 _).put 1 _,h.ne⟩
theorem wok_win {J : Jb} (h : J.Full) : (windowI J = (win J.wi J.sh,0) ∧ ¬ (win J.wi J.sh).2 < (win J.wi J.sh).1 ∧ WOK J (win J.wi J.sh)) ∨ ((windowI J).2 = 11 ∧ WOK J (1000,-1000)) := by
  have hc := h.check
  by_cases hw : (win J.wi J.sh).2 < (win J.wi J.sh).1
  · refine .inr ⟨by unfold windowI; rw [if_neg (by simp [hc]),if_pos hw],fun a b h1 h2 h3 => ?_⟩
    constructor
    · rintro ⟨h4,h5⟩
      simp only at h4 h5
      omega
    · rintro ⟨h4,h5⟩
      omega
  · exact .inl ⟨by unfold windowI; rw [if_neg (by simp [hc]),if_neg hw],hw,fun a b _ _ _ => Iff.rfl⟩
theorem gd_two {J : Jb} (h : J.Full) : (guideI J = 5 ∧ guidedI J = (0,11)) ∨ (0 ≤ guideI J ∧ guideI J ≤ 4 ∧ guidedI J = (guideI J,0)) := by
  have h1 := guide_nn J
  have h2 := guide_top J
  by_cases h5 : guideI J = 5
  · exact .inl ⟨h5,by unfold guidedI; rw [if_pos h.check,if_pos h5]⟩
  · exact .inr ⟨h1,by omega,by unfold guidedI; rw [if_pos h.check,if_neg h5]⟩
theorem me_full {J : Jb} (h : J.Full) (m : Int) (hm : 0 ≤ m ∧ m ≤ J.me) : ({ J with me := m } : Jb).Full := by
  obtain ⟨p,t,r,u,d,x,y,le,wi,me,len,sh⟩ := h
  exact ⟨p,t,r,u,d,x,y,le,wi,⟨hm.1,by show m ≤ _; omega⟩,len,sh⟩
set_option maxHeartbeats 4000000 in
set_option maxRecDepth 1000000 in
theorem gmpart9 {w0 : World} {b g4 g7 : Nat} {J : Jb} {ja : Option Addr} {jn jc : Nat} {X : R2} {n : Int} {w : World} {u0 u1 u2 u8 A0 A1 A2 A3 A4 A5 A6 A7 A8 A9 Aa Ab Ac Ad Ae Af Ag Ah Ai Aj Ak Al Am An Ao Ap Aq Ar As At Au Av Aw Ax Ay Az C0 C1 C2 C3 C4 C5 C6 C7 C8 C9 Ca Cb Cc Cd Ce Cf Cg Ch Ci Cj Ck Cl Cm Cn Co Cp Cq Cr Cs Ct Cu Cv Cw Cx Cy Cz D0 D1 D2 D3 D4 D5 D6 D7 D8 D9 Da Db Dc Dd De Df Dg Dh Di Dj Dk Dl Dm Dn Do Dp Dq Dr Ds Dt Du Dv Dw Dx Dy Dz E0 E1 E2 E3 E4 E5 E6 E7 E8 E9 Ea Eb Ec Ed Ee Ef Eg Eh Ei Ej Ek El Em En Eo Ep Eq Er Es Et Eu Ev Ew Ex Ey Ez F0 F1 F2 F3 F4 F5 F6 F7 F8 F9 Fa Fb Fc Fd Fe Ff Fg Fh Fi Fj Fk Fl Fm Fn Fo Fp Fq Fr Fs Ft Fu Fv Fw Fx Fy Fz L0 L1 L2 L3 L4 L5 L6 L7 L8 L9 La Lb Lc Ld Le Lf Lg Lh Li Lj Lk Ll Lm Ln Lo Lp Lq Lr : Value} (hF : J.Full) (hW : WOK J X) (htun : TunOK) (hjn : jn = J.sh.length) (hs : GP w0 w b g4 g7 J ja jn jc X) (hn4 : 0 ≤ n ∧ n ≤ 4) (hg : guideI J = n) : Code.wp Try.prog gmrest9 (QGM w0) ⟨#[u0,u1,u2,(.pointer (some ⟨b,0,none⟩)),(.pointer (some ⟨g4,0,none⟩)),(.int .i64 n),(.int .i64 0),(.pointer (some ⟨g7,0,none⟩)),u8,(.int .i64 n),A0,A1,A2,A3,A4,A5,A6,A7,A8,A9,Aa,Ab,Ac,Ad,Ae,Af,Ag,Ah,Ai,Aj,Ak,Al,Am,An,Ao,Ap,Aq,Ar,As,At,Au,Av,Aw,Ax,Ay,Az,C0,C1,C2,C3,C4,C5,C6,C7,C8,C9,Ca,Cb,Cc,Cd,Ce,Cf,Cg,Ch,Ci,Cj,Ck,Cl,Cm,Cn,Co,Cp,Cq,Cr,Cs,Ct,Cu,Cv,Cw,Cx,Cy,Cz,D0,D1,D2,D3,D4,D5,D6,D7,D8,D9,Da,Db,Dc,Dd,De,Df,Dg,Dh,Di,Dj,Dk,Dl,Dm,Dn,Do,Dp,Dq,Dr,Ds,Dt,Du,Dv,Dw,Dx,Dy,Dz,E0,E1,E2,E3,E4,E5,E6,E7,E8,E9,Ea,Eb,Ec,Ed,Ee,Ef,Eg,Eh,Ei,Ej,Ek,El,Em,En,Eo,Ep,Eq,Er,Es,Et,Eu,Ev,Ew,Ex,Ey,Ez,F0,F1,F2,F3,F4,F5,F6,F7,F8,F9,Fa,Fb,Fc,Fd,Fe,Ff,Fg,Fh,Fi,Fj,Fk,Fl,Fm,Fn,Fo,Fp,Fq,Fr,Fs,Ft,Fu,Fv,Fw,Fx,Fy,Fz,L0,L1,L2,L3,L4,L5,L6,L7,L8,L9,La,Lb,Lc,Ld,Le,Lf,Lg,Lh,Li,Lj,Lk,Ll,Lm,Ln,Lo,Lp,Lq,Lr],[]⟩ w := by
  rw [gmrest9_eq]
  have HF := hidMk hF
  have HW := hidMk hW
  have HT := hidMk htun
  have HJN := hidMk hjn
  have HS := hidMk hs
  clear hF hW htun hjn hs
  go_wp2_with fail
  exact gmpart10 HF.out HW.out HT.out HJN.out hn4 HS.out hg
set_option maxHeartbeats 4000000 in
set_option maxRecDepth 1000000 in
theorem gmpart8 {w0 : World} {b g4 g7 : Nat} {J : Jb} {ja : Option Addr} {jn jc : Nat} {X : R2} {gn ge du : Int} {w : World} {u0 u1 u2 u8 A0 A1 A2 A3 A4 A5 A6 A7 A8 A9 Aa Ab Ac Ad Ae Af Ag Ah Ai Aj Ak Al Am An Ao Ap Aq Ar As At Au Av Aw Ax Ay Az C0 C1 C2 C3 C4 C5 C6 C7 C8 C9 Ca Cb Cc Cd Ce Cf Cg Ch Ci Cj Ck Cl Cm Cn Co Cp Cq Cr Cs Ct Cu Cv Cw Cx Cy Cz D0 D1 D2 D3 D4 D5 D6 D7 D8 D9 Da Db Dc Dd De Df Dg Dh Di Dj Dk Dl Dm Dn Do Dp Dq Dr Ds Dt Du Dv Dw Dx Dy Dz E0 E1 E2 E3 E4 E5 E6 E7 E8 E9 Ea Eb Ec Ed Ee Ef Eg Eh Ei Ej Ek El Em En Eo Ep Eq Er Es Et Eu Ev Ew Ex Ey Ez F0 F1 F2 F3 F4 F5 F6 F7 F8 F9 Fa Fb Fc Fd Fe Ff Fg Fh Fi Fj Fk Fl Fm Fn Fo Fp Fq Fr Fs Ft Fu Fv Fw Fx Fy Fz L0 L1 L2 L3 L4 L5 L6 L7 L8 L9 La Lb Lc Ld Le Lf Lg Lh Li Lj Lk Ll Lm Ln Lo Lp Lq Lr : Value} (hF : J.Full) (hW : WOK J X) (htun : TunOK) (hjn : jn = J.sh.length) (hs : GP w0 w b g4 g7 J ja jn jc X) (hgd : gn = (guidedI J).1 ∧ ge = (guidedI J).2) (hdu : du = capk 4 (guideI J)) : Code.wp Try.prog gmrest8 (QGM w0) ⟨#[u0,u1,u2,(.pointer (some ⟨b,0,none⟩)),(.pointer (some ⟨g4,0,none⟩)),(.int .i64 gn),(.int .i64 ge),(.pointer (some ⟨g7,0,none⟩)),u8,(.int .i64 du),A0,A1,A2,A3,A4,A5,A6,A7,A8,A9,Aa,Ab,Ac,Ad,Ae,Af,Ag,Ah,Ai,Aj,Ak,Al,Am,An,Ao,Ap,Aq,Ar,As,At,Au,Av,Aw,Ax,Ay,Az,C0,C1,C2,C3,C4,C5,C6,C7,C8,C9,Ca,Cb,Cc,Cd,Ce,Cf,Cg,Ch,Ci,Cj,Ck,Cl,Cm,Cn,Co,Cp,Cq,Cr,Cs,Ct,Cu,Cv,Cw,Cx,Cy,Cz,D0,D1,D2,D3,D4,D5,D6,D7,D8,D9,Da,Db,Dc,Dd,De,Df,Dg,Dh,Di,Dj,Dk,Dl,Dm,Dn,Do,Dp,Dq,Dr,Ds,Dt,Du,Dv,Dw,Dx,Dy,Dz,E0,E1,E2,E3,E4,E5,E6,E7,E8,E9,Ea,Eb,Ec,Ed,Ee,Ef,Eg,Eh,Ei,Ej,Ek,El,Em,En,Eo,Ep,Eq,Er,Es,Et,Eu,Ev,Ew,Ex,Ey,Ez,F0,F1,F2,F3,F4,F5,F6,F7,F8,F9,Fa,Fb,Fc,Fd,Fe,Ff,Fg,Fh,Fi,Fj,Fk,Fl,Fm,Fn,Fo,Fp,Fq,Fr,Fs,Ft,Fu,Fv,Fw,Fx,Fy,Fz,L0,L1,L2,L3,L4,L5,L6,L7,L8,L9,La,Lb,Lc,Ld,Le,Lf,Lg,Lh,Li,Lj,Lk,Ll,Lm,Ln,Lo,Lp,Lq,Lr],[]⟩ w := by
  rw [gmrest8_eq]
  rcases gd_two hF with ⟨h5,hgi⟩ | ⟨h0,h4,hgi⟩
  · obtain ⟨rfl,rfl⟩ : gn = 0 ∧ ge = 11 := by rw [hgi] at hgd; exact hgd
    obtain rfl : du = 5 := by rw [hdu,h5]; rfl
    clear hgd hdu hgi h5
    have HF := hidMk hF
    have HW := hidMk hW
    have HT := hidMk htun
    have HJN := hidMk hjn
    have HS := hidMk hs
    clear hF hW htun hjn hs

    unfold QGM
    go_wp2_with (go_at_call 8; refine (HT.out _).mono ?_; rintro e w9 ⟨rfl,hb9⟩)
    go_ret
    exact ⟨rfl,HS.out.b0.trans (hb9.mono HS.out.b0.size)⟩
  · obtain ⟨rfl,rfl⟩ : gn = guideI J ∧ ge = 0 := by rw [hgi] at hgd; exact hgd
    obtain rfl : du = guideI J := by rw [hdu]; unfold capk; rw [if_pos (by omega)]
    clear hgd hdu hgi
    obtain ⟨n,hn⟩ : ∃ n,n = guideI J := ⟨_,rfl⟩
    have hn4 : 0 ≤ n ∧ n ≤ 4 := by omega
    rw [← hn]
    have HG := hidMk hn
    clear hn h0 h4
    have HF := hidMk hF
    have HW := hidMk hW
    have HT := hidMk htun
    have HJN := hidMk hjn
    have HS := hidMk hs
    clear hF hW htun hjn hs

    go_wp2_with fail
    exact gmpart9 HF.out HW.out HT.out HJN.out HS.out hn4 HG.out.symm
set_option maxHeartbeats 4000000 in
set_option maxRecDepth 1000000 in
theorem gmpart7 {w0 : World} {b g4 g7 : Nat} {J : Jb} {ja : Option Addr} {jn jc : Nat} {X : R2} {gn ge : Int} {w : World} {u0 u1 u2 u8 u9 A0 A1 A2 A3 A4 A5 A6 A7 A8 A9 Aa Ab Ac Ad Ae Af Ag Ah Ai Aj Ak Al Am An Ao Ap Aq Ar As At Au Av Aw Ax Ay Az C0 C1 C2 C3 C4 C5 C6 C7 C8 C9 Ca Cb Cc Cd Ce Cf Cg Ch Ci Cj Ck Cl Cm Cn Co Cp Cq Cr Cs Ct Cu Cv Cw Cx Cy Cz D0 D1 D2 D3 D4 D5 D6 D7 D8 D9 Da Db Dc Dd De Df Dg Dh Di Dj Dk Dl Dm Dn Do Dp Dq Dr Ds Dt Du Dv Dw Dx Dy Dz E0 E1 E2 E3 E4 E5 E6 E7 E8 E9 Ea Eb Ec Ed Ee Ef Eg Eh Ei Ej Ek El Em En Eo Ep Eq Er Es Et Eu Ev Ew Ex Ey Ez F0 F1 F2 F3 F4 F5 F6 F7 F8 F9 Fa Fb Fc Fd Fe Ff Fg Fh Fi Fj Fk Fl Fm Fn Fo Fp Fq Fr Fs Ft Fu Fv Fw Fx Fy Fz L0 L1 L2 L3 L4 L5 L6 L7 L8 L9 La Lb Lc Ld Le Lf Lg Lh Li Lj Lk Ll Lm Ln Lo Lp Lq Lr : Value} (hF : J.Full) (hW : WOK J X) (htun : TunOK) (hjn : jn = J.sh.length) (hs : GP w0 w b g4 g7 J ja jn jc X) (hgd : gn = (guidedI J).1 ∧ ge = (guidedI J).2) : Code.wp Try.prog gmrest7 (QGM w0) ⟨#[u0,u1,u2,(.pointer (some ⟨b,0,none⟩)),(.pointer (some ⟨g4,0,none⟩)),(.int .i64 gn),(.int .i64 ge),(.pointer (some ⟨g7,0,none⟩)),u8,u9,A0,A1,A2,A3,A4,A5,A6,A7,A8,A9,Aa,Ab,Ac,Ad,Ae,Af,Ag,Ah,Ai,Aj,Ak,Al,Am,An,Ao,Ap,Aq,Ar,As,At,Au,Av,Aw,Ax,Ay,Az,C0,C1,C2,C3,C4,C5,C6,C7,C8,C9,Ca,Cb,Cc,Cd,Ce,Cf,Cg,Ch,Ci,Cj,Ck,Cl,Cm,Cn,Co,Cp,Cq,Cr,Cs,Ct,Cu,Cv,Cw,Cx,Cy,Cz,D0,D1,D2,D3,D4,D5,D6,D7,D8,D9,Da,Db,Dc,Dd,De,Df,Dg,Dh,Di,Dj,Dk,Dl,Dm,Dn,Do,Dp,Dq,Dr,Ds,Dt,Du,Dv,Dw,Dx,Dy,Dz,E0,E1,E2,E3,E4,E5,E6,E7,E8,E9,Ea,Eb,Ec,Ed,Ee,Ef,Eg,Eh,Ei,Ej,Ek,El,Em,En,Eo,Ep,Eq,Er,Es,Et,Eu,Ev,Ew,Ex,Ey,Ez,F0,F1,F2,F3,F4,F5,F6,F7,F8,F9,Fa,Fb,Fc,Fd,Fe,Ff,Fg,Fh,Fi,Fj,Fk,Fl,Fm,Fn,Fo,Fp,Fq,Fr,Fs,Ft,Fu,Fv,Fw,Fx,Fy,Fz,L0,L1,L2,L3,L4,L5,L6,L7,L8,L9,La,Lb,Lc,Ld,Le,Lf,Lg,Lh,Li,Lj,Lk,Ll,Lm,Ln,Lo,Lp,Lq,Lr],[]⟩ w := by
  rw [gmrest7_eq]
  have HGD := hidMk hgd
  clear hgd
  have hin := (check_ok hF.check).inn.mono (by decide : (100 : Int) ≤ 1000)
  have htg : TgIn 4 J.tg := by
    obtain ⟨p,t,r,u,d,x,y,le,wi,me,len,sh⟩ := hF
    refine ⟨?_,p.2.1⟩
    unfold Tg.In
    simp only [Jb.tg]
    omega
  have hnd : Calls Try.prog 33 #[.agg (jobC J (.slice ja jn jc)),.agg #[.int .i64 X.1,.int .i64 X.2],.agg #[.int .i64 J.p1,.int .i64 J.p2],.int .i64 0,.int .i64 0,.int .i64 4] w fun e w' => e = .returned (.int .i64 (capk 4 (guideI J))) ∧ Below w.heap.size w w' :=
    needs_all (sa := ja) (sn := jn) (sc := jc) hin ⟨hF.u.2.1,hF.d.2.1⟩ ⟨hF.x.2.1,hF.y.2.1⟩ hF.me hW 4 (by decide) J.tg 0 0 w ⟨by simp [Jb.tg],by simp [Jb.tg],hF.t.2.1,hF.r.2.1⟩ htg (by decide) hs.rg
  have HND := hidMk hnd
  clear hnd htg hin
  have HF := hidMk hF
  have HW := hidMk hW
  have HT := hidMk htun
  have HJN := hidMk hjn
  have HS := hidMk hs
  clear hF hW htun hjn hs
  have hra : w.rangeAt g4 0 [.int .i64 J.p1,.int .i64 J.p2] := fun j v hv => by
    rw [Nat.zero_add]
    have hj : j < 2 := (List.getElem?_eq_some_iff.1 hv).1
    refine HS.out.job.at_ j v ?_
    match j,hj with
    | 0,_ => exact hv
    | 1,_ => exact hv
  have HRA := hidMk hra
  clear hra
  go_wp2_with (first | (refine wpList_load_row rfl 30 _ rfl g4 rfl _ (jobC J (.slice ja jn jc)) _ _ HS.out.job Try.underlying30 rfl szJob ?_) | (refine wpList_load_row rfl 23 _ rfl g7 rfl _ #[.int .i64 X.1,.int .i64 X.2] _ _ HS.out.wx Try.underlying23 rfl szRg2 ?_) | (refine wpList_load_mid rfl 23 _ rfl g4 0 rfl [.int .i64 J.p1,.int .i64 J.p2] _ HRA.out Try.underlying23 rfl szRg2 ?_))
  refine (HND.out).mono ?_
  rintro e w2 ⟨rfl,hb2⟩
  obtain ⟨du,hdu⟩ : ∃ du,du = capk 4 (guideI J) := ⟨_,rfl⟩
  rw [← hdu]
  have HDU := hidMk hdu
  have HS2 := hidMk (HS.out.next hb2)
  clear hb2 hdu HS HND HRA
  go_wp2_with fail
  exact gmpart8 HF.out HW.out HT.out HJN.out HS2.out HGD.out HDU.out
set_option maxHeartbeats 4000000 in
set_option maxRecDepth 1000000 in
theorem gmpart6 {w0 : World} {b g4 g7 : Nat} {J : Jb} {ja : Option Addr} {jn jc : Nat} {X : R2} {gn ge ev : Int} {w : World} {u0 u1 u2 u9 A0 A1 A2 A3 A4 A5 A6 A7 A8 A9 Aa Ab Ac Ad Ae Af Ag Ah Ai Aj Ak Al Am An Ao Ap Aq Ar As At Au Av Aw Ax Ay Az C0 C1 C2 C3 C4 C5 C6 C7 C8 C9 Ca Cb Cc Cd Ce Cf Cg Ch Ci Cj Ck Cl Cm Cn Co Cp Cq Cr Cs Ct Cu Cv Cw Cx Cy Cz D0 D1 D2 D3 D4 D5 D6 D7 D8 D9 Da Db Dc Dd De Df Dg Dh Di Dj Dk Dl Dm Dn Do Dp Dq Dr Ds Dt Du Dv Dw Dx Dy Dz E0 E1 E2 E3 E4 E5 E6 E7 E8 E9 Ea Eb Ec Ed Ee Ef Eg Eh Ei Ej Ek El Em En Eo Ep Eq Er Es Et Eu Ev Ew Ex Ey Ez F0 F1 F2 F3 F4 F5 F6 F7 F8 F9 Fa Fb Fc Fd Fe Ff Fg Fh Fi Fj Fk Fl Fm Fn Fo Fp Fq Fr Fs Ft Fu Fv Fw Fx Fy Fz L0 L1 L2 L3 L4 L5 L6 L7 L8 L9 La Lb Lc Ld Le Lf Lg Lh Li Lj Lk Ll Lm Ln Lo Lp Lq Lr : Value} (hF : J.Full) (htun : TunOK) (hjn : jn = J.sh.length) (hs : GP w0 w b g4 g7 J ja jn jc X) (hgd : gn = (guidedI J).1 ∧ ge = (guidedI J).2) (hx : X = (windowI J).1 ∧ ev = (windowI J).2) (hr7 : Rg w g7 ja J.sh) (h7 : w0.heap.size ≤ g7) (h47 : g4 ≠ g7) : Code.wp Try.prog gmrest6 (QGM w0) ⟨#[u0,u1,u2,(.pointer (some ⟨b,0,none⟩)),(.pointer (some ⟨g4,0,none⟩)),(.int .i64 gn),(.int .i64 ge),(.pointer (some ⟨g7,0,none⟩)),(.int .i64 ev),u9,A0,A1,A2,A3,A4,A5,A6,A7,A8,A9,Aa,Ab,Ac,Ad,Ae,Af,Ag,Ah,Ai,Aj,Ak,Al,Am,An,Ao,Ap,Aq,Ar,As,At,Au,Av,Aw,Ax,Ay,Az,C0,C1,C2,C3,C4,C5,C6,C7,C8,C9,Ca,Cb,Cc,Cd,Ce,Cf,Cg,Ch,Ci,Cj,Ck,Cl,Cm,Cn,Co,Cp,Cq,Cr,Cs,Ct,Cu,Cv,Cw,Cx,Cy,Cz,D0,D1,D2,D3,D4,D5,D6,D7,D8,D9,Da,Db,Dc,Dd,De,Df,Dg,Dh,Di,Dj,Dk,Dl,Dm,Dn,Do,Dp,Dq,Dr,Ds,Dt,Du,Dv,Dw,Dx,Dy,Dz,E0,E1,E2,E3,E4,E5,E6,E7,E8,E9,Ea,Eb,Ec,Ed,Ee,Ef,Eg,Eh,Ei,Ej,Ek,El,Em,En,Eo,Ep,Eq,Er,Es,Et,Eu,Ev,Ew,Ex,Ey,Ez,F0,F1,F2,F3,F4,F5,F6,F7,F8,F9,Fa,Fb,Fc,Fd,Fe,Ff,Fg,Fh,Fi,Fj,Fk,Fl,Fm,Fn,Fo,Fp,Fq,Fr,Fs,Ft,Fu,Fv,Fw,Fx,Fy,Fz,L0,L1,L2,L3,L4,L5,L6,L7,L8,L9,La,Lb,Lc,Ld,Le,Lf,Lg,Lh,Li,Lj,Lk,Ll,Lm,Ln,Lo,Lp,Lq,Lr],[]⟩ w := by
  rw [gmrest6_eq]
  have HGD := hidMk hgd
  have HR7 := hidMk hr7
  clear hgd hr7
  rcases wok_win hF with ⟨e1,_,hw⟩ | ⟨e1,hw⟩
  · obtain ⟨rfl,rfl⟩ : X = win J.wi J.sh ∧ ev = 0 := by rw [e1] at hx; exact hx
    have HW := hidMk hw
    clear hx e1 hw
    obtain ⟨X,hX⟩ : ∃ X,X = win J.wi J.sh := ⟨_,rfl⟩
    rw [← hX] at HW hs
    clear hX
    have HF := hidMk hF
    have HT := hidMk htun
    have HJN := hidMk hjn
    have HS := hidMk hs
    clear hF htun hjn hs

    go_wp2_with fail
    exact gmpart7 HF.out HW.out HT.out HJN.out HS.out HGD.out
  · obtain rfl : ev = 11 := by rw [e1] at hx; exact hx.2
    have HW := hidMk hw
    clear hx e1 hw
    have f0 := hs.wx.free 0
    have f1 := hs.wx.free 1
    have c0 := hs.wx.at_ 0 (.int .i64 X.1) rfl
    have c1 := hs.wx.at_ 1 (.int .i64 X.2) rfl
    have HF := hidMk hF
    have HT := hidMk htun
    have HJN := hidMk hjn
    have HS := hidMk hs
    clear hF htun hjn hs

    unfold QGM
    go_wp2_with (go_at_call 32; refine (to_any _ _ _).mono ?_; rintro e w5 ⟨rfl,hb5⟩; have HS5 := hidMk (HS.out.next hb5); have HR5 := hidMk (HR7.out.below (hb5.mono (Nat.le_of_lt HS.out.wx.lt))); clear hb5 c0 c1 f0 f1; have c0 := HS5.out.wx.at_ 0 (.int .i64 X.1) rfl; have c1 := HS5.out.wx.at_ 1 (.int .i64 X.2) rfl; have f0 := HS5.out.wx.free 0; have f1 := HS5.out.wx.free 1)
    exact gmpart7 HF.out HW.out HT.out HJN.out (HS5.out.setX HR5.out h7 h47 1000 (-1000)) HGD.out
set_option maxHeartbeats 4000000 in
set_option maxRecDepth 1000000 in
theorem gmpart5 {w0 : World} {b g4 : Nat} {J : Jb} {ja : Option Addr} {jn jc : Nat} {gn ge : Int} {w : World} {u0 u1 u2 u7 u8 u9 A0 A1 A2 A3 A4 A5 A6 A7 A8 A9 Aa Ab Ac Ad Ae Af Ag Ah Ai Aj Ak Al Am An Ao Ap Aq Ar As At Au Av Aw Ax Ay Az C0 C1 C2 C3 C4 C5 C6 C7 C8 C9 Ca Cb Cc Cd Ce Cf Cg Ch Ci Cj Ck Cl Cm Cn Co Cp Cq Cr Cs Ct Cu Cv Cw Cx Cy Cz D0 D1 D2 D3 D4 D5 D6 D7 D8 D9 Da Db Dc Dd De Df Dg Dh Di Dj Dk Dl Dm Dn Do Dp Dq Dr Ds Dt Du Dv Dw Dx Dy Dz E0 E1 E2 E3 E4 E5 E6 E7 E8 E9 Ea Eb Ec Ed Ee Ef Eg Eh Ei Ej Ek El Em En Eo Ep Eq Er Es Et Eu Ev Ew Ex Ey Ez F0 F1 F2 F3 F4 F5 F6 F7 F8 F9 Fa Fb Fc Fd Fe Ff Fg Fh Fi Fj Fk Fl Fm Fn Fo Fp Fq Fr Fs Ft Fu Fv Fw Fx Fy Fz L0 L1 L2 L3 L4 L5 L6 L7 L8 L9 La Lb Lc Ld Le Lf Lg Lh Li Lj Lk Ll Lm Ln Lo Lp Lq Lr : Value} (hF : J.Full) (htun : TunOK) (hjn : jn = J.sh.length) (hs : GB w0 w b g4 J ja jn jc) (hgd : gn = (guidedI J).1 ∧ ge = (guidedI J).2) : Code.wp Try.prog gmrest5 (QGM w0) ⟨#[u0,u1,u2,(.pointer (some ⟨b,0,none⟩)),(.pointer (some ⟨g4,0,none⟩)),(.int .i64 gn),(.int .i64 ge),u7,u8,u9,A0,A1,A2,A3,A4,A5,A6,A7,A8,A9,Aa,Ab,Ac,Ad,Ae,Af,Ag,Ah,Ai,Aj,Ak,Al,Am,An,Ao,Ap,Aq,Ar,As,At,Au,Av,Aw,Ax,Ay,Az,C0,C1,C2,C3,C4,C5,C6,C7,C8,C9,Ca,Cb,Cc,Cd,Ce,Cf,Cg,Ch,Ci,Cj,Ck,Cl,Cm,Cn,Co,Cp,Cq,Cr,Cs,Ct,Cu,Cv,Cw,Cx,Cy,Cz,D0,D1,D2,D3,D4,D5,D6,D7,D8,D9,Da,Db,Dc,Dd,De,Df,Dg,Dh,Di,Dj,Dk,Dl,Dm,Dn,Do,Dp,Dq,Dr,Ds,Dt,Du,Dv,Dw,Dx,Dy,Dz,E0,E1,E2,E3,E4,E5,E6,E7,E8,E9,Ea,Eb,Ec,Ed,Ee,Ef,Eg,Eh,Ei,Ej,Ek,El,Em,En,Eo,Ep,Eq,Er,Es,Et,Eu,Ev,Ew,Ex,Ey,Ez,F0,F1,F2,F3,F4,F5,F6,F7,F8,F9,Fa,Fb,Fc,Fd,Fe,Ff,Fg,Fh,Fi,Fj,Fk,Fl,Fm,Fn,Fo,Fp,Fq,Fr,Fs,Ft,Fu,Fv,Fw,Fx,Fy,Fz,L0,L1,L2,L3,L4,L5,L6,L7,L8,L9,La,Lb,Lc,Ld,Le,Lf,Lg,Lh,Li,Lj,Lk,Ll,Lm,Ln,Lo,Lp,Lq,Lr],[]⟩ w := by
  rw [gmrest5_eq]
  have HGD := hidMk hgd
  clear hgd
  have HF := hidMk hF
  have HT := hidMk htun
  have HJN := hidMk hjn
  have HS := hidMk hs
  clear hF htun hjn hs
  have hjm : jn ≤ 9223372036854775807 := by have := HF.out.len; rw [HJN.out]; omega
  go_wp2_with (refine wpList_load_row rfl 30 _ rfl g4 rfl _ (jobC J (.slice ja jn jc)) _ _ HS.out.job Try.underlying30 rfl szJob ?_)
  refine (window_any J ja jn jc _ HJN.out hjm HS.out.rg).mono ?_
  rintro e w2 ⟨he,hb2⟩
  obtain ⟨X,hX⟩ : ∃ X,X = (windowI J).1 := ⟨_,rfl⟩
  obtain ⟨ev,hev⟩ : ∃ ev,ev = (windowI J).2 := ⟨_,rfl⟩
  rw [← hX,← hev] at he
  subst he
  have HX := hidMk (And.intro hX hev)
  have HS2 := hidMk (HS.out.next hb2)
  clear hb2 hX hev HS
  go_wp2_with fail
  obtain ⟨k1,k2,k3,k4⟩ := HS2.out.toP X
  exact gmpart6 HF.out HT.out HJN.out k1 HGD.out HX.out k2 k3 k4
set_option maxHeartbeats 4000000 in
set_option maxRecDepth 1000000 in
theorem gmpart4 {w0 : World} {b g4 : Nat} {J : Jb} {ja : Option Addr} {jn jc : Nat} {w : World} {u0 u1 u2 u5 u6 u7 u8 u9 A0 A1 A2 A3 A4 A5 A6 A7 A8 A9 Aa Ab Ac Ad Ae Af Ag Ah Ai Aj Ak Al Am An Ao Ap Aq Ar As At Au Av Aw Ax Ay Az C0 C1 C2 C3 C4 C5 C6 C7 C8 C9 Ca Cb Cc Cd Ce Cf Cg Ch Ci Cj Ck Cl Cm Cn Co Cp Cq Cr Cs Ct Cu Cv Cw Cx Cy Cz D0 D1 D2 D3 D4 D5 D6 D7 D8 D9 Da Db Dc Dd De Df Dg Dh Di Dj Dk Dl Dm Dn Do Dp Dq Dr Ds Dt Du Dv Dw Dx Dy Dz E0 E1 E2 E3 E4 E5 E6 E7 E8 E9 Ea Eb Ec Ed Ee Ef Eg Eh Ei Ej Ek El Em En Eo Ep Eq Er Es Et Eu Ev Ew Ex Ey Ez F0 F1 F2 F3 F4 F5 F6 F7 F8 F9 Fa Fb Fc Fd Fe Ff Fg Fh Fi Fj Fk Fl Fm Fn Fo Fp Fq Fr Fs Ft Fu Fv Fw Fx Fy Fz L0 L1 L2 L3 L4 L5 L6 L7 L8 L9 La Lb Lc Ld Le Lf Lg Lh Li Lj Lk Ll Lm Ln Lo Lp Lq Lr : Value} (hF : J.Full) (htun : TunOK) (hjn : jn = J.sh.length) (hs : GB w0 w b g4 J ja jn jc) : Code.wp Try.prog gmrest4 (QGM w0) ⟨#[u0,u1,u2,(.pointer (some ⟨b,0,none⟩)),(.pointer (some ⟨g4,0,none⟩)),u5,u6,u7,u8,u9,A0,A1,A2,A3,A4,A5,A6,A7,A8,A9,Aa,Ab,Ac,Ad,Ae,Af,Ag,Ah,Ai,Aj,Ak,Al,Am,An,Ao,Ap,Aq,Ar,As,At,Au,Av,Aw,Ax,Ay,Az,C0,C1,C2,C3,C4,C5,C6,C7,C8,C9,Ca,Cb,Cc,Cd,Ce,Cf,Cg,Ch,Ci,Cj,Ck,Cl,Cm,Cn,Co,Cp,Cq,Cr,Cs,Ct,Cu,Cv,Cw,Cx,Cy,Cz,D0,D1,D2,D3,D4,D5,D6,D7,D8,D9,Da,Db,Dc,Dd,De,Df,Dg,Dh,Di,Dj,Dk,Dl,Dm,Dn,Do,Dp,Dq,Dr,Ds,Dt,Du,Dv,Dw,Dx,Dy,Dz,E0,E1,E2,E3,E4,E5,E6,E7,E8,E9,Ea,Eb,Ec,Ed,Ee,Ef,Eg,Eh,Ei,Ej,Ek,El,Em,En,Eo,Ep,Eq,Er,Es,Et,Eu,Ev,Ew,Ex,Ey,Ez,F0,F1,F2,F3,F4,F5,F6,F7,F8,F9,Fa,Fb,Fc,Fd,Fe,Ff,Fg,Fh,Fi,Fj,Fk,Fl,Fm,Fn,Fo,Fp,Fq,Fr,Fs,Ft,Fu,Fv,Fw,Fx,Fy,Fz,L0,L1,L2,L3,L4,L5,L6,L7,L8,L9,La,Lb,Lc,Ld,Le,Lf,Lg,Lh,Li,Lj,Lk,Ll,Lm,Ln,Lo,Lp,Lq,Lr],[]⟩ w := by
  rw [gmrest4_eq]
  have HF := hidMk hF
  have HT := hidMk htun
  have HJN := hidMk hjn
  have HS := hidMk hs
  clear hF htun hjn hs
  have hjm : jn ≤ 9223372036854775807 := by have := HF.out.len; rw [HJN.out]; omega
  go_wp2_with (refine wpList_load_row rfl 30 _ rfl g4 rfl _ (jobC J (.slice ja jn jc)) _ _ HS.out.job Try.underlying30 rfl szJob ?_)
  refine (guided_any J ja jn jc _ HJN.out hjm HS.out.rg).mono ?_
  rintro e w2 ⟨rfl,hb2⟩
  obtain ⟨gn,hgn⟩ : ∃ x,x = (guidedI J).1 := ⟨_,rfl⟩
  obtain ⟨ge,hge⟩ : ∃ x,x = (guidedI J).2 := ⟨_,rfl⟩
  rw [← hgn,← hge]
  have HG := hidMk (And.intro hgn hge)
  have HS2 := hidMk (HS.out.next hb2)
  clear hgn hge hb2 HS
  go_wp2_with fail
  exact gmpart5 HF.out HT.out HJN.out HS2.out HG.out
set_option maxHeartbeats 4000000 in
set_option maxRecDepth 1000000 in
theorem gmpart3 {w0 : World} {b g4 : Nat} {J : Jb} {ja : Option Addr} {jn jc : Nat} {w : World} {u0 u1 u2 u5 u6 u7 u8 u9 A0 A1 A2 A3 A4 A5 A6 A7 A8 A9 Aa Ab Ac Ad Ae Af Ag Ah Ai Aj Ak Al Am An Ao Ap Aq Ar As At Au Av Aw Ax Ay Az C0 C1 C2 C3 C4 C5 C6 C7 C8 C9 Ca Cb Cc Cd Ce Cf Cg Ch Ci Cj Ck Cl Cm Cn Co Cp Cq Cr Cs Ct Cu Cv Cw Cx Cy Cz D0 D1 D2 D3 D4 D5 D6 D7 D8 D9 Da Db Dc Dd De Df Dg Dh Di Dj Dk Dl Dm Dn Do Dp Dq Dr Ds Dt Du Dv Dw Dx Dy Dz E0 E1 E2 E3 E4 E5 E6 E7 E8 E9 Ea Eb Ec Ed Ee Ef Eg Eh Ei Ej Ek El Em En Eo Ep Eq Er Es Et Eu Ev Ew Ex Ey Ez F0 F1 F2 F3 F4 F5 F6 F7 F8 F9 Fa Fb Fc Fd Fe Ff Fg Fh Fi Fj Fk Fl Fm Fn Fo Fp Fq Fr Fs Ft Fu Fv Fw Fx Fy Fz L0 L1 L2 L3 L4 L5 L6 L7 L8 L9 La Lb Lc Ld Le Lf Lg Lh Li Lj Lk Ll Lm Ln Lo Lp Lq Lr : Value} (hF : J.Full) (htun : TunOK) (hjn : jn = J.sh.length) (hb0 : Below w0.heap.size w0 w) (hbb : w0.heap.size ≤ b) (hp : Pt w b) (h4 : Bk w g4 30 (jobC J (.slice ja jn jc))) (hrg : Rg w g4 ja J.sh) (hg4 : w0.heap.size ≤ g4) (hgb : g4 ≠ b) : Code.wp Try.prog gmrest3 (QGM w0) ⟨#[u0,u1,u2,(.pointer (some ⟨b,0,none⟩)),(.pointer (some ⟨g4,0,none⟩)),u5,u6,u7,u8,u9,A0,A1,A2,A3,A4,A5,A6,A7,A8,A9,Aa,Ab,Ac,Ad,Ae,Af,Ag,Ah,Ai,Aj,Ak,Al,Am,An,Ao,Ap,Aq,Ar,As,At,Au,Av,Aw,Ax,Ay,Az,C0,C1,C2,C3,C4,C5,C6,C7,C8,C9,Ca,Cb,Cc,Cd,Ce,Cf,Cg,Ch,Ci,Cj,Ck,Cl,Cm,Cn,Co,Cp,Cq,Cr,Cs,Ct,Cu,Cv,Cw,Cx,Cy,Cz,D0,D1,D2,D3,D4,D5,D6,D7,D8,D9,Da,Db,Dc,Dd,De,Df,Dg,Dh,Di,Dj,Dk,Dl,Dm,Dn,Do,Dp,Dq,Dr,Ds,Dt,Du,Dv,Dw,Dx,Dy,Dz,E0,E1,E2,E3,E4,E5,E6,E7,E8,E9,Ea,Eb,Ec,Ed,Ee,Ef,Eg,Eh,Ei,Ej,Ek,El,Em,En,Eo,Ep,Eq,Er,Es,Et,Eu,Ev,Ew,Ex,Ey,Ez,F0,F1,F2,F3,F4,F5,F6,F7,F8,F9,Fa,Fb,Fc,Fd,Fe,Ff,Fg,Fh,Fi,Fj,Fk,Fl,Fm,Fn,Fo,Fp,Fq,Fr,Fs,Ft,Fu,Fv,Fw,Fx,Fy,Fz,L0,L1,L2,L3,L4,L5,L6,L7,L8,L9,La,Lb,Lc,Ld,Le,Lf,Lg,Lh,Li,Lj,Lk,Ll,Lm,Ln,Lo,Lp,Lq,Lr],[]⟩ w := by
  rw [gmrest3_eq]
  have HF := hidMk hF
  have HT := hidMk htun
  have HJN := hidMk hjn
  have HB0 := hidMk hb0
  have HP := hidMk hp
  have H4 := hidMk h4
  have HRG := hidMk hrg
  have c17 := h4.at_ 17 (.int .i64 J.me) rfl
  have f17 := h4.free 17
  have hl4 := h4.lt
  have hme := hF.me
  clear hF htun hjn hb0 hp h4 hrg
  by_cases hlt : 2 < J.me
  · have HF2 := hidMk (me_full HF.out 2 (by omega))
    clear hme
    go_wp2_with fail
    have q := (Below.refl w0.heap.size w).setCell (p := ⟨g4,17,none⟩) hg4 (.int .i64 2)
    obtain ⟨t,s,hp⟩ := HP.out
    have hnb : b ≠ g4 := fun e => hgb e.symm
    have b4 := H4.out.put 17 (.int .i64 2)
    exact gmpart4 (J := { J with me := 2 }) HF2.out HT.out HJN.out ⟨HB0.out.trans q,hbb,⟨t,s,Bk.other (p := ⟨g4,17,none⟩) hp (by exact hnb) _⟩,b4,(HRG.out.setg 17 _).hi (Nat.le_of_lt b4.lt),hgb⟩
  · have HF2 := hidMk (me_full HF.out J.me (by omega))
    clear hme
    go_wp2_with fail
    have q := (Below.refl w0.heap.size w).setCell (p := ⟨g4,17,none⟩) hg4 (.int .i64 J.me)
    obtain ⟨t,s,hp⟩ := HP.out
    have hnb : b ≠ g4 := fun e => hgb e.symm
    have b4 := H4.out.put 17 (.int .i64 J.me)
    exact gmpart4 (J := { J with me := J.me }) HF2.out HT.out HJN.out ⟨HB0.out.trans q,hbb,⟨t,s,Bk.other (p := ⟨g4,17,none⟩) hp (by exact hnb) _⟩,b4,(HRG.out.setg 17 _).hi (Nat.le_of_lt b4.lt),hgb⟩
set_option maxHeartbeats 4000000 in
set_option maxRecDepth 1000000 in
theorem gmpart2 {w0 w : World} {b : Nat} {u0 u1 u2 u4 u5 u6 u7 u8 u9 A0 A1 A2 A3 A4 A5 A6 A7 A8 A9 Aa Ab Ac Ad Ae Af Ag Ah Ai Aj Ak Al Am An Ao Ap Aq Ar As At Au Av Aw Ax Ay Az C0 C1 C2 C3 C4 C5 C6 C7 C8 C9 Ca Cb Cc Cd Ce Cf Cg Ch Ci Cj Ck Cl Cm Cn Co Cp Cq Cr Cs Ct Cu Cv Cw Cx Cy Cz D0 D1 D2 D3 D4 D5 D6 D7 D8 D9 Da Db Dc Dd De Df Dg Dh Di Dj Dk Dl Dm Dn Do Dp Dq Dr Ds Dt Du Dv Dw Dx Dy Dz E0 E1 E2 E3 E4 E5 E6 E7 E8 E9 Ea Eb Ec Ed Ee Ef Eg Eh Ei Ej Ek El Em En Eo Ep Eq Er Es Et Eu Ev Ew Ex Ey Ez F0 F1 F2 F3 F4 F5 F6 F7 F8 F9 Fa Fb Fc Fd Fe Ff Fg Fh Fi Fj Fk Fl Fm Fn Fo Fp Fq Fr Fs Ft Fu Fv Fw Fx Fy Fz L0 L1 L2 L3 L4 L5 L6 L7 L8 L9 La Lb Lc Ld Le Lf Lg Lh Li Lj Lk Ll Lm Ln Lo Lp Lq Lr : Value} (htun : TunOK) (hb0 : Below w0.heap.size w0 w) (hbb : w0.heap.size ≤ b) (hp : Pt w b) : Code.wp Try.prog gmrest2 (QGM w0) ⟨#[u0,u1,u2,(.pointer (some ⟨b,0,none⟩)),u4,u5,u6,u7,u8,u9,A0,A1,A2,A3,A4,A5,A6,A7,A8,A9,Aa,Ab,Ac,Ad,Ae,Af,Ag,Ah,Ai,Aj,Ak,Al,Am,An,Ao,Ap,Aq,Ar,As,At,Au,Av,Aw,Ax,Ay,Az,C0,C1,C2,C3,C4,C5,C6,C7,C8,C9,Ca,Cb,Cc,Cd,Ce,Cf,Cg,Ch,Ci,Cj,Ck,Cl,Cm,Cn,Co,Cp,Cq,Cr,Cs,Ct,Cu,Cv,Cw,Cx,Cy,Cz,D0,D1,D2,D3,D4,D5,D6,D7,D8,D9,Da,Db,Dc,Dd,De,Df,Dg,Dh,Di,Dj,Dk,Dl,Dm,Dn,Do,Dp,Dq,Dr,Ds,Dt,Du,Dv,Dw,Dx,Dy,Dz,E0,E1,E2,E3,E4,E5,E6,E7,E8,E9,Ea,Eb,Ec,Ed,Ee,Ef,Eg,Eh,Ei,Ej,Ek,El,Em,En,Eo,Ep,Eq,Er,Es,Et,Eu,Ev,Ew,Ex,Ey,Ez,F0,F1,F2,F3,F4,F5,F6,F7,F8,F9,Fa,Fb,Fc,Fd,Fe,Ff,Fg,Fh,Fi,Fj,Fk,Fl,Fm,Fn,Fo,Fp,Fq,Fr,Fs,Ft,Fu,Fv,Fw,Fx,Fy,Fz,L0,L1,L2,L3,L4,L5,L6,L7,L8,L9,La,Lb,Lc,Ld,Le,Lf,Lg,Lh,Li,Lj,Lk,Ll,Lm,Ln,Lo,Lp,Lq,Lr],[]⟩ w := by
  rw [gmrest2_eq]
  have HT := hidMk htun
  have HB0 := hidMk hb0
  have HP := hidMk hp
  clear htun hb0 hp
  go_wp2_with fail
  refine (uptoP b 3 _ HP.out (by omega)).mono ?_
  rintro e w1 ⟨a1,rfl,ha1,hk1,hp1⟩
  have HK1 := hidMk ((hk1.mono HB0.out.size).toBelow hbb)
  have HP1 := hidMk hp1
  clear hk1 hp1
  go_wp2_with fail
  refine (uptoP b 1 _ HP1.out (by omega)).mono ?_
  rintro e w2 ⟨a2,rfl,ha2,hk2,hp2⟩
  have HB1 := hidMk (HB0.out.trans HK1.out)
  have HK2 := hidMk ((hk2.mono HB1.out.size).toBelow hbb)
  have HP2 := hidMk hp2
  clear hk2 hp2
  go_wp2_with fail
  refine (jobOf_hand a1 a2 (by omega) (by omega) b _ HP2.out).mono ?_
  rintro e w3 ⟨M,ma,mn_,mc,rfl,hmn,hmg,hck,hk,hp3⟩
  have HB2 := hidMk (HB1.out.trans HK2.out)
  have HB3 := hidMk (HB2.out.trans ((hk.mono HB2.out.size).toBelow hbb))
  have HMN := hidMk hmn
  have HMG := hidMk hmg
  have HCK := hidMk (check_full hck)
  have HP3 := hidMk hp3
  clear hk hp3 hmn hmg hck
  go_wp2_with (first | (refine wpList_store_row rfl 30 _ _ rfl w3.heap.size (jobC M (.slice ma mn_ mc)) rfl rfl _ _ (Bk.new _ _ _) szJob rfl (oneJob _ _ _ _) ?_; rw [World.setRow_alloc_new]))
  have q : Below w3.heap.size w3 (w3.alloc (.cells (jobC M (.slice ma mn_ mc)) 30)) := (Below.refl _ _).alloc (Nat.le_refl _) _
  have hlt := HP3.out.lt
  exact gmpart3 HCK.out HT.out HMN.out (HB3.out.trans (q.mono HB3.out.size)) hbb (HP3.out.below q hlt) (Bk.new _ _ _) (HMG.out.below q) HB3.out.size (by omega)
set_option maxHeartbeats 4000000 in
set_option maxRecDepth 1000000 in
theorem gmpart1 {w0 w : World} {na : Option Addr} {nn nc : Nat} {nl : List Int} {u1 u2 u3 u4 u5 u6 u7 u8 u9 A0 A1 A2 A3 A4 A5 A6 A7 A8 A9 Aa Ab Ac Ad Ae Af Ag Ah Ai Aj Ak Al Am An Ao Ap Aq Ar As At Au Av Aw Ax Ay Az C0 C1 C2 C3 C4 C5 C6 C7 C8 C9 Ca Cb Cc Cd Ce Cf Cg Ch Ci Cj Ck Cl Cm Cn Co Cp Cq Cr Cs Ct Cu Cv Cw Cx Cy Cz D0 D1 D2 D3 D4 D5 D6 D7 D8 D9 Da Db Dc Dd De Df Dg Dh Di Dj Dk Dl Dm Dn Do Dp Dq Dr Ds Dt Du Dv Dw Dx Dy Dz E0 E1 E2 E3 E4 E5 E6 E7 E8 E9 Ea Eb Ec Ed Ee Ef Eg Eh Ei Ej Ek El Em En Eo Ep Eq Er Es Et Eu Ev Ew Ex Ey Ez F0 F1 F2 F3 F4 F5 F6 F7 F8 F9 Fa Fb Fc Fd Fe Ff Fg Fh Fi Fj Fk Fl Fm Fn Fo Fp Fq Fr Fs Ft Fu Fv Fw Fx Fy Fz L0 L1 L2 L3 L4 L5 L6 L7 L8 L9 La Lb Lc Ld Le Lf Lg Lh Li Lj Lk Ll Lm Ln Lo Lp Lq Lr : Value} (htun : TunOK) (hb0 : Below w0.heap.size w0 w) (hnn : nn = nl.length ∧ nn ≤ 9223372036854775807) (hnl : Is w w.heap.size na nl) : Code.wp Try.prog gmrest1 (QGM w0) ⟨#[(.slice na nn nc),u1,u2,u3,u4,u5,u6,u7,u8,u9,A0,A1,A2,A3,A4,A5,A6,A7,A8,A9,Aa,Ab,Ac,Ad,Ae,Af,Ag,Ah,Ai,Aj,Ak,Al,Am,An,Ao,Ap,Aq,Ar,As,At,Au,Av,Aw,Ax,Ay,Az,C0,C1,C2,C3,C4,C5,C6,C7,C8,C9,Ca,Cb,Cc,Cd,Ce,Cf,Cg,Ch,Ci,Cj,Ck,Cl,Cm,Cn,Co,Cp,Cq,Cr,Cs,Ct,Cu,Cv,Cw,Cx,Cy,Cz,D0,D1,D2,D3,D4,D5,D6,D7,D8,D9,Da,Db,Dc,Dd,De,Df,Dg,Dh,Di,Dj,Dk,Dl,Dm,Dn,Do,Dp,Dq,Dr,Ds,Dt,Du,Dv,Dw,Dx,Dy,Dz,E0,E1,E2,E3,E4,E5,E6,E7,E8,E9,Ea,Eb,Ec,Ed,Ee,Ef,Eg,Eh,Ei,Ej,Ek,El,Em,En,Eo,Ep,Eq,Er,Es,Et,Eu,Ev,Ew,Ex,Ey,Ez,F0,F1,F2,F3,F4,F5,F6,F7,F8,F9,Fa,Fb,Fc,Fd,Fe,Ff,Fg,Fh,Fi,Fj,Fk,Fl,Fm,Fn,Fo,Fp,Fq,Fr,Fs,Ft,Fu,Fv,Fw,Fx,Fy,Fz,L0,L1,L2,L3,L4,L5,L6,L7,L8,L9,La,Lb,Lc,Ld,Le,Lf,Lg,Lh,Li,Lj,Lk,Ll,Lm,Ln,Lo,Lp,Lq,Lr],[]⟩ w := by
  rw [gmrest1_eq]
  have HT := hidMk htun
  have HB0 := hidMk hb0
  have HNL := hidMk hnl
  have HNN := hidMk hnn
  clear htun hb0 hnl hnn
  go_wp2_with fail
  refine (newPot_any na nn nc nl _ HNN.out.1 HNN.out.2 HNL.out).mono ?_
  rintro e w1 ⟨s,t,rfl,hb,hB1⟩
  have HP1 := hidMk (show Pt w1 w.heap.size from ⟨_,_,hb⟩)
  have HB1 := hidMk (HB0.out.trans (hB1.mono HB0.out.size))
  have hle := HB0.out.size
  clear hb hB1
  go_wp2_with fail
  exact gmpart2 HT.out HB1.out hle HP1.out
set_option maxHeartbeats 2000000 in
set_option maxRecDepth 1000000 in
theorem game_law_any (htun : TunOK) (na : Option Addr) (nn nc : Nat) (nl : List Int) (w : World) (hnn : nn = nl.length) (hnm : nn ≤ 9223372036854775807) (hnl : Is w w.heap.size na nl) :
    Calls Try.prog 6 #[.slice na nn nc] w fun e w' => e = .returned (.bool true) ∧ Below w.heap.size w w' := by
  have HT := hidMk htun
  have HNN := hidMk (And.intro hnn hnm)
  have HNL := hidMk hnl
  clear htun hnn hnm hnl
  go_enter Try.func6,Try.ntmps6
  show Code.wp Try.prog gmbody (QGM w) _ _
  rw [gmbody_eq]
  go_wp2_with fail
  exact gmpart1 HT.out (Below.refl _ _) HNN.out HNL.out
end Go.Proofs.Ytadmcafbffjjbaa
