/- Part 10 of the proof: GnE, GnF, HearF, TrueD, TruG, GnG, Pot. -/
import Derived.Deep.WholeRow
import Derived.Test.YtadmcafbffjjbaaProg
import Derived.WalkKit
import Derived.WalkLawsBesides
import Derived.Test.YtadmcafbffjjbaaE09
import Derived.Test.YtadmcafbffjjbaaE01
import Derived.Test.YtadmcafbffjjbaaE00
import Derived.Test.YtadmcafbffjjbaaE06
import Derived.Test.YtadmcafbffjjbaaE02
namespace Go.Proofs.Ytadmcafbffjjbaa
set_option linter.all false
open Go.RowKit
set_option maxHeartbeats 9000000 in
set_option maxRecDepth 1000000 in
theorem nst_ok {w0 : World} {g6 g7 g8 g15 : Nat} {G : Jb} {sa : Option Addr} {sn sc : Nat} {W : R2} {p1 p2 : Int} {tips roots k : Nat} {t : Tg} {Q : Exit → Act → World → Prop} {w : World} {u0 u1 u2 u9 A0 A1 A2 A3 A4 A7 A8 A9 Aa Ab Ac Ad Ae Af Ag Ah Ai Aj Ak Al Am An Ao Ap Aq Ar As At Au Av Aw Ax Ay Az C0 C1 C2 C3 C4 C5 C6 C7 C8 C9 Ca Cb Cc Cd Ce Cf Cg Ch Ci Cj Ck Cl Cm Cn Co Cp Cq Cr Cs Ct Cu Cv Cw Cx Cy Cz D0 D1 D2 D3 D4 D5 D6 D7 D8 D9 Da Db Dc Dd De Df Dg Dh Di Dj Dk Dl Dm Dn Do Dp Dq Dr Ds Dt Du Dv Dw Dx Dy Dz E0 u119 u120 E3 E4 E5 E6 E7 E8 E9 Ea Eb Ec Ed Ee Ef Eg Eh Ei Ej Ek El Em En Eo Ep Eq Er Es Et Eu Ev Ew Ex Ey Ez F0 F1 F2 F3 F4 F5 F6 F7 F8 F9 Fa Fb Fc Fd Fe Ff Fg Fh Fi Fj Fk Fl Fm Fn Fo : Value} (hnd : NDc G sa sn sc W k) (hin : G.In 1000) (hu : G.u1 ≤ G.u2 ∧ G.d1 ≤ G.d2) (hx : G.x1 ≤ G.x2 ∧ G.y1 ≤ G.y2) (hs : NX5 w0 w g6 g7 g8 g15 G sa sn sc W p1 p2 t) (htn : TNx G tips roots t) (hti : TgIn (k + 1) t) (hk : tips + roots + (k + 1) ≤ 10) (hK : ∀ (w' : World),NX5 w0 w' g6 g7 g8 g15 G sa sn sc W p1 p2 t → ∀ (v53 v54 v55 v56 v57 v58 v59 v60 v61 v62 v63 v64 v65 v66 v67 v68 v69 v70 v71 v72 v73 v74 v75 v76 v77 v78 v79 v80 v81 v82 v83 v84 v85 v86 v87 v88 v89 v90 v91 v92 v93 v94 v95 v96 v97 v98 v99 v100 v101 v102 v103 v104 v105 v106 v107 v108 v109 v110 v111 v112 v113 v114 v115 v116 v117 v118 v119 v120 v121 v122 v123 v124 v125 v126 v127 v128 v129 v130 v131 v132 v133 v134 v135 v136 v137 v138 v139 v140 v141 v142 v143 v144 v145 v146 v147 v148 v149 v150 v151 v152 v153 v154 v155 v156 v157 v158 v159 v160 v161 v162 v163 v164 v165 v166 v167 v168 v169 v170 : Value),Q .normal ⟨#[u0,u1,u2,(.int .i64 ↑tips),(.int .i64 ↑roots),(.int .i64 (↑k + 1)),(.pointer (some ⟨g6,0,none⟩)),(.pointer (some ⟨g7,0,none⟩)),(.pointer (some ⟨g8,0,none⟩)),u9,A0,A1,A2,A3,A4,(.pointer (some ⟨g15,0,none⟩)),(.int .i64 (needB G k t)),A7,A8,A9,Aa,Ab,Ac,Ad,Ae,Af,Ag,Ah,Ai,Aj,Ak,Al,Am,An,Ao,Ap,Aq,Ar,As,At,Au,Av,Aw,Ax,Ay,Az,C0,C1,C2,C3,C4,C5,C6,v53,v54,v55,v56,v57,v58,v59,v60,v61,v62,v63,v64,v65,v66,v67,v68,v69,v70,v71,v72,v73,v74,v75,v76,v77,v78,v79,v80,v81,v82,v83,v84,v85,v86,v87,v88,v89,v90,v91,v92,v93,v94,v95,v96,v97,v98,v99,v100,v101,v102,v103,v104,v105,v106,v107,v108,v109,v110,v111,v112,v113,v114,v115,v116,v117,v118,v119,v120,v121,v122,v123,v124,v125,v126,v127,v128,v129,v130,v131,v132,v133,v134,v135,v136,v137,v138,v139,v140,v141,v142,v143,v144,v145,v146,v147,v148,v149,v150,v151,v152,v153,v154,v155,v156,v157,v158,v159,v160,v161,v162,v163,v164,v165,v166,v167,v168,v169,v170,Fh,Fi,Fj,Fk,Fl,Fm,Fn,Fo],[]⟩ w') : Code.wp Try.prog nst Q ⟨#[u0,u1,u2,(.int .i64 ↑tips),(.int .i64 ↑roots),(.int .i64 (↑k + 1)),(.pointer (some ⟨g6,0,none⟩)),(.pointer (some ⟨g7,0,none⟩)),(.pointer (some ⟨g8,0,none⟩)),u9,A0,A1,A2,A3,A4,(.pointer (some ⟨g15,0,none⟩)),(.int .i64 (↑k + 2)),A7,A8,A9,Aa,Ab,Ac,Ad,Ae,Af,Ag,Ah,Ai,Aj,Ak,Al,Am,An,Ao,Ap,Aq,Ar,As,At,Au,Av,Aw,Ax,Ay,Az,C0,C1,C2,C3,C4,C5,C6,C7,C8,C9,Ca,Cb,Cc,Cd,Ce,Cf,Cg,Ch,Ci,Cj,Ck,Cl,Cm,Cn,Co,Cp,Cq,Cr,Cs,Ct,Cu,Cv,Cw,Cx,Cy,Cz,D0,D1,D2,D3,D4,D5,D6,D7,D8,D9,Da,Db,Dc,Dd,De,Df,Dg,Dh,Di,Dj,Dk,Dl,Dm,Dn,Do,Dp,Dq,Dr,Ds,Dt,Du,Dv,Dw,Dx,Dy,Dz,E0,u119,u120,E3,E4,E5,E6,E7,E8,E9,Ea,Eb,Ec,Ed,Ee,Ef,Eg,Eh,Ei,Ej,Ek,El,Em,En,Eo,Ep,Eq,Er,Es,Et,Eu,Ev,Ew,Ex,Ey,Ez,F0,F1,F2,F3,F4,F5,F6,F7,F8,F9,Fa,Fb,Fc,Fd,Fe,Ff,Fg,Fh,Fi,Fj,Fk,Fl,Fm,Fn,Fo],[]⟩ w := by
  have hcn := cap_nn k (gT_nn G (strk G t 1))
  have hct := cap_top k (gT G (strk G t 1))
  unfold nst
  refine wp_seq_k fun K0 hK0 => ?_
  refine nsA hnd hin hu hx hs htn hti hk (by omega) ?_
  intro w' hs'
  intros
  refine hK0 _ _ ?_
  refine nsB hnd hin hu hx hs' htn hti hk (by split <;> (try unfold mn) <;> (try split) <;> omega) ?_
  intro w'' hs''
  intros
  exact hK _ hs'' _ _ _ _ _ _ _ _ _ _ _ _ _ _ _ _ _ _ _ _ _ _ _ _ _ _ _ _ _ _ _ _ _ _ _ _ _ _ _ _ _ _ _ _ _ _ _ _ _ _ _ _ _ _ _ _ _ _ _ _ _ _ _ _ _ _ _ _ _ _ _ _ _ _ _ _ _ _ _ _ _ _ _ _ _ _ _ _ _ _ _ _ _ _ _ _ _ _ _ _ _ _ _ _ _ _ _ _ _ _ _ _ _ _ _ _ _ _ 
set_option maxHeartbeats 9000000 in
set_option maxRecDepth 1000000 in
theorem ndp5 {w0 : World} {g6 g7 g8 : Nat} {G : Jb} {sa : Option Addr} {sn sc : Nat} {W : R2} {tips roots k : Nat} {t : Tg} {wv r cv : Int} {Q : Exit → Act → World → Prop} {w : World} {u0 u1 u2 u9 A0 A1 A2 A5 A6 A7 A8 A9 Aa Ab Ac Ad Ae Af Ag Ah Ai Aj Ak Al Am An Ao Ap Aq Ar As At Au Av Aw Ax Ay Az C0 C1 C2 C3 C4 C5 C6 C7 C8 C9 Ca Cb Cc Cd Ce Cf Cg Ch Ci Cj Ck Cl Cm Cn Co Cp Cq Cr Cs Ct Cu Cv Cw Cx Cy Cz D0 D1 D2 D3 D4 D5 D6 D7 D8 D9 Da Db Dc Dd De Df Dg Dh Di Dj Dk Dl Dm Dn Do Dp Dq Dr Ds Dt Du Dv Dw Dx Dy Dz E0 u119 u120 E3 E4 E5 E6 E7 E8 E9 Ea Eb Ec Ed Ee Ef Eg Eh Ei Ej Ek El Em En Eo Ep Eq Er Es Et Eu Ev Ew Ex Ey Ez F0 F1 F2 F3 F4 F5 F6 F7 F8 F9 Fa Fb Fc Fd Fe Ff Fg Fh Fi Fj Fk Fl Fm Fn Fo : Value} (hs : NW w0 w g6 g7 g8 G sa sn sc W t.p1 t.p2) (hQ : NQ Q w0 g6 g7 g8 G sa sn sc W tips roots k t wv r cv) (hwv : 0 ≤ wv ∧ wv ≤ (k : Int)) (hcb : 0 ≤ cv ∧ cv ≤ (k : Int) + 1) (hk4 : k ≤ 4) : Code.wp Try.prog nb5 Q ⟨#[u0,u1,u2,(.int .i64 ↑tips),(.int .i64 ↑roots),(.int .i64 ↑k),(.pointer (some ⟨g6,0,none⟩)),(.pointer (some ⟨g7,0,none⟩)),(.pointer (some ⟨g8,0,none⟩)),u9,A0,A1,A2,(.int .i64 (mx wv cv)),(.int .i64 r),A5,A6,A7,A8,A9,Aa,Ab,Ac,Ad,Ae,Af,Ag,Ah,Ai,Aj,Ak,Al,Am,An,Ao,Ap,Aq,Ar,As,At,Au,Av,Aw,Ax,Ay,Az,C0,C1,C2,C3,C4,C5,C6,C7,C8,C9,Ca,Cb,Cc,Cd,Ce,Cf,Cg,Ch,Ci,Cj,Ck,Cl,Cm,Cn,Co,Cp,Cq,Cr,Cs,Ct,Cu,Cv,Cw,Cx,Cy,Cz,D0,D1,D2,D3,D4,D5,D6,D7,D8,D9,Da,Db,Dc,Dd,De,Df,Dg,Dh,Di,Dj,Dk,Dl,Dm,Dn,Do,Dp,Dq,Dr,Ds,Dt,Du,Dv,Dw,Dx,Dy,Dz,E0,u119,u120,E3,E4,E5,E6,E7,E8,E9,Ea,Eb,Ec,Ed,Ee,Ef,Eg,Eh,Ei,Ej,Ek,El,Em,En,Eo,Ep,Eq,Er,Es,Et,Eu,Ev,Ew,Ex,Ey,Ez,F0,F1,F2,F3,F4,F5,F6,F7,F8,F9,Fa,Fb,Fc,Fd,Fe,Ff,Fg,Fh,Fi,Fj,Fk,Fl,Fm,Fn,Fo],[]⟩ w := by
  rw [nb5_eq]
  have HQ := hidMk hQ
  have HS := hidMk hs
  have hm : 0 ≤ mx wv cv ∧ mx wv cv ≤ 20 := by unfold mx; split <;> omega
  clear hQ hs
  obtain ⟨m,hmm⟩ : ∃ m,m = mx wv cv := ⟨_,rfl⟩
  rw [← hmm] at hm ⊢
  have HM := hidMk hmm
  clear hmm
  by_cases hlt : (k : Int) < m
  · go_wp2_with fail
    have h2 := HQ.out.2.2 _ HS.out (by rw [← HM.out]; exact hlt)
    rw [← HM.out] at h2
    exact h2 _ _ _ _ _ _ _ _ _ _ _ _ _ _ _ _ _ _ _ _ _ _ _ _ _ _ _ _ _ _ _ _ _ _ _ _ _ _ _ _ _ _ _ _ _ _ _ _ _ _ _ _ _ _ _ _ _ _ _ _ _ _ _ _ _ _ _ _ _ _ _ _ _ _ _ _ _ _ _ _ _ _ _ _ _ _ _ _ _ _ _ _ _ _ _ _ _ _ _ _ _ _ _ _ _ _ _ _ _ _ _ _ _ _ _ _ _ _ _ _ _ _ _ _ _ _ _ _ _ _ _ _ _ _ _ _ _ _ _ _ _ _ _ _ _ _ _ _ _ _ _ _ _ _ _ _ _ _ _ _ _ _ _ _ _ _ _ _ _ _ 
  · go_wp2_with fail
    have h2 := HQ.out.1 _ HS.out (by rw [← HM.out]; omega)
    rw [← HM.out] at h2
    exact h2 _ _ _ _ _ _ _ _ _ _ _ _ _ _ _ _ _ _ _ _ _ _ _ _ _ _ _ _ _ _ _ _ _ _ _ _ _ _ _ _ _ _ _ _ _ _ _ _ _ _ _ _ _ _ _ _ _ _ _ _ _ _ _ _ _ _ _ _ _ _ _ _ _ _ _ _ _ _ _ _ _ _ _ _ _ _ _ _ _ _ _ _ _ _ _ _ _ _ _ _ _ _ _ _ _ _ _ _ _ _ _ _ _ _ _ _ _ _ _ _ _ _ _ _ _ _ _ _ _ _ _ _ _ _ _ _ _ _ _ _ _ _ _ _ _ _ _ _ _ _ _ _ _ _ _ _ _ _ _ _ _ _ _ _ _ _ _ _ _ _ _ 
set_option maxHeartbeats 9000000 in
set_option maxRecDepth 1000000 in
theorem ndp4 {w0 : World} {g6 g7 g8 : Nat} {G : Jb} {sa : Option Addr} {sn sc : Nat} {W : R2} {tips roots k : Nat} {t : Tg} {wv r cv : Int} {Q : Exit → Act → World → Prop} {w : World} {u0 u1 u2 u9 A0 A1 A2 A5 A7 A8 A9 Aa Ab Ac Ad Ae Af Ag Ah Ai Aj Ak Al Am An Ao Ap Aq Ar As At Au Av Aw Ax Ay Az C0 C1 C2 C3 C4 C5 C6 C7 C8 C9 Ca Cb Cc Cd Ce Cf Cg Ch Ci Cj Ck Cl Cm Cn Co Cp Cq Cr Cs Ct Cu Cv Cw Cx Cy Cz D0 D1 D2 D3 D4 D5 D6 D7 D8 D9 Da Db Dc Dd De Df Dg Dh Di Dj Dk Dl Dm Dn Do Dp Dq Dr Ds Dt Du Dv Dw Dx Dy Dz E0 u119 u120 E3 E4 E5 E6 E7 E8 E9 Ea Eb Ec Ed Ee Ef Eg Eh Ei Ej Ek El Em En Eo Ep Eq Er Es Et Eu Ev Ew Ex Ey Ez F0 F1 F2 F3 F4 F5 F6 F7 F8 F9 Fa Fb Fc Fd Fe Ff Fg Fh Fi Fj Fk Fl Fm Fn Fo : Value} (hs : NW w0 w g6 g7 g8 G sa sn sc W t.p1 t.p2) (hQ : NQ Q w0 g6 g7 g8 G sa sn sc W tips roots k t wv r cv) (hwv : 0 ≤ wv ∧ wv ≤ (k : Int)) (hcb : 0 ≤ cv ∧ cv ≤ (k : Int) + 1) (hk4 : k ≤ 4) : Code.wp Try.prog nb4 Q ⟨#[u0,u1,u2,(.int .i64 ↑tips),(.int .i64 ↑roots),(.int .i64 ↑k),(.pointer (some ⟨g6,0,none⟩)),(.pointer (some ⟨g7,0,none⟩)),(.pointer (some ⟨g8,0,none⟩)),u9,A0,A1,A2,(.int .i64 wv),(.int .i64 r),A5,(.int .i64 cv),A7,A8,A9,Aa,Ab,Ac,Ad,Ae,Af,Ag,Ah,Ai,Aj,Ak,Al,Am,An,Ao,Ap,Aq,Ar,As,At,Au,Av,Aw,Ax,Ay,Az,C0,C1,C2,C3,C4,C5,C6,C7,C8,C9,Ca,Cb,Cc,Cd,Ce,Cf,Cg,Ch,Ci,Cj,Ck,Cl,Cm,Cn,Co,Cp,Cq,Cr,Cs,Ct,Cu,Cv,Cw,Cx,Cy,Cz,D0,D1,D2,D3,D4,D5,D6,D7,D8,D9,Da,Db,Dc,Dd,De,Df,Dg,Dh,Di,Dj,Dk,Dl,Dm,Dn,Do,Dp,Dq,Dr,Ds,Dt,Du,Dv,Dw,Dx,Dy,Dz,E0,u119,u120,E3,E4,E5,E6,E7,E8,E9,Ea,Eb,Ec,Ed,Ee,Ef,Eg,Eh,Ei,Ej,Ek,El,Em,En,Eo,Ep,Eq,Er,Es,Et,Eu,Ev,Ew,Ex,Ey,Ez,F0,F1,F2,F3,F4,F5,F6,F7,F8,F9,Fa,Fb,Fc,Fd,Fe,Ff,Fg,Fh,Fi,Fj,Fk,Fl,Fm,Fn,Fo],[]⟩ w := by
  rw [nb4_eq]
  have HQ := hidMk hQ
  have HS := hidMk hs
  clear hQ hs
  by_cases hlt : wv < cv
  · have e : mx wv cv = cv := by unfold mx; rw [if_pos hlt]
    have HE := hidMk e
    clear e
    go_wp2_with fail
    rw [← HE.out]
    exact ndp5 HS.out HQ.out hwv hcb hk4
  · have e : mx wv cv = wv := by unfold mx; rw [if_neg hlt]
    have HE := hidMk e
    clear e
    go_wp2_with fail
    rw [← HE.out]
    exact ndp5 HS.out HQ.out hwv hcb hk4
set_option maxHeartbeats 9000000 in
set_option maxRecDepth 1000000 in
theorem ndp3 {w0 : World} {g6 g7 g8 g15 : Nat} {G : Jb} {sa : Option Addr} {sn sc : Nat} {W : R2} {tips roots k : Nat} {t tx : Tg} {wv r cv : Int} {Q : Exit → Act → World → Prop} {w : World} {u0 u1 u2 u9 A0 A1 A2 A7 A8 A9 Aa Ab Ac Ad Ae Af Ag Ah Ai Aj Ak Al Am An Ao Ap Aq Ar As At Au Av Aw Ax Ay Az C0 C1 C2 C3 C4 C5 C6 C7 C8 C9 Ca Cb Cc Cd Ce Cf Cg Ch Ci Cj Ck Cl Cm Cn Co Cp Cq Cr Cs Ct Cu Cv Cw Cx Cy Cz D0 D1 D2 D3 D4 D5 D6 D7 D8 D9 Da Db Dc Dd De Df Dg Dh Di Dj Dk Dl Dm Dn Do Dp Dq Dr Ds Dt Du Dv Dw Dx Dy Dz E0 u119 u120 E3 E4 E5 E6 E7 E8 E9 Ea Eb Ec Ed Ee Ef Eg Eh Ei Ej Ek El Em En Eo Ep Eq Er Es Et Eu Ev Ew Ex Ey Ez F0 F1 F2 F3 F4 F5 F6 F7 F8 F9 Fa Fb Fc Fd Fe Ff Fg Fh Fi Fj Fk Fl Fm Fn Fo : Value} (hin : G.In 1000) (hu : G.u1 ≤ G.u2 ∧ G.d1 ≤ G.d2) (hx : G.x1 ≤ G.x2 ∧ G.y1 ≤ G.y2) (hme : 0 ≤ G.me ∧ G.me ≤ 6) (hni : inW G tx = false) (hs : NX5 w0 w g6 g7 g8 g15 G sa sn sc W t.p1 t.p2 tx) (hcv : cv = capk k (bestM G 4 tx).2) (htn : TNx G tips roots tx) (hti : TgIn k tx) (hW : WOK G W) (hnd : ∀ k',k = k' + 1 → NDc G sa sn sc W k') (hkk : tips + roots + k ≤ 10) (hQ : NQ Q w0 g6 g7 g8 G sa sn sc W tips roots k t wv r cv) (hwv : 0 ≤ wv ∧ wv ≤ (k : Int)) (hcb : 0 ≤ cv ∧ cv ≤ (k : Int) + 1) (hk4 : k ≤ 4) : Code.wp Try.prog nb3 Q ⟨#[u0,u1,u2,(.int .i64 ↑tips),(.int .i64 ↑roots),(.int .i64 ↑k),(.pointer (some ⟨g6,0,none⟩)),(.pointer (some ⟨g7,0,none⟩)),(.pointer (some ⟨g8,0,none⟩)),u9,A0,A1,A2,(.int .i64 wv),(.int .i64 r),(.pointer (some ⟨g15,0,none⟩)),(.int .i64 (↑k + 1)),A7,A8,A9,Aa,Ab,Ac,Ad,Ae,Af,Ag,Ah,Ai,Aj,Ak,Al,Am,An,Ao,Ap,Aq,Ar,As,At,Au,Av,Aw,Ax,Ay,Az,C0,C1,C2,C3,C4,C5,C6,C7,C8,C9,Ca,Cb,Cc,Cd,Ce,Cf,Cg,Ch,Ci,Cj,Ck,Cl,Cm,Cn,Co,Cp,Cq,Cr,Cs,Ct,Cu,Cv,Cw,Cx,Cy,Cz,D0,D1,D2,D3,D4,D5,D6,D7,D8,D9,Da,Db,Dc,Dd,De,Df,Dg,Dh,Di,Dj,Dk,Dl,Dm,Dn,Do,Dp,Dq,Dr,Ds,Dt,Du,Dv,Dw,Dx,Dy,Dz,E0,u119,u120,E3,E4,E5,E6,E7,E8,E9,Ea,Eb,Ec,Ed,Ee,Ef,Eg,Eh,Ei,Ej,Ek,El,Em,En,Eo,Ep,Eq,Er,Es,Et,Eu,Ev,Ew,Ex,Ey,Ez,F0,F1,F2,F3,F4,F5,F6,F7,F8,F9,Fa,Fb,Fc,Fd,Fe,Ff,Fg,Fh,Fi,Fj,Fk,Fl,Fm,Fn,Fo],[]⟩ w := by
  rw [nb3_eq]
  have hbp := best_pos hu hme.1 hti.2 hni
  cases k with
  | zero =>
    have hc1 : cv = 1 := by rw [hcv]; unfold capk; push_cast; split <;> omega
    subst hc1
    have HQ := hidMk hQ
    have HS := hidMk hs.nw
    clear hQ hs hcv hnd
    push_cast
    go_wp2_with fail
    exact ndp4 HS.out HQ.out hwv hcb hk4
  | succ k =>
    have hcn : needB G k tx = cv := by rw [hcv]; exact need_best hu hme.1 hti.2 hni k (by omega)
    have HND := hidMk (hnd k rfl)
    have HQ := hidMk hQ
    have HS := hidMk hs
    have HIN := hidMk hin
    have HTN := hidMk htn
    have HTI := hidMk hti
    have HCN := hidMk hcn
    have HUU := hidMk hu
    have HXX := hidMk hx
    clear hQ hs hcv hnd hin htn hti hcn hbp hu hx
    have hk0 : (0 : Int) < (k : Int) + 1 := by omega
    have e5 : (((k + 1 : Nat) : Int)) = (k : Int) + 1 := rfl
    rw [e5]
    refine wp_seq_k fun K0 hK0 => ?_
    go_wp2_with fail
    have e6 : (k : Int) + 1 + 1 = (k : Int) + 2 := by omega
    (try rw [e6])
    refine nst_ok HND.out HIN.out HUU.out HXX.out HS.out HTN.out HTI.out hkk ?_
    intro w' hs'
    intros
    rw [HCN.out]
    refine hK0 _ _ ?_
    exact ndp4 hs'.nw HQ.out hwv hcb hk4
set_option maxHeartbeats 9000000 in
set_option maxRecDepth 1000000 in
theorem ndp2 {w0 : World} {g6 g7 g8 g15 : Nat} {G : Jb} {sa : Option Addr} {sn sc : Nat} {W : R2} {tips roots k : Nat} {t tx : Tg} {wv r cv : Int} {Q : Exit → Act → World → Prop} {w : World} {u0 u1 u2 u9 A0 A1 A2 A6 A7 A8 A9 Aa Ab Ac Ad Ae Af Ag Ah Ai Aj Ak Al Am An Ao Ap Aq Ar As At Au Av Aw Ax Ay Az C0 C1 C2 C3 C4 C5 C6 C7 C8 C9 Ca Cb Cc Cd Ce Cf Cg Ch Ci Cj Ck Cl Cm Cn Co Cp Cq Cr Cs Ct Cu Cv Cw Cx Cy Cz D0 D1 D2 D3 D4 D5 D6 D7 D8 D9 Da Db Dc Dd De Df Dg Dh Di Dj Dk Dl Dm Dn Do Dp Dq Dr Ds Dt Du Dv Dw Dx Dy Dz E0 u119 u120 E3 E4 E5 E6 E7 E8 E9 Ea Eb Ec Ed Ee Ef Eg Eh Ei Ej Ek El Em En Eo Ep Eq Er Es Et Eu Ev Ew Ex Ey Ez F0 F1 F2 F3 F4 F5 F6 F7 F8 F9 Fa Fb Fc Fd Fe Ff Fg Fh Fi Fj Fk Fl Fm Fn Fo : Value} (hin : G.In 1000) (hu : G.u1 ≤ G.u2 ∧ G.d1 ≤ G.d2) (hx : G.x1 ≤ G.x2 ∧ G.y1 ≤ G.y2) (hme : 0 ≤ G.me ∧ G.me ≤ 6) (hni : inW G tx = false) (hs : NX5 w0 w g6 g7 g8 g15 G sa sn sc W t.p1 t.p2 tx) (hcv : cv = capk k (bestM G 4 tx).2) (htn : TNx G tips roots tx) (hti : TgIn k tx) (hW : WOK G W) (hnd : ∀ k',k = k' + 1 → NDc G sa sn sc W k') (hkk : tips + roots + k ≤ 10) (hQ : NQ Q w0 g6 g7 g8 G sa sn sc W tips roots k t wv r cv) (hwv : 0 ≤ wv ∧ wv ≤ (k : Int)) (hcb : 0 ≤ cv ∧ cv ≤ (k : Int) + 1) (hk4 : k ≤ 4) : Code.wp Try.prog nb2 Q ⟨#[u0,u1,u2,(.int .i64 ↑tips),(.int .i64 ↑roots),(.int .i64 ↑k),(.pointer (some ⟨g6,0,none⟩)),(.pointer (some ⟨g7,0,none⟩)),(.pointer (some ⟨g8,0,none⟩)),u9,A0,A1,A2,(.int .i64 wv),(.int .i64 r),(.pointer (some ⟨g15,0,none⟩)),A6,A7,A8,A9,Aa,Ab,Ac,Ad,Ae,Af,Ag,Ah,Ai,Aj,Ak,Al,Am,An,Ao,Ap,Aq,Ar,As,At,Au,Av,Aw,Ax,Ay,Az,C0,C1,C2,C3,C4,C5,C6,C7,C8,C9,Ca,Cb,Cc,Cd,Ce,Cf,Cg,Ch,Ci,Cj,Ck,Cl,Cm,Cn,Co,Cp,Cq,Cr,Cs,Ct,Cu,Cv,Cw,Cx,Cy,Cz,D0,D1,D2,D3,D4,D5,D6,D7,D8,D9,Da,Db,Dc,Dd,De,Df,Dg,Dh,Di,Dj,Dk,Dl,Dm,Dn,Do,Dp,Dq,Dr,Ds,Dt,Du,Dv,Dw,Dx,Dy,Dz,E0,u119,u120,E3,E4,E5,E6,E7,E8,E9,Ea,Eb,Ec,Ed,Ee,Ef,Eg,Eh,Ei,Ej,Ek,El,Em,En,Eo,Ep,Eq,Er,Es,Et,Eu,Ev,Ew,Ex,Ey,Ez,F0,F1,F2,F3,F4,F5,F6,F7,F8,F9,Fa,Fb,Fc,Fd,Fe,Ff,Fg,Fh,Fi,Fj,Fk,Fl,Fm,Fn,Fo],[]⟩ w := by
  rw [nb2_eq]
  have HQ := hidMk hQ
  have HS := hidMk hs
  have HND := hidMk hnd
  have HIN := hidMk hin
  have HTN := hidMk htn
  have HTI := hidMk hti
  have HCV := hidMk hcv
  have HWW := hidMk hW
  have HNI := hidMk hni
  have w5 : IntKind.i64.wrap ((k : Int) + 1) = (k : Int) + 1 := IntWalk.i64_in _ (by omega)
  clear hQ hs hcv hnd hin htn hti hW hni
  go_wp2_with fail
  exact ndp3 HIN.out hu hx hme HNI.out HS.out HCV.out HTN.out HTI.out HWW.out HND.out hkk HQ.out hwv hcb hk4
set_option maxHeartbeats 9000000 in
set_option maxRecDepth 1000000 in
theorem ndp1 {w0 : World} {g6 g7 g8 g15 : Nat} {G : Jb} {sa : Option Addr} {sn sc : Nat} {W : R2} {tips roots k : Nat} {t tx : Tg} {wv r cv : Int} {Q : Exit → Act → World → Prop} {w : World} {u0 u1 u2 u9 A0 A1 A2 A6 A7 A8 A9 Aa Ab Ac Ad Ae Af Ag Ah Ai Aj Ak Al Am An Ao Ap Aq Ar As At Au Av Aw Ax Ay Az C0 C1 C2 C3 C4 C5 C6 C7 C8 C9 Ca Cb Cc Cd Ce Cf Cg Ch Ci Cj Ck Cl Cm Cn Co Cp Cq Cr Cs Ct Cu Cv Cw Cx Cy Cz D0 D1 D2 D3 D4 D5 D6 D7 D8 D9 Da Db Dc Dd De Df Dg Dh Di Dj Dk Dl Dm Dn Do Dp Dq Dr Ds Dt Du Dv Dw Dx Dy Dz E0 u119 u120 E3 E4 E5 E6 E7 E8 E9 Ea Eb Ec Ed Ee Ef Eg Eh Ei Ej Ek El Em En Eo Ep Eq Er Es Et Eu Ev Ew Ex Ey Ez F0 F1 F2 F3 F4 F5 F6 F7 F8 F9 Fa Fb Fc Fd Fe Ff Fg Fh Fi Fj Fk Fl Fm Fn Fo : Value} (hin : G.In 1000) (hu : G.u1 ≤ G.u2 ∧ G.d1 ≤ G.d2) (hx : G.x1 ≤ G.x2 ∧ G.y1 ≤ G.y2) (hme : 0 ≤ G.me ∧ G.me ≤ 6) (hs : NX5 w0 w g6 g7 g8 g15 G sa sn sc W t.p1 t.p2 tx) (hcv : cv = capk k (bestM G 4 tx).2) (htn : TNx G tips roots tx) (hti : TgIn k tx) (hW : WOK G W) (hnd : ∀ k',k = k' + 1 → NDc G sa sn sc W k') (hkk : tips + roots + k ≤ 10) (hQ : NQ Q w0 g6 g7 g8 G sa sn sc W tips roots k t wv r cv) (hwv : 0 ≤ wv ∧ wv ≤ (k : Int)) (hcb : 0 ≤ cv ∧ cv ≤ (k : Int) + 1) (hk4 : k ≤ 4) : Code.wp Try.prog nb1 Q ⟨#[u0,u1,u2,(.int .i64 ↑tips),(.int .i64 ↑roots),(.int .i64 ↑k),(.pointer (some ⟨g6,0,none⟩)),(.pointer (some ⟨g7,0,none⟩)),(.pointer (some ⟨g8,0,none⟩)),u9,A0,A1,A2,(.int .i64 wv),(.int .i64 r),(.pointer (some ⟨g15,0,none⟩)),A6,A7,A8,A9,Aa,Ab,Ac,Ad,Ae,Af,Ag,Ah,Ai,Aj,Ak,Al,Am,An,Ao,Ap,Aq,Ar,As,At,Au,Av,Aw,Ax,Ay,Az,C0,C1,C2,C3,C4,C5,C6,C7,C8,C9,Ca,Cb,Cc,Cd,Ce,Cf,Cg,Ch,Ci,Cj,Ck,Cl,Cm,Cn,Co,Cp,Cq,Cr,Cs,Ct,Cu,Cv,Cw,Cx,Cy,Cz,D0,D1,D2,D3,D4,D5,D6,D7,D8,D9,Da,Db,Dc,Dd,De,Df,Dg,Dh,Di,Dj,Dk,Dl,Dm,Dn,Do,Dp,Dq,Dr,Ds,Dt,Du,Dv,Dw,Dx,Dy,Dz,E0,u119,u120,E3,E4,E5,E6,E7,E8,E9,Ea,Eb,Ec,Ed,Ee,Ef,Eg,Eh,Ei,Ej,Ek,El,Em,En,Eo,Ep,Eq,Er,Es,Et,Eu,Ev,Ew,Ex,Ey,Ez,F0,F1,F2,F3,F4,F5,F6,F7,F8,F9,Fa,Fb,Fc,Fd,Fe,Ff,Fg,Fh,Fi,Fj,Fk,Fl,Fm,Fn,Fo],[]⟩ w := by
  rw [nb1_eq]
  have hpp : -148 ≤ tx.p1 ∧ tx.p1 ≤ 148 ∧ -148 ≤ tx.p2 ∧ tx.p2 ≤ 148 := by have h := hti.1; simp only [Tg.In] at h; omega
  have hw := hW tx.p1 tx.p2 (by omega) hti.2 (by omega)
  have c0 := hs.nw.wd.at_ 0 (.int .i64 W.1) rfl
  have c1 := hs.nw.wd.at_ 1 (.int .i64 W.2) rfl
  have c2 := hs.x5.at_ 0 (.int .i64 tx.p1) rfl
  have c3 := hs.x5.at_ 1 (.int .i64 tx.p2) rfl
  have HQ := hidMk hQ
  have HS := hidMk hs
  have HND := hidMk hnd
  have HIN := hidMk hin
  have HTN := hidMk htn
  have HTI := hidMk hti
  have HCV := hidMk hcv
  have HWW := hidMk hW
  have HW := hidMk hw
  clear hQ hs hcv hnd hin htn hti hW hw
  go_wp2_with fail
  refine (wider_any _ _ _ _ _).mono ?_
  rintro e w2 ⟨rfl,hb2⟩
  have HS2 := hidMk (HS.out.next hb2)
  clear hb2 c0 c1 c2 c3 HS
  by_cases hin2 : W.1 ≤ tx.p1 ∧ tx.p2 ≤ W.2
  · have hcv0 : cv = 0 := by
      rw [HCV.out,best_in (HW.out.1 hin2)]
      unfold capk
      rw [if_pos (by show (0 : Int) ≤ (k : Int); omega)]
    rw [decide_eq_true hin2]
    have HC0 := hidMk hcv0
    clear hin2 hcv0
    go_wp2_with fail
    exact HQ.out.2.1 _ HS2.out.nw HC0.out _ _ _ _ _ _ _ _ _ _ _ _ _ _ _ _ _ _ _ _ _ _ _ _ _ _ _ _ _ _ _ _ _ _ _ _ _ _ _ _ _ _ _ _ _ _ _ _ _ _ _ _ _ _ _ _ _ _ _ _ _ _ _ _ _ _ _ _ _ _ _ _ _ _ _ _ _ _ _ _ _ _ _ _ _ _ _ _ _ _ _ _ _ _ _ _ _ _ _ _ _ _ _ _ _ _ _ _ _ _ _ _ _ _ _ _ _ _ _ _ _ _ _ _ _ _ _ _ _ _ _ _ _ _ _ _ _ _ _ _ _ _ _ _ _ _ _ _ _ _ _ _ _ _ _ _ _ _ _ _ _ _ _ _ _ _ _ _ _ _ _ 
  · have hni : inW G tx = false := by unfold inW; exact decide_eq_false (fun h => hin2 (HW.out.2 h))
    rw [decide_eq_false hin2]
    have HNI := hidMk hni
    clear hin2 hni
    go_wp2_with fail
    exact ndp2 HIN.out hu hx hme HNI.out HS2.out HCV.out HTN.out HTI.out HWW.out HND.out hkk HQ.out hwv hcb hk4
set_option maxHeartbeats 9000000 in
set_option maxRecDepth 1000000 in
theorem ndp0 {w0 : World} {g6 g7 g8 : Nat} {G : Jb} {sa : Option Addr} {sn sc : Nat} {W : R2} {tips roots k : Nat} {t tx : Tg} {wv r cv : Int} {Q : Exit → Act → World → Prop} {w : World} {u0 u1 u2 u9 A0 A1 A2 A5 A6 A7 A8 A9 Aa Ab Ac Ad Ae Af Ag Ah Ai Aj Ak Al Am An Ao Ap Aq Ar As At Au Av Aw Ax Ay Az C0 C1 C2 C3 C4 C5 C6 C7 C8 C9 Ca Cb Cc Cd Ce Cf Cg Ch Ci Cj Ck Cl Cm Cn Co Cp Cq Cr Cs Ct Cu Cv Cw Cx Cy Cz D0 D1 D2 D3 D4 D5 D6 D7 D8 D9 Da Db Dc Dd De Df Dg Dh Di Dj Dk Dl Dm Dn Do Dp Dq Dr Ds Dt Du Dv Dw Dx Dy Dz E0 u119 u120 E3 E4 E5 E6 E7 E8 E9 Ea Eb Ec Ed Ee Ef Eg Eh Ei Ej Ek El Em En Eo Ep Eq Er Es Et Eu Ev Ew Ex Ey Ez F0 F1 F2 F3 F4 F5 F6 F7 F8 F9 Fa Fb Fc Fd Fe Ff Fg Fh Fi Fj Fk Fl Fm Fn Fo : Value} (hin : G.In 1000) (hu : G.u1 ≤ G.u2 ∧ G.d1 ≤ G.d2) (hx : G.x1 ≤ G.x2 ∧ G.y1 ≤ G.y2) (hme : 0 ≤ G.me ∧ G.me ≤ 6) (hs : NW w0 w g6 g7 g8 G sa sn sc W t.p1 t.p2) (hti0 : TgIn k t) (htx : tx = tgX t (heardR t.p1 t.p2 r G.me)) (hr : -1000 ≤ r ∧ r ≤ 1000) (hcv : cv = capk k (bestM G 4 tx).2) (htn : TNx G tips roots tx) (hti : TgIn k tx) (hW : WOK G W) (hnd : ∀ k',k = k' + 1 → NDc G sa sn sc W k') (hkk : tips + roots + k ≤ 10) (hQ : NQ Q w0 g6 g7 g8 G sa sn sc W tips roots k t wv r cv) (hwv : 0 ≤ wv ∧ wv ≤ (k : Int)) (hcb : 0 ≤ cv ∧ cv ≤ (k : Int) + 1) (hk4 : k ≤ 4) : Code.wp Try.prog nb0 Q ⟨#[u0,u1,u2,(.int .i64 ↑tips),(.int .i64 ↑roots),(.int .i64 ↑k),(.pointer (some ⟨g6,0,none⟩)),(.pointer (some ⟨g7,0,none⟩)),(.pointer (some ⟨g8,0,none⟩)),u9,A0,A1,A2,(.int .i64 wv),(.int .i64 r),A5,A6,A7,A8,A9,Aa,Ab,Ac,Ad,Ae,Af,Ag,Ah,Ai,Aj,Ak,Al,Am,An,Ao,Ap,Aq,Ar,As,At,Au,Av,Aw,Ax,Ay,Az,C0,C1,C2,C3,C4,C5,C6,C7,C8,C9,Ca,Cb,Cc,Cd,Ce,Cf,Cg,Ch,Ci,Cj,Ck,Cl,Cm,Cn,Co,Cp,Cq,Cr,Cs,Ct,Cu,Cv,Cw,Cx,Cy,Cz,D0,D1,D2,D3,D4,D5,D6,D7,D8,D9,Da,Db,Dc,Dd,De,Df,Dg,Dh,Di,Dj,Dk,Dl,Dm,Dn,Do,Dp,Dq,Dr,Ds,Dt,Du,Dv,Dw,Dx,Dy,Dz,E0,u119,u120,E3,E4,E5,E6,E7,E8,E9,Ea,Eb,Ec,Ed,Ee,Ef,Eg,Eh,Ei,Ej,Ek,El,Em,En,Eo,Ep,Eq,Er,Es,Et,Eu,Ev,Ew,Ex,Ey,Ez,F0,F1,F2,F3,F4,F5,F6,F7,F8,F9,Fa,Fb,Fc,Fd,Fe,Ff,Fg,Fh,Fi,Fj,Fk,Fl,Fm,Fn,Fo],[]⟩ w := by
  rw [nb0_eq]
  have hpp : -148 ≤ t.p1 ∧ t.p1 ≤ 148 ∧ -148 ≤ t.p2 ∧ t.p2 ≤ 148 := by have h := hti0.1; simp only [Tg.In] at h; omega
  have c0 := hs.x.at_ 0 (.int .i64 t.p1) rfl
  have c1 := hs.x.at_ 1 (.int .i64 t.p2) rfl
  have c2 := hs.job.at_ 17 (.int .i64 G.me) rfl
  have hx1 : tx.p1 = if t.p1 < r - G.me then r - G.me else t.p1 := by rw [htx]; rfl
  have hx2 : tx.p2 = if r + G.me < t.p2 then r + G.me else t.p2 := by rw [htx]; rfl
  have HQ := hidMk hQ
  have HS := hidMk hs
  have HND := hidMk hnd
  have HIN := hidMk hin
  have HTN := hidMk htn
  have HTI := hidMk hti
  have HCV := hidMk hcv
  have HWW := hidMk hW
  have HX1 := hidMk hx1
  have HX2 := hidMk hx2
  have w1 : IntKind.i64.wrap (r - G.me) = r - G.me := IntWalk.i64_in _ (by omega)
  have w2 : IntKind.i64.wrap (r + G.me) = r + G.me := IntWalk.i64_in _ (by omega)
  clear hQ hs hcv hnd hin htn hti hW htx hx1 hx2
  by_cases h1 : t.p1 < r - G.me <;> by_cases h2 : r + G.me < t.p2
  · have E1 := hidMk (HX1.out.trans (if_pos h1))
    have E2 := hidMk (HX2.out.trans (if_pos h2))
    go_wp2_with fail
    refine (to_any _ _ _).mono ?_
    rintro e w2 ⟨rfl,hb2⟩
    have HS2 := hidMk (HS.out.next hb2)
    clear hb2 c0 c1 c2 HS
    go_wp2_with fail
    rw [← E1.out,← E2.out]
    have al : Below w2.heap.size w2 (w2.alloc (.cells #[.int .i64 tx.p1,.int .i64 tx.p2] 23)) := (Below.refl _ _).alloc (Nat.le_refl _) _
    exact ndp1 HIN.out hu hx hme ⟨HS2.out.next al,Bk.new _ _ _⟩ HCV.out HTN.out HTI.out HWW.out HND.out hkk HQ.out hwv hcb hk4
  · have E1 := hidMk (HX1.out.trans (if_pos h1))
    have E2 := hidMk (HX2.out.trans (if_neg h2))
    go_wp2_with fail
    refine (to_any _ _ _).mono ?_
    rintro e w2 ⟨rfl,hb2⟩
    have HS2 := hidMk (HS.out.next hb2)
    clear hb2 c0 c1 c2 HS
    go_wp2_with fail
    rw [← E1.out,← E2.out]
    have al : Below w2.heap.size w2 (w2.alloc (.cells #[.int .i64 tx.p1,.int .i64 tx.p2] 23)) := (Below.refl _ _).alloc (Nat.le_refl _) _
    exact ndp1 HIN.out hu hx hme ⟨HS2.out.next al,Bk.new _ _ _⟩ HCV.out HTN.out HTI.out HWW.out HND.out hkk HQ.out hwv hcb hk4
  · have E1 := hidMk (HX1.out.trans (if_neg h1))
    have E2 := hidMk (HX2.out.trans (if_pos h2))
    go_wp2_with fail
    refine (to_any _ _ _).mono ?_
    rintro e w2 ⟨rfl,hb2⟩
    have HS2 := hidMk (HS.out.next hb2)
    clear hb2 c0 c1 c2 HS
    go_wp2_with fail
    rw [← E1.out,← E2.out]
    have al : Below w2.heap.size w2 (w2.alloc (.cells #[.int .i64 tx.p1,.int .i64 tx.p2] 23)) := (Below.refl _ _).alloc (Nat.le_refl _) _
    exact ndp1 HIN.out hu hx hme ⟨HS2.out.next al,Bk.new _ _ _⟩ HCV.out HTN.out HTI.out HWW.out HND.out hkk HQ.out hwv hcb hk4
  · have E1 := hidMk (HX1.out.trans (if_neg h1))
    have E2 := hidMk (HX2.out.trans (if_neg h2))
    go_wp2_with fail
    refine (to_any _ _ _).mono ?_
    rintro e w2 ⟨rfl,hb2⟩
    have HS2 := hidMk (HS.out.next hb2)
    clear hb2 c0 c1 c2 HS
    go_wp2_with fail
    rw [← E1.out,← E2.out]
    have al : Below w2.heap.size w2 (w2.alloc (.cells #[.int .i64 tx.p1,.int .i64 tx.p2] 23)) := (Below.refl _ _).alloc (Nat.le_refl _) _
    exact ndp1 HIN.out hu hx hme ⟨HS2.out.next al,Bk.new _ _ _⟩ HCV.out HTN.out HTI.out HWW.out HND.out hkk HQ.out hwv hcb hk4
end Go.Proofs.Ytadmcafbffjjbaa
namespace Go.Proofs.Ytadmcafbffjjbaa
set_option linter.all false
open Go.RowKit

def QND (G : Jb) (k : Nat) (t : Tg) (w0 : World) : Exit → Act → World → Prop := bodyPost Try.prog Try.f33 fun e w' => e = .returned (.int .i64 (capk k (gT G t))) ∧ Below w0.heap.size w0 w'
theorem cap_zero (k : Nat) : capk k 0 = 0 := by unfold capk; rw [if_pos (Int.natCast_nonneg k)]
theorem fold_gT {G : Jb} {t : Tg} (k : Nat) : (readsL t.p1 t.p2 G.me).foldl (fun m x => mx m (capk k (bestM G 4 (tgX t x)).2)) 0 = capk k (gT G t) := by
  have h := fold_cap k (fun x : R2 => (bestM G 4 (tgX t x)).2) (readsL t.p1 t.p2 G.me) 0
  rw [cap_zero] at h
  exact h
set_option maxHeartbeats 2000000 in
set_option maxRecDepth 1000000 in
theorem needs_of {G : Jb} {sa : Option Addr} {sn sc : Nat} {W : R2} {k : Nat} (hin : G.In 1000) (hu : G.u1 ≤ G.u2 ∧ G.d1 ≤ G.d2) (hx : G.x1 ≤ G.x2 ∧ G.y1 ≤ G.y2) (hme : 0 ≤ G.me ∧ G.me ≤ 6) (hW : WOK G W) (hk4 : k ≤ 4) (hnd : ∀ k',k = k' + 1 → NDc G sa sn sc W k') : NDc G sa sn sc W k := by
  intro t tips roots w htn hti hkk hrg
  have hpp : -148 ≤ t.p1 ∧ t.p1 ≤ 148 ∧ -148 ≤ t.p2 ∧ t.p2 ≤ 148 := by have h := hti.1; simp only [Tg.In] at h; omega
  have hp := hti.2
  have q0 : Below w.heap.size w (((w.alloc (.cells (jobC G (.slice sa sn sc)) 30)).alloc (.cells #[.int .i64 W.1,.int .i64 W.2] 23)).alloc (.cells #[.int .i64 t.p1,.int .i64 t.p2] 23)) := (((Below.refl _ _).alloc (Nat.le_refl _) _).alloc (by simp) _).alloc (by simp; omega) _
  have hs : NW w (((w.alloc (.cells (jobC G (.slice sa sn sc)) 30)).alloc (.cells #[.int .i64 W.1,.int .i64 W.2] 23)).alloc (.cells #[.int .i64 t.p1,.int .i64 t.p2] 23)) w.heap.size (w.heap.size + 1) (w.heap.size + 1 + 1) G sa sn sc W t.p1 t.p2 :=
    ⟨q0,((Bk.new _ _ _).alloc _).alloc _,(Bk.newAt _ _ _ _ (by simp)).alloc _,Bk.newAt _ _ _ _ (by simp),hrg.up q0⟩
  have HS := hidMk hs
  have HTN := hidMk htn
  have HTI := hidMk hti
  have HIN := hidMk hin
  have HND := hidMk hnd
  have HW := hidMk hW
  have HUU := hidMk hu
  have HXX := hidMk hx
  clear hs q0 htn hti hin hnd hW hrg hu hx
  go_enter Try.func33,Try.ntmps33
  show Code.wp Try.prog ndbody (QND G k t w) _ _
  rw [ndbody_eq]
  go_wp2_with fail
  generalize hG8 : w.heap.size + 1 + 1 = g8 at HS ⊢
  generalize hG7 : w.heap.size + 1 = g7 at HS ⊢
  generalize hG6 : w.heap.size = g6 at HS ⊢
  generalize hW1 : (((w.alloc (.cells (jobC G (.slice sa sn sc)) 30)).alloc (.cells #[.int .i64 W.1,.int .i64 W.2] 23)).alloc (.cells #[.int .i64 t.p1,.int .i64 t.p2] 23)) = w1 at HS ⊢
  clear hG8 hG7 hG6 hW1
  rw [ndrest1_eq]
  go_wp2_with fail
  rw [ndrest2_cut]
  refine wp_seq_k fun K0 hK0 => ?_
  have c0 := HS.out.x.at_ 0 (.int .i64 t.p1) rfl
  have c2 := HS.out.job.at_ 17 (.int .i64 G.me) rfl
  have wz : IntKind.i64.wrap (t.p1 - G.me) = t.p1 - G.me := IntWalk.i64_in _ (by omega)
  go_wp2_with fail
  clear c0 c2 wz
  refine wp_loop (fun a wr => ∃ (u0 u1 u2 u9 A0 A1 A2 A5 A6 A7 A8 A9 Aa Ab Ac Ad Ae Af Ag Ah Ai Aj Ak Al Am An Ao Ap Aq Ar As At Au Av Aw Ax Ay Az C0 C1 C2 C3 C4 C5 C6 C7 C8 C9 Ca Cb Cc Cd Ce Cf Cg Ch Ci Cj Ck Cl Cm Cn Co Cp Cq Cr Cs Ct Cu Cv Cw Cx Cy Cz D0 D1 D2 D3 D4 D5 D6 D7 D8 D9 Da Db Dc Dd De Df Dg Dh Di Dj Dk Dl Dm Dn Do Dp Dq Dr Ds Dt Du Dv Dw Dx Dy Dz E0 E1 E2 E3 E4 E5 E6 E7 E8 E9 Ea Eb Ec Ed Ee Ef Eg Eh Ei Ej Ek El Em En Eo Ep Eq Er Es Et Eu Ev Ew Ex Ey Ez F0 F1 F2 F3 F4 F5 F6 F7 F8 F9 Fa Fb Fc Fd Fe Ff Fg Fh Fi Fj Fk Fl Fm Fn Fo : Value) (j : Nat) (r wv : Int),(Hid (r = t.p1 - G.me + (j : Int)) ∧ -1000 ≤ r ∧ r ≤ t.p2 + G.me + 1) ∧ Hid (wv = (upto t.p1 t.p2 G.me j).foldl (fun m x => mx m (capk k (bestM G 4 (tgX t x)).2)) 0) ∧ (0 ≤ wv ∧ wv ≤ (k : Int)) ∧ NW w wr g6 g7 g8 G sa sn sc W t.p1 t.p2 ∧ a = ⟨#[u0,u1,u2,(.int .i64 ↑tips),(.int .i64 ↑roots),(.int .i64 ↑k),(.pointer (some ⟨g6,0,none⟩)),(.pointer (some ⟨g7,0,none⟩)),(.pointer (some ⟨g8,0,none⟩)),u9,A0,A1,A2,(.int .i64 wv),(.int .i64 r),A5,A6,A7,A8,A9,Aa,Ab,Ac,Ad,Ae,Af,Ag,Ah,Ai,Aj,Ak,Al,Am,An,Ao,Ap,Aq,Ar,As,At,Au,Av,Aw,Ax,Ay,Az,C0,C1,C2,C3,C4,C5,C6,C7,C8,C9,Ca,Cb,Cc,Cd,Ce,Cf,Cg,Ch,Ci,Cj,Ck,Cl,Cm,Cn,Co,Cp,Cq,Cr,Cs,Ct,Cu,Cv,Cw,Cx,Cy,Cz,D0,D1,D2,D3,D4,D5,D6,D7,D8,D9,Da,Db,Dc,Dd,De,Df,Dg,Dh,Di,Dj,Dk,Dl,Dm,Dn,Do,Dp,Dq,Dr,Ds,Dt,Du,Dv,Dw,Dx,Dy,Dz,E0,E1,E2,E3,E4,E5,E6,E7,E8,E9,Ea,Eb,Ec,Ed,Ee,Ef,Eg,Eh,Ei,Ej,Ek,El,Em,En,Eo,Ep,Eq,Er,Es,Et,Eu,Ev,Ew,Ex,Ey,Ez,F0,F1,F2,F3,F4,F5,F6,F7,F8,F9,Fa,Fb,Fc,Fd,Fe,Ff,Fg,Fh,Fi,Fj,Fk,Fl,Fm,Fn,Fo],[]⟩) (fun a _ => (t.p2 + G.me + 1 - intOf (a.tmps.getD 14 undef)).toNat) ?_ ?_
  · refine ⟨_,_,_,_,_,_,_,_,_,_,_,_,_,_,_,_,_,_,_,_,_,_,_,_,_,_,_,_,_,_,_,_,_,_,_,_,_,_,_,_,_,_,_,_,_,_,_,_,_,_,_,_,_,_,_,_,_,_,_,_,_,_,_,_,_,_,_,_,_,_,_,_,_,_,_,_,_,_,_,_,_,_,_,_,_,_,_,_,_,_,_,_,_,_,_,_,_,_,_,_,_,_,_,_,_,_,_,_,_,_,_,_,_,_,_,_,_,_,_,_,_,_,_,_,_,_,_,_,_,_,_,_,_,_,_,_,_,_,_,_,_,_,_,_,_,_,_,_,_,_,_,_,_,_,_,_,_,_,_,_,_,_,_,_,_,_,_,_,_,_,_,0,t.p1 - G.me,0,⟨hidMk (by simp),by omega,by omega⟩,hidMk rfl,⟨Int.le_refl _,Int.natCast_nonneg k⟩,HS.out,rfl⟩
  · intro a wr h
    obtain ⟨u0,h⟩ := h
    obtain ⟨u1,h⟩ := h
    obtain ⟨u2,h⟩ := h
    obtain ⟨u9,h⟩ := h
    obtain ⟨A0,h⟩ := h
    obtain ⟨A1,h⟩ := h
    obtain ⟨A2,h⟩ := h
    obtain ⟨A5,h⟩ := h
    obtain ⟨A6,h⟩ := h
    obtain ⟨A7,h⟩ := h
    obtain ⟨A8,h⟩ := h
    obtain ⟨A9,h⟩ := h
    obtain ⟨Aa,h⟩ := h
    obtain ⟨Ab,h⟩ := h
    obtain ⟨Ac,h⟩ := h
    obtain ⟨Ad,h⟩ := h
    obtain ⟨Ae,h⟩ := h
    obtain ⟨Af,h⟩ := h
    obtain ⟨Ag,h⟩ := h
    obtain ⟨Ah,h⟩ := h
    obtain ⟨Ai,h⟩ := h
    obtain ⟨Aj,h⟩ := h
    obtain ⟨Ak,h⟩ := h
    obtain ⟨Al,h⟩ := h
    obtain ⟨Am,h⟩ := h
    obtain ⟨An,h⟩ := h
    obtain ⟨Ao,h⟩ := h
    obtain ⟨Ap,h⟩ := h
    obtain ⟨Aq,h⟩ := h
    obtain ⟨Ar,h⟩ := h
    obtain ⟨As,h⟩ := h
    obtain ⟨At,h⟩ := h
    obtain ⟨Au,h⟩ := h
    obtain ⟨Av,h⟩ := h
    obtain ⟨Aw,h⟩ := h
    obtain ⟨Ax,h⟩ := h
    obtain ⟨Ay,h⟩ := h
    obtain ⟨Az,h⟩ := h
    obtain ⟨C0,h⟩ := h
    obtain ⟨C1,h⟩ := h
    obtain ⟨C2,h⟩ := h
    obtain ⟨C3,h⟩ := h
    obtain ⟨C4,h⟩ := h
    obtain ⟨C5,h⟩ := h
    obtain ⟨C6,h⟩ := h
    obtain ⟨C7,h⟩ := h
    obtain ⟨C8,h⟩ := h
    obtain ⟨C9,h⟩ := h
    obtain ⟨Ca,h⟩ := h
    obtain ⟨Cb,h⟩ := h
    obtain ⟨Cc,h⟩ := h
    obtain ⟨Cd,h⟩ := h
    obtain ⟨Ce,h⟩ := h
    obtain ⟨Cf,h⟩ := h
    obtain ⟨Cg,h⟩ := h
    obtain ⟨Ch,h⟩ := h
    obtain ⟨Ci,h⟩ := h
    obtain ⟨Cj,h⟩ := h
    obtain ⟨Ck,h⟩ := h
    obtain ⟨Cl,h⟩ := h
    obtain ⟨Cm,h⟩ := h
    obtain ⟨Cn,h⟩ := h
    obtain ⟨Co,h⟩ := h
    obtain ⟨Cp,h⟩ := h
    obtain ⟨Cq,h⟩ := h
    obtain ⟨Cr,h⟩ := h
    obtain ⟨Cs,h⟩ := h
    obtain ⟨Ct,h⟩ := h
    obtain ⟨Cu,h⟩ := h
    obtain ⟨Cv,h⟩ := h
    obtain ⟨Cw,h⟩ := h
    obtain ⟨Cx,h⟩ := h
    obtain ⟨Cy,h⟩ := h
    obtain ⟨Cz,h⟩ := h
    obtain ⟨D0,h⟩ := h
    obtain ⟨D1,h⟩ := h
    obtain ⟨D2,h⟩ := h
    obtain ⟨D3,h⟩ := h
    obtain ⟨D4,h⟩ := h
    obtain ⟨D5,h⟩ := h
    obtain ⟨D6,h⟩ := h
    obtain ⟨D7,h⟩ := h
    obtain ⟨D8,h⟩ := h
    obtain ⟨D9,h⟩ := h
    obtain ⟨Da,h⟩ := h
    obtain ⟨Db,h⟩ := h
    obtain ⟨Dc,h⟩ := h
    obtain ⟨Dd,h⟩ := h
    obtain ⟨De,h⟩ := h
    obtain ⟨Df,h⟩ := h
    obtain ⟨Dg,h⟩ := h
    obtain ⟨Dh,h⟩ := h
    obtain ⟨Di,h⟩ := h
    obtain ⟨Dj,h⟩ := h
    obtain ⟨Dk,h⟩ := h
    obtain ⟨Dl,h⟩ := h
    obtain ⟨Dm,h⟩ := h
    obtain ⟨Dn,h⟩ := h
    obtain ⟨Do,h⟩ := h
    obtain ⟨Dp,h⟩ := h
    obtain ⟨Dq,h⟩ := h
    obtain ⟨Dr,h⟩ := h
    obtain ⟨Ds,h⟩ := h
    obtain ⟨Dt,h⟩ := h
    obtain ⟨Du,h⟩ := h
    obtain ⟨Dv,h⟩ := h
    obtain ⟨Dw,h⟩ := h
    obtain ⟨Dx,h⟩ := h
    obtain ⟨Dy,h⟩ := h
    obtain ⟨Dz,h⟩ := h
    obtain ⟨E0,h⟩ := h
    obtain ⟨E1,h⟩ := h
    obtain ⟨E2,h⟩ := h
    obtain ⟨E3,h⟩ := h
    obtain ⟨E4,h⟩ := h
    obtain ⟨E5,h⟩ := h
    obtain ⟨E6,h⟩ := h
    obtain ⟨E7,h⟩ := h
    obtain ⟨E8,h⟩ := h
    obtain ⟨E9,h⟩ := h
    obtain ⟨Ea,h⟩ := h
    obtain ⟨Eb,h⟩ := h
    obtain ⟨Ec,h⟩ := h
    obtain ⟨Ed,h⟩ := h
    obtain ⟨Ee,h⟩ := h
    obtain ⟨Ef,h⟩ := h
    obtain ⟨Eg,h⟩ := h
    obtain ⟨Eh,h⟩ := h
    obtain ⟨Ei,h⟩ := h
    obtain ⟨Ej,h⟩ := h
    obtain ⟨Ek,h⟩ := h
    obtain ⟨El,h⟩ := h
    obtain ⟨Em,h⟩ := h
    obtain ⟨En,h⟩ := h
    obtain ⟨Eo,h⟩ := h
    obtain ⟨Ep,h⟩ := h
    obtain ⟨Eq,h⟩ := h
    obtain ⟨Er,h⟩ := h
    obtain ⟨Es,h⟩ := h
    obtain ⟨Et,h⟩ := h
    obtain ⟨Eu,h⟩ := h
    obtain ⟨Ev,h⟩ := h
    obtain ⟨Ew,h⟩ := h
    obtain ⟨Ex,h⟩ := h
    obtain ⟨Ey,h⟩ := h
    obtain ⟨Ez,h⟩ := h
    obtain ⟨F0,h⟩ := h
    obtain ⟨F1,h⟩ := h
    obtain ⟨F2,h⟩ := h
    obtain ⟨F3,h⟩ := h
    obtain ⟨F4,h⟩ := h
    obtain ⟨F5,h⟩ := h
    obtain ⟨F6,h⟩ := h
    obtain ⟨F7,h⟩ := h
    obtain ⟨F8,h⟩ := h
    obtain ⟨F9,h⟩ := h
    obtain ⟨Fa,h⟩ := h
    obtain ⟨Fb,h⟩ := h
    obtain ⟨Fc,h⟩ := h
    obtain ⟨Fd,h⟩ := h
    obtain ⟨Fe,h⟩ := h
    obtain ⟨Ff,h⟩ := h
    obtain ⟨Fg,h⟩ := h
    obtain ⟨Fh,h⟩ := h
    obtain ⟨Fi,h⟩ := h
    obtain ⟨Fj,h⟩ := h
    obtain ⟨Fk,h⟩ := h
    obtain ⟨Fl,h⟩ := h
    obtain ⟨Fm,h⟩ := h
    obtain ⟨Fn,h⟩ := h
    obtain ⟨Fo,h⟩ := h
    obtain ⟨j,r,wv,⟨Hr,hr1,hr2⟩,HV,hwv,hs,ha⟩ := h
    subst ha
    have HSR := hidMk hs
    have c1 := hs.x.at_ 1 (.int .i64 t.p2) rfl
    have c2 := hs.job.at_ 17 (.int .i64 G.me) rfl
    have wz : IntKind.i64.wrap (t.p2 + G.me) = t.p2 + G.me := IntWalk.i64_in _ (by omega)
    clear hs
    by_cases hlt : r ≤ t.p2 + G.me
    · have hmem : heardR t.p1 t.p2 r G.me ∈ readsL t.p1 t.p2 G.me := List.mem_map.2 ⟨j,List.mem_range.2 (by have := Hr.out; omega),by rw [Hr.out]⟩
      have hrd := reads_in hp hme.1 hmem
      have htx : TgIn k (tgX t (heardR t.p1 t.p2 r G.me)) := by
        obtain ⟨q1,q2,q3⟩ := hrd
        have h := HTI.out.1
        refine ⟨?_,q2⟩
        simp only [Tg.In,tgX] at h ⊢
        omega
      have hbn : 0 ≤ (bestM G 4 (tgX t (heardR t.p1 t.p2 r G.me))).2 := (best_bound G 4 _).1
      obtain ⟨cv,hcv⟩ : ∃ c,c = capk k (bestM G 4 (tgX t (heardR t.p1 t.p2 r G.me))).2 := ⟨_,rfl⟩
      have hcb : 0 ≤ cv ∧ cv ≤ (k : Int) + 1 := by rw [hcv]; exact ⟨cap_nn _ hbn,cap_top _ _⟩
      have HM := hidMk hmem
      have HTX := hidMk htx
      have HCV := hidMk hcv
      have wy : IntKind.i64.wrap (r + 1) = r + 1 := IntWalk.i64_in _ (by omega)
      have HWY := hidMk wy
      clear hmem htx hcv hrd hbn wy
      go_wp2_with fail
      refine ndp0 (tx := tgX t (heardR t.p1 t.p2 r G.me)) HIN.out HUU.out HXX.out hme HSR.out HTI.out rfl (by omega) HCV.out HTN.out HTX.out HW.out HND.out hkk ?_ hwv hcb hk4
      clear c1 c2 wz
      have hz : wv = 0 ∨ True := .inr trivial
      refine ⟨?_,?_,?_⟩
      · intro w' hs' hmk
        have HS' := hidMk hs'
        have HMK := hidMk hmk
        clear hs' hmk
        intros
        have wy := HWY.out
        obtain ⟨m,hmm⟩ : ∃ m,m = mx wv cv := ⟨_,rfl⟩
        rw [← hmm]
        have HMM := hidMk hmm
        clear hmm
        go_wp2_with fail
        refine ⟨⟨_,_,_,_,_,_,_,_,_,_,_,_,_,_,_,_,_,_,_,_,_,_,_,_,_,_,_,_,_,_,_,_,_,_,_,_,_,_,_,_,_,_,_,_,_,_,_,_,_,_,_,_,_,_,_,_,_,_,_,_,_,_,_,_,_,_,_,_,_,_,_,_,_,_,_,_,_,_,_,_,_,_,_,_,_,_,_,_,_,_,_,_,_,_,_,_,_,_,_,_,_,_,_,_,_,_,_,_,_,_,_,_,_,_,_,_,_,_,_,_,_,_,_,_,_,_,_,_,_,_,_,_,_,_,_,_,_,_,_,_,_,_,_,_,_,_,_,_,_,_,_,_,_,_,_,_,_,_,_,_,_,_,_,_,_,_,_,_,_,_,_,j + 1,r + 1,m,⟨hidMk (by rw [Hr.out]; push_cast; omega),by omega,by omega⟩,hidMk ?_,⟨?_,by rw [HMM.out]; exact HMK.out⟩,HS'.out,rfl⟩,?_⟩
        · rw [upto_succ,List.foldl_append,← HV.out,← Hr.out,List.foldl_cons,List.foldl_nil,← HCV.out]
          exact HMM.out
        · rw [HMM.out]; unfold mx; split <;> omega
        · simp [intOf]; omega
      · intro w' hs' hc0
        have HS' := hidMk hs'
        have HC0 := hidMk hc0
        clear hs' hc0
        intros
        have wy := HWY.out
        go_wp2_with fail
        refine ⟨⟨_,_,_,_,_,_,_,_,_,_,_,_,_,_,_,_,_,_,_,_,_,_,_,_,_,_,_,_,_,_,_,_,_,_,_,_,_,_,_,_,_,_,_,_,_,_,_,_,_,_,_,_,_,_,_,_,_,_,_,_,_,_,_,_,_,_,_,_,_,_,_,_,_,_,_,_,_,_,_,_,_,_,_,_,_,_,_,_,_,_,_,_,_,_,_,_,_,_,_,_,_,_,_,_,_,_,_,_,_,_,_,_,_,_,_,_,_,_,_,_,_,_,_,_,_,_,_,_,_,_,_,_,_,_,_,_,_,_,_,_,_,_,_,_,_,_,_,_,_,_,_,_,_,_,_,_,_,_,_,_,_,_,_,_,_,_,_,_,_,_,_,j + 1,r + 1,wv,⟨hidMk (by rw [Hr.out]; push_cast; omega),by omega,by omega⟩,hidMk ?_,hwv,HS'.out,rfl⟩,?_⟩
        · rw [upto_succ,List.foldl_append,← HV.out,← Hr.out,List.foldl_cons,List.foldl_nil,← HCV.out,HC0.out]
          unfold mx
          split <;> omega
        · simp [intOf]; omega
      · intro w' hs' hgt
        have HS' := hidMk hs'
        have e : mx wv cv = capk k (gT G t) := by
          have h1 : cv = (k : Int) + 1 ∧ (k : Int) < (bestM G 4 (tgX t (heardR t.p1 t.p2 r G.me))).2 := by
            have h2 : (k : Int) < cv := by unfold mx at hgt; split at hgt <;> omega
            have h3 := HCV.out
            unfold capk at h3
            split at h3 <;> omega
          have h4 : ¬ gT G t ≤ (k : Int) := fun h => by
            have := (gT_le (Int.natCast_nonneg k)).1 h _ HM.out
            have h5 := h1.2
            unfold tgX at h5
            omega
          unfold capk
          rw [if_neg h4]
          unfold mx
          rw [if_pos (by omega)]
          exact h1.1
        rw [e] at hgt ⊢
        clear hs' hgt
        intros
        clear e
        go_wp2_with fail
        go_ret
        exact ⟨rfl,HS'.out.b0⟩
    · have e : wv = capk k (gT G t) := by
        rw [HV.out,← fold_gT,upto_all]
        have e2 : (t.p2 + G.me - (t.p1 - G.me) + 1).toNat = j := by have := Hr.out; omega
        rw [e2]
      have HE := hidMk e
      clear e
      unfold QND at hK0
      rw [← HE.out] at hK0
      go_wp2_with fail
      go_ret
      exact ⟨rfl,HSR.out.b0⟩
theorem needs_all {G : Jb} {sa : Option Addr} {sn sc : Nat} {W : R2} (hin : G.In 1000) (hu : G.u1 ≤ G.u2 ∧ G.d1 ≤ G.d2) (hx : G.x1 ≤ G.x2 ∧ G.y1 ≤ G.y2) (hme : 0 ≤ G.me ∧ G.me ≤ 6) (hW : WOK G W) : ∀ k : Nat,k ≤ 4 → NDc G sa sn sc W k
  | 0,h => needs_of hin hu hx hme hW h fun k' e => by omega
  | k + 1,h => needs_of hin hu hx hme hW h fun k' e => by
    have e2 : k' = k := by omega
    subst e2
    exact needs_all hin hu hx hme hW k' (by omega)
end Go.Proofs.Ytadmcafbffjjbaa
namespace Go.Proofs.Ytadmcafbffjjbaa
set_option linter.all false
open Go.RowKit
def hearI (J : Jb) (r : Int) : R2 × Int := if r < J.p1 - J.me ∨ J.p2 + J.me < r then ((0,0),9) else (heardR J.p1 J.p2 r J.me,0)
set_option maxHeartbeats 1000000 in
set_option maxRecDepth 100000 in
theorem hearF_ok (J : Jb) (hc : J.check = 0) (r : Int) (a : Option Addr) (n c : Nat) (w : World) (hn : n = J.sh.length) (hm : n ≤ 9223372036854775807) (h : Rg w w.heap.size a J.sh) :
    Calls Try.prog 35 #[.agg (jobC J (.slice a n c)),.int .i64 r] w fun e w' => e = .returned (.tuple #[.agg #[.int .i64 (hearI J r).1.1,.int .i64 (hearI J r).1.2],.int .i64 (hearI J r).2]) ∧ Below w.heap.size w w' := by
  have Hn : Hid (n = J.sh.length) := hn
  have Hh : Hid (Rg w w.heap.size a J.sh) := h
  have hin := (check_ok hc).inn
  have p1 := hin.p1
  have p2 := hin.p2
  have me := hin.me
  have hcb : (J.check != 0) = false := by simp [hc]
  clear hn h hc hin
  have b0 : Bk ((w.alloc (.cells (jobC J (.slice a n c)) 30)).alloc (.cells #[.int .i64 0,.int .i64 0] 23)) w.heap.size 30 (jobC J (.slice a n c)) := (Bk.new w _ _).alloc _
  have b1 : Bk ((w.alloc (.cells (jobC J (.slice a n c)) 30)).alloc (.cells #[.int .i64 0,.int .i64 0] 23)) (w.heap.size + 1) 23 #[.int .i64 0,.int .i64 0] := Bk.newAt _ _ _ _ (by simp)
  have hW : Below w.heap.size w ((w.alloc (.cells (jobC J (.slice a n c)) 30)).alloc (.cells #[.int .i64 0,.int .i64 0] 23)) := ((Below.refl _ _).alloc (Nat.le_refl _) _).alloc (by simp) _
  by_cases h1 : r < J.p1 - J.me
  · have He : Hid (hearI J r = ((0,0),9)) := by show hearI J r = _; unfold hearI; rw [if_pos (.inl h1)]
    go_enter Try.func35,Try.ntmps35
    go_wp2_with (refine wpList_load_row rfl 30 _ rfl w.heap.size rfl _ (jobC J (.slice a n c)) _ _ b0 Try.underlying30 rfl szJob ?_)
    refine (check_any J a n c _ Hn.out hm (Hh.out.up hW)).mono ?_
    rintro e w1 ⟨rfl,hb1⟩
    have hz1 := hb1.size
    simp only [World.size_alloc] at hz1
    have k0 := b0.below hb1 (by simp; omega)
    have k1 := b1.below hb1 (by simp)
    have hB1 : Below w.heap.size w w1 := hW.trans (hb1.mono (by simp; omega))
    clear hb1 b0 b1 hW
    have d0 := k0.at_ 0 _ rfl
    have d1 := k0.at_ 1 _ rfl
    have d17 := k0.at_ 17 _ rfl
    have c0 := k1.at_ 0 _ rfl
    have c1 := k1.at_ 1 _ rfl
    have f0 := k1.free 0
    have f1 := k1.free 1
    go_wp2
    refine bodyPost_ret (results_row_tmp Try.results35 _ _ _ _ _ _ rfl rfl (k1.put2 _ _) Try.underlying23 szRange) rfl ⟨by rw [He.out]; rfl,?_⟩
    exact (hB1.setCell (by simp) _).setCell (by simp) _
  · by_cases h2 : J.p2 + J.me < r
    · have He : Hid (hearI J r = ((0,0),9)) := by show hearI J r = _; unfold hearI; rw [if_pos (.inr h2)]
      go_enter Try.func35,Try.ntmps35
      go_wp2_with (refine wpList_load_row rfl 30 _ rfl w.heap.size rfl _ (jobC J (.slice a n c)) _ _ b0 Try.underlying30 rfl szJob ?_)
      refine (check_any J a n c _ Hn.out hm (Hh.out.up hW)).mono ?_
      rintro e w1 ⟨rfl,hb1⟩
      have hz1 := hb1.size
      simp only [World.size_alloc] at hz1
      have k0 := b0.below hb1 (by simp; omega)
      have k1 := b1.below hb1 (by simp)
      have hB1 : Below w.heap.size w w1 := hW.trans (hb1.mono (by simp; omega))
      clear hb1 b0 b1 hW
      have d0 := k0.at_ 0 _ rfl
      have d1 := k0.at_ 1 _ rfl
      have d17 := k0.at_ 17 _ rfl
      have c0 := k1.at_ 0 _ rfl
      have c1 := k1.at_ 1 _ rfl
      have f0 := k1.free 0
      have f1 := k1.free 1
      go_wp2
      refine bodyPost_ret (results_row_tmp Try.results35 _ _ _ _ _ _ rfl rfl (k1.put2 _ _) Try.underlying23 szRange) rfl ⟨by rw [He.out]; rfl,?_⟩
      exact (hB1.setCell (by simp) _).setCell (by simp) _
    · have He : Hid (hearI J r = (heardR J.p1 J.p2 r J.me,0)) := by show hearI J r = _; unfold hearI; rw [if_neg (by omega)]
      go_enter Try.func35,Try.ntmps35
      go_wp2_with (refine wpList_load_row rfl 30 _ rfl w.heap.size rfl _ (jobC J (.slice a n c)) _ _ b0 Try.underlying30 rfl szJob ?_)
      refine (check_any J a n c _ Hn.out hm (Hh.out.up hW)).mono ?_
      rintro e w1 ⟨rfl,hb1⟩
      have hz1 := hb1.size
      simp only [World.size_alloc] at hz1
      have k0 := b0.below hb1 (by simp; omega)
      have k1 := b1.below hb1 (by simp)
      have hB1 : Below w.heap.size w w1 := hW.trans (hb1.mono (by simp; omega))
      clear hb1 b0 b1 hW
      have d0 := k0.at_ 0 _ rfl
      have d1 := k0.at_ 1 _ rfl
      have d17 := k0.at_ 17 _ rfl
      go_wp2_with fail
      refine (heard_any _ _ _ _ _ ⟨by omega,by omega,by omega,by omega⟩).mono ?_
      rintro e w2 ⟨rfl,hb2⟩
      have hz2 := hb2.size
      have k2 := k1.below hb2 (by omega)
      have hB2 : Below w.heap.size w w2 := hB1.trans (hb2.mono (by omega))
      have c0 := k2.at_ 0 _ rfl
      have c1 := k2.at_ 1 _ rfl
      have f0 := k2.free 0
      have f1 := k2.free 1
      clear hb2 k0 k1 hB1
      go_wp2
      refine bodyPost_ret (results_row_tmp Try.results35 _ _ _ _ _ _ rfl rfl (k2.put2 _ _) Try.underlying23 szRange) rfl ⟨by rw [He.out]; rfl,?_⟩
      exact (hB2.setCell (by simp) _).setCell (by simp) _
end Go.Proofs.Ytadmcafbffjjbaa
namespace Go.Proofs.Ytadmcafbffjjbaa
set_option linter.all false

structure Fd where
  p : Int
  t : Int
  r : Int
structure Tg.has (T : Tg) (x : Fd) : Prop where
  p : T.p1 ≤ x.p ∧ x.p ≤ T.p2
  t : T.t1 ≤ x.t ∧ x.t ≤ T.t2
  r : T.r1 ≤ x.r ∧ x.r ≤ T.r2
def Ins : List Int → List R2 → Prop
  | [],[] => True
  | n :: l,s :: q => (s.1 ≤ n ∧ n ≤ s.2) ∧ Ins l q
  | _,_ => False
theorem Ins.len : ∀ {l : List Int} {q : List R2},Ins l q → l.length = q.length
  | [],[],_ => rfl
  | _ :: _,_ :: _,h => by simp [Ins.len h.2]
  | [],_ :: _,h => h.elim
  | _ :: _,[],h => h.elim
theorem Ins.all {P : Int → Prop} {Q : R2 → Prop} (hPQ : ∀ n s,s.1 ≤ n ∧ n ≤ s.2 → Q s → P n) : ∀ {l : List Int} {q : List R2},Ins l q → (∀ s ∈ q,Q s) → ∀ n ∈ l,P n
  | [],[],_,_ => by simp
  | n :: l,s :: q,h,hq => by
    intro m hm
    rcases List.mem_cons.1 hm with rfl | hm
    · exact hPQ _ s h.1 (hq s List.mem_cons_self)
    · exact Ins.all hPQ h.2 (fun s hs => hq s (List.mem_cons_of_mem _ hs)) m hm
  | [],_ :: _,h,_ => h.elim
  | _ :: _,[],h,_ => h.elim
end Go.Proofs.Ytadmcafbffjjbaa
namespace Go.Proofs.Ytadmcafbffjjbaa
set_option linter.all false
open Go.RowKit
theorem strk_tip {J : Jb} {T : Tg} {x : Fd} {u v : Int} (h : T.has x) (hu : J.u1 ≤ u ∧ u ≤ J.u2) (hv : J.x1 ≤ v ∧ v ≤ J.x2) : (strk J T 1).has ⟨x.p + u,x.t - v,x.r⟩ := by
  have hp := h.p
  have ht := h.t
  have hr := h.r
  unfold strk
  rw [if_pos rfl]
  exact ⟨⟨by show T.p1 + J.u1 ≤ x.p + u; omega,by show x.p + u ≤ T.p2 + J.u2; omega⟩,⟨by show T.t1 - J.x2 ≤ x.t - v; omega,by show x.t - v ≤ T.t2 - J.x1; omega⟩,hr⟩
theorem strk_root {J : Jb} {T : Tg} {x : Fd} {u v : Int} (h : T.has x) (hu : J.d1 ≤ u ∧ u ≤ J.d2) (hv : J.y1 ≤ v ∧ v ≤ J.y2) : (strk J T 2).has ⟨x.p - u,x.t,x.r - v⟩ := by
  have hp := h.p
  have ht := h.t
  have hr := h.r
  unfold strk
  rw [if_neg (by decide),if_pos rfl]
  exact ⟨⟨by show T.p1 - J.d2 ≤ x.p - u; omega,by show x.p - u ≤ T.p2 - J.d1; omega⟩,ht,⟨by show T.r1 - J.y2 ≤ x.r - v; omega,by show x.r - v ≤ T.r2 - J.y1; omega⟩⟩
end Go.Proofs.Ytadmcafbffjjbaa
namespace Go.Proofs.Ytadmcafbffjjbaa
set_option linter.all false
open Go.RowKit

theorem bestM_setTg (J : Jb) (T : Tg) : ∀ (k : Nat) (t : Tg),bestM (J.setTg T) k t = bestM J k t
  | 0,t => rfl
  | k + 1,t => by
    have h : (fun t => (bestM (J.setTg T) k t).2) = (fun t => (bestM J k t).2) := by funext t; rw [bestM_setTg J T k t]
    unfold bestM
    rw [h]
    rfl
def tgH (t : Tg) (x : R2) : Tg := { t with p1 := x.1,p2 := x.2 }
structure GIv (J : Jb) (n s : Int) (T : Tg) (x : Fd) : Prop where
  ok : (J.setTg T).check = 0
  has : T.has x
  game : gT J T ≤ n - s
  s0 : 0 ≤ s
theorem gi_start {J : Jb} (h : J.check = 0) {x : Fd} (hx : J.tg.has x) (n : Int) (hn : guideI J = n) : GIv J n 0 J.tg x :=
  ⟨h,hx,by
    have e : gT J J.tg = guideI J := rfl
    omega,Int.le_refl _⟩
theorem heard_mem {J : Jb} {T : Tg} {x : Fd} (h : T.has x) {m : Int} (hm : -J.me ≤ m ∧ m ≤ J.me) : heardR T.p1 T.p2 (x.p + m) J.me ∈ readsL T.p1 T.p2 J.me := by
  have hp := h.p
  refine List.mem_map.2 ⟨(x.p + m - (T.p1 - J.me)).toNat,List.mem_range.2 (by omega),?_⟩
  rw [show T.p1 - J.me + (((x.p + m - (T.p1 - J.me)).toNat : Nat) : Int) = x.p + m from by omega]
theorem heard_in {J : Jb} {T : Tg} {x : Fd} (h : T.has x) {m : Int} (hm : -J.me ≤ m ∧ m ≤ J.me) : (heardR T.p1 T.p2 (x.p + m) J.me).1 ≤ x.p ∧ x.p ≤ (heardR T.p1 T.p2 (x.p + m) J.me).2 ∧ T.p1 ≤ (heardR T.p1 T.p2 (x.p + m) J.me).1 ∧ (heardR T.p1 T.p2 (x.p + m) J.me).2 ≤ T.p2 := by
  have hp := h.p
  unfold heardR meet2
  simp only
  refine ⟨?_,?_,?_,?_⟩ <;> split <;> omega
theorem gi_heard {J : Jb} {n s : Int} {T : Tg} {x : Fd} (h : GIv J n s T x) {m : Int} (hm : -J.me ≤ m ∧ m ≤ J.me) (hme : 0 ≤ J.me) (hn : n ≤ 4) :
    (J.setTg (tgH T (heardR T.p1 T.p2 (x.p + m) J.me))).check = 0 ∧ (tgH T (heardR T.p1 T.p2 (x.p + m) J.me)).has x ∧ (bestM J 4 (tgH T (heardR T.p1 T.p2 (x.p + m) J.me))).2 ≤ n - s := by
  have hi := heard_in h.has hm
  have hF := check_full h.ok
  obtain ⟨p,t,r,u,d,xx,y,le,wi,me,len,sh⟩ := hF
  refine ⟨Jb.Full.check ⟨?_,t,r,u,d,xx,y,le,wi,me,len,sh⟩,⟨⟨hi.1,hi.2.1⟩,h.has.t,h.has.r⟩,?_⟩
  · simp only [Jb.setTg,tgH] at p ⊢
    omega
  · have h0 : 0 ≤ n - s := by have := gT_nn J T; have := h.game; omega
    exact (gT_le h0).1 h.game _ (heard_mem h.has hm)
theorem best_kind {J : Jb} (hu : J.u1 ≤ J.u2 ∧ J.d1 ≤ J.d2) (hm : 0 ≤ J.me) {t : Tg} (hp : t.p1 ≤ t.p2) (h0 : (bestM J 4 t).2 ≠ 0) (h4 : (bestM J 4 t).2 ≤ 4) :
    ((bestM J 4 t).1 = 1 ∨ (bestM J 4 t).1 = 2) ∧ spoilI J.le (strk J t (bestM J 4 t).1) = 2 ∧ gT J (strk J t (bestM J 4 t).1) ≤ (bestM J 4 t).2 - 1 := by
  have hw : ¬ ((win J.wi J.sh).1 ≤ t.p1 ∧ t.p2 ≤ (win J.wi J.sh).2) := fun h => h0 (by rw [best_in h])
  have hb := best_out (k := 3) hw
  have key : ∃ s : Int,(s = 1 ∨ s = 2) ∧ spoilI J.le (strk J t s) = 2 ∧ bestM J 4 t = (s,worstOf (fun t => (bestM J 3 t).2) (strk J t s) (readsL (strk J t s).p1 (strk J t s).p2 J.me)) := by
    rcases choose_one J (fun t => (bestM J 3 t).2) t (choose J (fun t => (bestM J 3 t).2) t (0,5) 1) 2 with h | ⟨h1,h2,_⟩
    · rcases choose_one J (fun t => (bestM J 3 t).2) t (0,5) 1 with g | ⟨g1,g2,_⟩
      · rw [hb,h,g] at h4
        simp at h4
      · exact ⟨1,.inl rfl,g1,by rw [hb,h,g2]⟩
    · exact ⟨2,.inr rfl,h1,by rw [hb,h2]⟩
  obtain ⟨s,hs,hsp,hbe⟩ := key
  have hq := worst_pos (f := fun t => (bestM J 3 t).2) (fun t => (best_bound J 3 t).1) (strk_p hu hp s) hm
  have e1 : (bestM J 4 t).1 = s := by rw [hbe]
  rw [e1]
  refine ⟨hs,hsp,?_⟩
  have e2 : (bestM J 4 t).2 = worstOf (fun t => (bestM J 3 t).2) (strk J t s) (readsL (strk J t s).p1 (strk J t s).p2 J.me) := by rw [hbe]
  rw [gT_le (by omega)]
  intro r hr
  have hw2 := worst_ge (f := fun t => (bestM J 3 t).2) (t := strk J t s) hr
  have h3 : (bestM J 3 { strk J t s with p1 := r.1,p2 := r.2 }).2 ≤ (bestM J 4 t).2 - 1 := by
    have hw3 : 1 + (bestM J 3 { strk J t s with p1 := r.1,p2 := r.2 }).2 ≤ (bestM J 4 t).2 := by rw [e2]; exact hw2
    omega
  obtain ⟨m,hm2⟩ : ∃ m : Nat,(m : Int) = (bestM J 4 t).2 - 1 := ⟨((bestM J 4 t).2 - 1).toNat,by omega⟩
  rw [← hm2] at h3 ⊢
  have hpr := (reads_in (strk_p hu hp s) hm hr).2.1
  exact (knows_best hu hm 4 m (by omega) (by omega) _ hpr).1 ((knows_best hu hm 3 m (by omega) (by omega) _ hpr).2 h3)
theorem best_stopped {J : Jb} (hu : J.u1 ≤ J.u2 ∧ J.d1 ≤ J.d2) (hm : 0 ≤ J.me) {t : Tg} (hp : t.p1 ≤ t.p2) (h0 : (bestM J 4 t).2 = 0) : ((win J.wi J.sh).1 ≤ t.p1 ∧ t.p2 ≤ (win J.wi J.sh).2) ∧ (bestM J 4 t).1 = 0 := by
  by_cases h : ((win J.wi J.sh).1 ≤ t.p1 ∧ t.p2 ≤ (win J.wi J.sh).2)
  · exact ⟨h,by rw [best_in h]⟩
  · have := best_pos hu hm hp (show inW J t = false from decide_eq_false h)
    omega
theorem gi_next {J : Jb} {n s : Int} {T : Tg} {y : Fd} {k : Int} (hJ : J.Full) (hT : (J.setTg T).check = 0) (hk : k = 1 ∨ k = 2) (hy : (strk J T k).has y) (hg : gT J (strk J T k) ≤ n - (s + 1)) (h0 : 0 ≤ s)
    (hb : -60 ≤ (strk J T k).p1 ∧ (strk J T k).p2 ≤ 60 ∧ 0 ≤ (strk J T k).t1 ∧ 0 ≤ (strk J T k).r1) : GIv J n (s + 1) (strk J T k) y := by
  have hF := check_full hT
  obtain ⟨p,t,r,u,d,xx,yy,le,wi,me,len,sh⟩ := hF
  refine ⟨Jb.Full.check ?_,hy,hg,by omega⟩
  simp only [Jb.setTg] at p t r u d xx yy le wi me len sh
  rcases hk with rfl | rfl
  · refine ⟨?_,?_,?_,u,d,xx,yy,le,wi,me,len,sh⟩ <;> simp only [Jb.setTg,strk,if_true] at hb ⊢ <;> omega
  · have e : ¬ ((2 : Int) = 1) := by decide
    refine ⟨?_,?_,?_,u,d,xx,yy,le,wi,me,len,sh⟩ <;> simp only [Jb.setTg,strk,if_neg e,if_true] at hb ⊢ <;> omega
end Go.Proofs.Ytadmcafbffjjbaa
namespace Go.Proofs.Ytadmcafbffjjbaa
set_option linter.all false
open Go.RowKit
def stepS (s : Int) : Int := IntKind.u64.wrap (IntKind.u64.wrap (s * 6364136223846793005) + 1442695040888963407)
def mixA (x c : Int) : Int := IntKind.u64.wrap (bits BinOp.xor IntKind.u64 x (x / 8589934592) * c)
def stepX (s : Int) : Int := bits BinOp.xor IntKind.u64 (mixA (mixA (stepS s) 18397679294719823053) 14181476777654086739) (mixA (mixA (stepS s) 18397679294719823053) 14181476777654086739 / 8589934592)
set_option maxHeartbeats 400000 in
theorem step_any (b : Nat) (s : Int) (w : World) (h : w.cell? ⟨b,0,none⟩ = some (.int .u64 s)) (hf : w.frozen? ⟨b,0,none⟩ = false) :
    Calls Try.prog 57 #[.pointer (some ⟨b,0,none⟩)] w fun e w' => e = .returned (.int .u64 (stepX s)) ∧ w' = w.setCell ⟨b,0,none⟩ (.int .u64 (stepS s)) := by
  go_enter Try.func57,Try.ntmps57
  go_wp2
  go_ret
  exact ⟨rfl,rfl⟩
def uptoF (s m : Int) : Int := if m < 1 then 0 else wrap64 ((stepX s / 2048).tmod (m + 1))
def uptoS (s m : Int) : Int := if m < 1 then s else stepS s
theorem stepX_in (s : Int) : 0 ≤ stepX s ∧ stepX s ≤ 18446744073709551615 := bits_within .xor .u64 _ _
theorem uptoF_in (s m : Int) (h : m ≤ 1000) : 0 ≤ uptoF s m ∧ (uptoF s m ≤ m ∨ uptoF s m = 0) := by
  unfold uptoF
  by_cases h1 : m < 1
  · rw [if_pos h1]; omega
  · rw [if_neg h1]
    have h2 := stepX_in s
    have h3 : 0 ≤ stepX s / 2048 := by omega
    have h4 : (stepX s / 2048).tmod (m + 1) = (stepX s / 2048) % (m + 1) := Int.tmod_eq_emod_of_nonneg h3
    have h5 := Int.emod_nonneg (stepX s / 2048) (show m + 1 ≠ 0 by omega)
    have h6 := Int.emod_lt_of_pos (stepX s / 2048) (show 0 < m + 1 by omega)
    rw [h4,show wrap64 ((stepX s / 2048) % (m + 1)) = (stepX s / 2048) % (m + 1) from IntWalk.wrap64_in _ (by omega)]
    omega
def Put (w w' : World) (b : Nat) (s s' : Int) : Prop := w' = w.setCell ⟨b,0,none⟩ (.int .u64 s') ∨ (w' = w ∧ s' = s)
theorem Put.cell {w w' : World} {b q p : Nat} {s s' : Int} {v : Value} (h : Put w w' b s s') (hbq : b ≠ q) (hv : w.cell? ⟨q,p,none⟩ = some v) : w'.cell? ⟨q,p,none⟩ = some v := by
  rcases h with rfl | ⟨rfl,_⟩
  · exact (World.cell?_setCell_other w _ _ _ (by intro e; cases e; exact hbq rfl)).trans hv
  · exact hv
set_option maxHeartbeats 400000 in
theorem upto_less (b : Nat) (m : Int) (w : World) (hm : m < 1) :
    Calls Try.prog 22 #[.pointer (some ⟨b,0,none⟩),.int .i64 m] w fun e w' => e = .returned (.int .i64 0) ∧ w' = w := by
  go_enter Try.func22,Try.ntmps22
  go_wp2
  go_ret
  exact ⟨rfl,rfl⟩
set_option maxHeartbeats 400000 in
theorem upto_more (b : Nat) (s m : Int) (w : World) (hm : 1 ≤ m ∧ m ≤ 1000) (h : w.cell? ⟨b,0,none⟩ = some (.int .u64 s)) (hf : w.frozen? ⟨b,0,none⟩ = false) :
    Calls Try.prog 22 #[.pointer (some ⟨b,0,none⟩),.int .i64 m] w fun e w' => e = .returned (.int .i64 (wrap64 ((stepX s / 2048).tmod (m + 1)))) ∧ w' = w.setCell ⟨b,0,none⟩ (.int .u64 (stepS s)) := by
  obtain ⟨h1,h2⟩ := hm
  have hz : ¬ m < 1 := by omega
  go_enter Try.func22,Try.ntmps22
  go_wp2_with (go_at_call 57; refine (step_any _ _ _ h hf).mono ?_; rintro e w1 ⟨rfl,rfl⟩)
  go_ret
  exact ⟨rfl,rfl⟩
theorem upto_any (b : Nat) (s m : Int) (w : World) (hm : m ≤ 1000) (h : w.cell? ⟨b,0,none⟩ = some (.int .u64 s)) (hf : w.frozen? ⟨b,0,none⟩ = false) :
    Calls Try.prog 22 #[.pointer (some ⟨b,0,none⟩),.int .i64 m] w fun e w' => e = .returned (.int .i64 (uptoF s m)) ∧ Put w w' b s (uptoS s m) := by
  unfold uptoF uptoS
  by_cases h1 : m < 1
  · rw [if_pos h1,if_pos h1]
    exact (upto_less b m w h1).mono fun e w' ⟨he,hw⟩ => ⟨he,.inr ⟨hw,rfl⟩⟩
  · rw [if_neg h1,if_neg h1]
    exact (upto_more b s m w (by omega) h hf).mono fun e w' ⟨he,hw⟩ => ⟨he,.inl hw⟩
def pick3 (x y z u : Int) : Int := if u = 0 then x else if u = 1 then y else z
set_option maxHeartbeats 400000 in
theorem of3_any (b q o : Nat) (s x y z : Int) (w : World) (h : w.cell? ⟨b,0,none⟩ = some (.int .u64 s)) (hf : w.frozen? ⟨b,0,none⟩ = false) (hbq : b ≠ q)
    (h0 : w.cell? ⟨q,o,none⟩ = some (.int .i64 x)) (h1 : w.cell? ⟨q,o + 1,none⟩ = some (.int .i64 y)) (h2 : w.cell? ⟨q,o + 2,none⟩ = some (.int .i64 z)) :
    Calls Try.prog 21 #[.pointer (some ⟨b,0,none⟩),.slice (some ⟨q,o,none⟩) 3 3] w fun e w' => e = .returned (.int .i64 (pick3 x y z (uptoF s 2))) ∧ Put w w' b s (uptoS s 2) := by
  have hu := uptoF_in s 2 (by omega)
  have hcase : uptoF s 2 = 0 ∨ uptoF s 2 = 1 ∨ uptoF s 2 = 2 := by omega
  rcases hcase with e0 | e0 | e0
  · have he : pick3 x y z (uptoF s 2) = x := by rw [e0]; rfl
    clear hu
    go_enter Try.func21,Try.ntmps21
    go_wp2_with (go_at_call 22; refine (upto_any _ _ _ _ (by decide) h hf).mono ?_; rintro e w1 ⟨rfl,hp⟩; have g0 := hp.cell hbq h0; have g1 := hp.cell hbq h1; have g2 := hp.cell hbq h2)
    go_ret
    exact ⟨by rw [he]; rfl,hp⟩
  · have he : pick3 x y z (uptoF s 2) = y := by rw [e0]; rfl
    clear hu
    go_enter Try.func21,Try.ntmps21
    go_wp2_with (go_at_call 22; refine (upto_any _ _ _ _ (by decide) h hf).mono ?_; rintro e w1 ⟨rfl,hp⟩; have g0 := hp.cell hbq h0; have g1 := hp.cell hbq h1; have g2 := hp.cell hbq h2)
    go_ret
    exact ⟨by rw [he]; rfl,hp⟩
  · have he : pick3 x y z (uptoF s 2) = z := by rw [e0]; rfl
    clear hu
    go_enter Try.func21,Try.ntmps21
    go_wp2_with (go_at_call 22; refine (upto_any _ _ _ _ (by decide) h hf).mono ?_; rintro e w1 ⟨rfl,hp⟩; have g0 := hp.cell hbq h0; have g1 := hp.cell hbq h1; have g2 := hp.cell hbq h2)
    go_ret
    exact ⟨by rw [he]; rfl,hp⟩
end Go.Proofs.Ytadmcafbffjjbaa
