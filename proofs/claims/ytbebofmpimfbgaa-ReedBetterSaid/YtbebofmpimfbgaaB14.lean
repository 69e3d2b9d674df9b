/- Part 14 of the proof: BeB, BeC, BeD, PotN. -/
import Derived.Deep.WholeRow
import Derived.Test.YtbebofmpimfbgaaB13
import Derived.Test.YtbebofmpimfbgaaB12
import Derived.Test.YtbebofmpimfbgaaB06
/- The law ReedBetter: numbers of strokes. -/
namespace Go.Proofs.Ytbebofmpimfbgaa
set_option linter.all false
open Go.RowKit
set_option maxHeartbeats 4000000 in
set_option maxRecDepth 1000000 in
theorem bepart18 {w0 w : World} {g4 g5 : Nat} {K X : Jb} {a oa la : Option Addr} {n c oc lc : Nat} {l : List Int} {sa ta : Option Addr} {sn sc tn tc : Nat} {ev fv ge gn : Int} {u0 u1 u2 u3 u6 u8 A0 A2 A4 A5 A9 Aa Ab Ac Ad Ae Af Ag Ah Ai Aj Ak Al Am An Ao Ap Aq Ar As At Au Av Aw Ax Ay Az C0 C1 C2 C3 C4 C5 C6 C7 C8 C9 Ca Cb Cc Cd Ce Cf Cg Ch Ci Cj Ck Cl Cm Cn Co Cp Cq Cr Cs Ct Cu Cv Cw Cx Cy Cz D0 D1 D2 D3 D4 D5 D6 D7 D8 D9 Da Db Dc Dd De Df Dg Dh Di Dj Dk Dl Dm Dn Do Dp Dq Dr Ds Dt Du Dv Dw Dx Dy Dz E0 E1 E2 E3 E4 E5 E6 E7 E8 E9 Ea Eb Ec Ed Ee Ef Eg Eh Ei Ej Ek El Em En Eo Ep Eq Er Es Et Eu Ev Ew Ex Ey Ez F0 F1 F2 F3 F4 F5 F6 F7 F8 F9 Fa Fb Fc Fd Fe Ff Fg Fh Fi Fj Fk Fl Fm Fn Fo Fp Fq Fr Fs Ft Fu Fv Fw Fx Fy Fz L0 L1 L2 L3 L4 L5 L6 L7 L8 L9 La Lb Lc Ld Le Lf Lg Lh Li Lj Lk Ll Lm Ln Lo Lp Lq Lr Ls Lt Lu Lv Lw Lx Ly Lz M0 M1 M2 M3 M4 M5 M6 M7 M8 M9 Ma Mb Mc Md Me Mf Mg Mh Mi Mj Mk Ml Mm Mn Mo Mp Mq Mr Ms Mt Mu Mv Mw Mx My Mz N0 : Value} (htun : TunOK) (hshort : ShortOK) (hfine : FineOK) (hs : BW w0 g4 g5 K X a n c oa oc la l w) (hA : (ev ≠ 0 ∨ (fv = 0 ∧ tn ≤ sn)) ∧ (fv = 0 ∨ fv = 11)) (hk : gn = (guidedI K).1 ∧ ge = (guidedI K).2) : Code.wp Try.prog berest18 (QBE w0) ⟨#[u0, u1, u2, u3, (.pointer (some ⟨g4, 0, none⟩)), (.pointer (some ⟨g5, 0, none⟩)), u6, (.slice la l.length lc), u8, (.int .i64 ev), A0, (.int .i64 fv), A2, (.int .i64 ge), A4, A5, (.slice sa sn sc), (.slice ta tn tc), (.int .i64 gn), A9, Aa, Ab, Ac, Ad, Ae, Af, Ag, Ah, Ai, Aj, Ak, Al, Am, An, Ao, Ap, Aq, Ar, As, At, Au, Av, Aw, Ax, Ay, Az, C0, C1, C2, C3, C4, C5, C6, C7, C8, C9, Ca, Cb, Cc, Cd, Ce, Cf, Cg, Ch, Ci, Cj, Ck, Cl, Cm, Cn, Co, Cp, Cq, Cr, Cs, Ct, Cu, Cv, Cw, Cx, Cy, Cz, D0, D1, D2, D3, D4, D5, D6, D7, D8, D9, Da, Db, Dc, Dd, De, Df, Dg, Dh, Di, Dj, Dk, Dl, Dm, Dn, Do, Dp, Dq, Dr, Ds, Dt, Du, Dv, Dw, Dx, Dy, Dz, E0, E1, E2, E3, E4, E5, E6, E7, E8, E9, Ea, Eb, Ec, Ed, Ee, Ef, Eg, Eh, Ei, Ej, Ek, El, Em, En, Eo, Ep, Eq, Er, Es, Et, Eu, Ev, Ew, Ex, Ey, Ez, F0, F1, F2, F3, F4, F5, F6, F7, F8, F9, Fa, Fb, Fc, Fd, Fe, Ff, Fg, Fh, Fi, Fj, Fk, Fl, Fm, Fn, Fo, Fp, Fq, Fr, Fs, Ft, Fu, Fv, Fw, Fx, Fy, Fz, L0, L1, L2, L3, L4, L5, L6, L7, L8, L9, La, Lb, Lc, Ld, Le, Lf, Lg, Lh, Li, Lj, Lk, Ll, Lm, Ln, Lo, Lp, Lq, Lr, Ls, Lt, Lu, Lv, Lw, Lx, Ly, Lz, M0, M1, M2, M3, M4, M5, M6, M7, M8, M9, Ma, Mb, Mc, Md, Me, Mf, Mg, Mh, Mi, Mj, Mk, Ml, Mm, Mn, Mo, Mp, Mq, Mr, Ms, Mt, Mu, Mv, Mw, Mx, My, Mz, N0], []⟩ w := by
  rw [berest18_eq]
  have HS := hidMk hs
  have HT := hidMk htun
  have HSO := hidMk hshort
  have HFO := hidMk hfine
  clear hs htun hshort hfine
  have hnm := HS.out.nm
  have HA := hidMk hA
  have HK := hidMk hk
  clear hA hk
  go_wp2_with (refine wpList_load_row rfl 30 _ rfl g5 rfl _ (jobC X (.slice oa n oc)) _ _ HS.out.j5 Try.underlying30 rfl szJob ?_)
  refine (guided_any X oa n oc _ HS.out.hn5 hnm HS.out.r5).mono ?_
  rintro e w2 ⟨rfl, hb2⟩
  have HS2 := hidMk (HS.out.next hb2)
  have hC := guided_nar HS.out.ck HS.out.na
  rw [← HK.out.1, ← HK.out.2] at hC
  have HC := hidMk hC
  clear hb2 hC
  go_wp2_with fail
  exact bepart19 HT.out HSO.out HFO.out HS2.out HA.out HC.out
set_option maxHeartbeats 4000000 in
set_option maxRecDepth 1000000 in
theorem bepart17 {w0 w : World} {g4 g5 : Nat} {K X : Jb} {a oa la : Option Addr} {n c oc lc : Nat} {l : List Int} {sa ta : Option Addr} {sn sc tn tc : Nat} {ev fv : Int} {u0 u1 u2 u3 u6 u8 A0 A2 A3 A4 A5 A8 A9 Aa Ab Ac Ad Ae Af Ag Ah Ai Aj Ak Al Am An Ao Ap Aq Ar As At Au Av Aw Ax Ay Az C0 C1 C2 C3 C4 C5 C6 C7 C8 C9 Ca Cb Cc Cd Ce Cf Cg Ch Ci Cj Ck Cl Cm Cn Co Cp Cq Cr Cs Ct Cu Cv Cw Cx Cy Cz D0 D1 D2 D3 D4 D5 D6 D7 D8 D9 Da Db Dc Dd De Df Dg Dh Di Dj Dk Dl Dm Dn Do Dp Dq Dr Ds Dt Du Dv Dw Dx Dy Dz E0 E1 E2 E3 E4 E5 E6 E7 E8 E9 Ea Eb Ec Ed Ee Ef Eg Eh Ei Ej Ek El Em En Eo Ep Eq Er Es Et Eu Ev Ew Ex Ey Ez F0 F1 F2 F3 F4 F5 F6 F7 F8 F9 Fa Fb Fc Fd Fe Ff Fg Fh Fi Fj Fk Fl Fm Fn Fo Fp Fq Fr Fs Ft Fu Fv Fw Fx Fy Fz L0 L1 L2 L3 L4 L5 L6 L7 L8 L9 La Lb Lc Ld Le Lf Lg Lh Li Lj Lk Ll Lm Ln Lo Lp Lq Lr Ls Lt Lu Lv Lw Lx Ly Lz M0 M1 M2 M3 M4 M5 M6 M7 M8 M9 Ma Mb Mc Md Me Mf Mg Mh Mi Mj Mk Ml Mm Mn Mo Mp Mq Mr Ms Mt Mu Mv Mw Mx My Mz N0 : Value} (htun : TunOK) (hshort : ShortOK) (hfine : FineOK) (hs : BW w0 g4 g5 K X a n c oa oc la l w) (hA : (ev ≠ 0 ∨ (fv = 0 ∧ tn ≤ sn)) ∧ (fv = 0 ∨ fv = 11)) : Code.wp Try.prog berest17 (QBE w0) ⟨#[u0, u1, u2, u3, (.pointer (some ⟨g4, 0, none⟩)), (.pointer (some ⟨g5, 0, none⟩)), u6, (.slice la l.length lc), u8, (.int .i64 ev), A0, (.int .i64 fv), A2, A3, A4, A5, (.slice sa sn sc), (.slice ta tn tc), A8, A9, Aa, Ab, Ac, Ad, Ae, Af, Ag, Ah, Ai, Aj, Ak, Al, Am, An, Ao, Ap, Aq, Ar, As, At, Au, Av, Aw, Ax, Ay, Az, C0, C1, C2, C3, C4, C5, C6, C7, C8, C9, Ca, Cb, Cc, Cd, Ce, Cf, Cg, Ch, Ci, Cj, Ck, Cl, Cm, Cn, Co, Cp, Cq, Cr, Cs, Ct, Cu, Cv, Cw, Cx, Cy, Cz, D0, D1, D2, D3, D4, D5, D6, D7, D8, D9, Da, Db, Dc, Dd, De, Df, Dg, Dh, Di, Dj, Dk, Dl, Dm, Dn, Do, Dp, Dq, Dr, Ds, Dt, Du, Dv, Dw, Dx, Dy, Dz, E0, E1, E2, E3, E4, E5, E6, E7, E8, E9, Ea, Eb, Ec, Ed, Ee, Ef, Eg, Eh, Ei, Ej, Ek, El, Em, En, Eo, Ep, Eq, Er, Es, Et, Eu, Ev, Ew, Ex, Ey, Ez, F0, F1, F2, F3, F4, F5, F6, F7, F8, F9, Fa, Fb, Fc, Fd, Fe, Ff, Fg, Fh, Fi, Fj, Fk, Fl, Fm, Fn, Fo, Fp, Fq, Fr, Fs, Ft, Fu, Fv, Fw, Fx, Fy, Fz, L0, L1, L2, L3, L4, L5, L6, L7, L8, L9, La, Lb, Lc, Ld, Le, Lf, Lg, Lh, Li, Lj, Lk, Ll, Lm, Ln, Lo, Lp, Lq, Lr, Ls, Lt, Lu, Lv, Lw, Lx, Ly, Lz, M0, M1, M2, M3, M4, M5, M6, M7, M8, M9, Ma, Mb, Mc, Md, Me, Mf, Mg, Mh, Mi, Mj, Mk, Ml, Mm, Mn, Mo, Mp, Mq, Mr, Ms, Mt, Mu, Mv, Mw, Mx, My, Mz, N0], []⟩ w := by
  rw [berest17_eq]
  have HS := hidMk hs
  have HT := hidMk htun
  have HSO := hidMk hshort
  have HFO := hidMk hfine
  clear hs htun hshort hfine
  have hnm := HS.out.nm
  have HA := hidMk hA
  clear hA
  go_wp2_with (refine wpList_load_row rfl 30 _ rfl g4 rfl _ (jobC K (.slice a n c)) _ _ HS.out.j4 Try.underlying30 rfl szJob ?_)
  refine (guided_any K a n c _ HS.out.hn hnm HS.out.r4).mono ?_
  rintro e w2 ⟨rfl, hb2⟩
  have HS2 := hidMk (HS.out.next hb2)
  clear hb2
  go_wp2_with fail
  exact bepart18 HT.out HSO.out HFO.out HS2.out HA.out ⟨rfl, rfl⟩
set_option maxHeartbeats 4000000 in
set_option maxRecDepth 1000000 in
theorem bepart16 {w0 w : World} {g4 g5 : Nat} {K X : Jb} {a oa la : Option Addr} {n c oc lc : Nat} {l : List Int} {sa : Option Addr} {sn sc : Nat} {ev : Int} {u0 u1 u2 u3 u6 u8 A0 A1 A2 A3 A4 A5 A7 A8 A9 Aa Ab Ac Ad Ae Af Ag Ah Ai Aj Ak Al Am An Ao Ap Aq Ar As At Au Av Aw Ax Ay Az C0 C1 C2 C3 C4 C5 C6 C7 C8 C9 Ca Cb Cc Cd Ce Cf Cg Ch Ci Cj Ck Cl Cm Cn Co Cp Cq Cr Cs Ct Cu Cv Cw Cx Cy Cz D0 D1 D2 D3 D4 D5 D6 D7 D8 D9 Da Db Dc Dd De Df Dg Dh Di Dj Dk Dl Dm Dn Do Dp Dq Dr Ds Dt Du Dv Dw Dx Dy Dz E0 E1 E2 E3 E4 E5 E6 E7 E8 E9 Ea Eb Ec Ed Ee Ef Eg Eh Ei Ej Ek El Em En Eo Ep Eq Er Es Et Eu Ev Ew Ex Ey Ez F0 F1 F2 F3 F4 F5 F6 F7 F8 F9 Fa Fb Fc Fd Fe Ff Fg Fh Fi Fj Fk Fl Fm Fn Fo Fp Fq Fr Fs Ft Fu Fv Fw Fx Fy Fz L0 L1 L2 L3 L4 L5 L6 L7 L8 L9 La Lb Lc Ld Le Lf Lg Lh Li Lj Lk Ll Lm Ln Lo Lp Lq Lr Ls Lt Lu Lv Lw Lx Ly Lz M0 M1 M2 M3 M4 M5 M6 M7 M8 M9 Ma Mb Mc Md Me Mf Mg Mh Mi Mj Mk Ml Mm Mn Mo Mp Mq Mr Ms Mt Mu Mv Mw Mx My Mz N0 : Value} (htun : TunOK) (hshort : ShortOK) (hfine : FineOK) (hs : BW w0 g4 g5 K X a n c oa oc la l w) (hf0 : FewS K sn ev) : Code.wp Try.prog berest16 (QBE w0) ⟨#[u0, u1, u2, u3, (.pointer (some ⟨g4, 0, none⟩)), (.pointer (some ⟨g5, 0, none⟩)), u6, (.slice la l.length lc), u8, (.int .i64 ev), A0, A1, A2, A3, A4, A5, (.slice sa sn sc), A7, A8, A9, Aa, Ab, Ac, Ad, Ae, Af, Ag, Ah, Ai, Aj, Ak, Al, Am, An, Ao, Ap, Aq, Ar, As, At, Au, Av, Aw, Ax, Ay, Az, C0, C1, C2, C3, C4, C5, C6, C7, C8, C9, Ca, Cb, Cc, Cd, Ce, Cf, Cg, Ch, Ci, Cj, Ck, Cl, Cm, Cn, Co, Cp, Cq, Cr, Cs, Ct, Cu, Cv, Cw, Cx, Cy, Cz, D0, D1, D2, D3, D4, D5, D6, D7, D8, D9, Da, Db, Dc, Dd, De, Df, Dg, Dh, Di, Dj, Dk, Dl, Dm, Dn, Do, Dp, Dq, Dr, Ds, Dt, Du, Dv, Dw, Dx, Dy, Dz, E0, E1, E2, E3, E4, E5, E6, E7, E8, E9, Ea, Eb, Ec, Ed, Ee, Ef, Eg, Eh, Ei, Ej, Ek, El, Em, En, Eo, Ep, Eq, Er, Es, Et, Eu, Ev, Ew, Ex, Ey, Ez, F0, F1, F2, F3, F4, F5, F6, F7, F8, F9, Fa, Fb, Fc, Fd, Fe, Ff, Fg, Fh, Fi, Fj, Fk, Fl, Fm, Fn, Fo, Fp, Fq, Fr, Fs, Ft, Fu, Fv, Fw, Fx, Fy, Fz, L0, L1, L2, L3, L4, L5, L6, L7, L8, L9, La, Lb, Lc, Ld, Le, Lf, Lg, Lh, Li, Lj, Lk, Ll, Lm, Ln, Lo, Lp, Lq, Lr, Ls, Lt, Lu, Lv, Lw, Lx, Ly, Lz, M0, M1, M2, M3, M4, M5, M6, M7, M8, M9, Ma, Mb, Mc, Md, Me, Mf, Mg, Mh, Mi, Mj, Mk, Ml, Mm, Mn, Mo, Mp, Mq, Mr, Ms, Mt, Mu, Mv, Mw, Mx, My, Mz, N0], []⟩ w := by
  rw [berest16_eq]
  have HS := hidMk hs
  have HT := hidMk htun
  have HSO := hidMk hshort
  have HFO := hidMk hfine
  clear hs htun hshort hfine
  have hnm := HS.out.nm
  have HF := hidMk hf0
  clear hf0
  go_wp2_with (refine wpList_load_row rfl 30 _ rfl g5 rfl _ (jobC X (.slice oa n oc)) _ _ HS.out.j5 Try.underlying30 rfl szJob ?_)
  refine (HSO.out X oa n oc _ HS.out.ck5 HS.out.hn5 hnm HS.out.r5).mono ?_
  rintro e w2 hq
  obtain ⟨⟨ta, tn, tc, fv, rfl, hf⟩, hb2⟩ := few_of hq
  have HS2 := hidMk (HS.out.next hb2)
  have HA := hidMk (few_nar HS.out.up5 HS.out.na HF.out hf)
  clear hb2 hq hf
  go_wp2_with fail
  exact bepart17 HT.out HSO.out HFO.out HS2.out HA.out
set_option maxHeartbeats 4000000 in
set_option maxRecDepth 1000000 in
theorem bepart15 {w0 w : World} {g4 g5 : Nat} {K X : Jb} {a oa la : Option Addr} {n c oc lc : Nat} {l : List Int} {u0 u1 u2 u3 u6 u8 u9 A0 A1 A2 A3 A4 A5 A6 A7 A8 A9 Aa Ab Ac Ad Ae Af Ag Ah Ai Aj Ak Al Am An Ao Ap Aq Ar As At Au Av Aw Ax Ay Az C0 C1 C2 C3 C4 C5 C6 C7 C8 C9 Ca Cb Cc Cd Ce Cf Cg Ch Ci Cj Ck Cl Cm Cn Co Cp Cq Cr Cs Ct Cu Cv Cw Cx Cy Cz D0 D1 D2 D3 D4 D5 D6 D7 D8 D9 Da Db Dc Dd De Df Dg Dh Di Dj Dk Dl Dm Dn Do Dp Dq Dr Ds Dt Du Dv Dw Dx Dy Dz E0 E1 E2 E3 E4 E5 E6 E7 E8 E9 Ea Eb Ec Ed Ee Ef Eg Eh Ei Ej Ek El Em En Eo Ep Eq Er Es Et Eu Ev Ew Ex Ey Ez F0 F1 F2 F3 F4 F5 F6 F7 F8 F9 Fa Fb Fc Fd Fe Ff Fg Fh Fi Fj Fk Fl Fm Fn Fo Fp Fq Fr Fs Ft Fu Fv Fw Fx Fy Fz L0 L1 L2 L3 L4 L5 L6 L7 L8 L9 La Lb Lc Ld Le Lf Lg Lh Li Lj Lk Ll Lm Ln Lo Lp Lq Lr Ls Lt Lu Lv Lw Lx Ly Lz M0 M1 M2 M3 M4 M5 M6 M7 M8 M9 Ma Mb Mc Md Me Mf Mg Mh Mi Mj Mk Ml Mm Mn Mo Mp Mq Mr Ms Mt Mu Mv Mw Mx My Mz N0 : Value} (htun : TunOK) (hshort : ShortOK) (hfine : FineOK) (hs : BW w0 g4 g5 K X a n c oa oc la l w) : Code.wp Try.prog berest15 (QBE w0) ⟨#[u0, u1, u2, u3, (.pointer (some ⟨g4, 0, none⟩)), (.pointer (some ⟨g5, 0, none⟩)), u6, (.slice la l.length lc), u8, u9, A0, A1, A2, A3, A4, A5, A6, A7, A8, A9, Aa, Ab, Ac, Ad, Ae, Af, Ag, Ah, Ai, Aj, Ak, Al, Am, An, Ao, Ap, Aq, Ar, As, At, Au, Av, Aw, Ax, Ay, Az, C0, C1, C2, C3, C4, C5, C6, C7, C8, C9, Ca, Cb, Cc, Cd, Ce, Cf, Cg, Ch, Ci, Cj, Ck, Cl, Cm, Cn, Co, Cp, Cq, Cr, Cs, Ct, Cu, Cv, Cw, Cx, Cy, Cz, D0, D1, D2, D3, D4, D5, D6, D7, D8, D9, Da, Db, Dc, Dd, De, Df, Dg, Dh, Di, Dj, Dk, Dl, Dm, Dn, Do, Dp, Dq, Dr, Ds, Dt, Du, Dv, Dw, Dx, Dy, Dz, E0, E1, E2, E3, E4, E5, E6, E7, E8, E9, Ea, Eb, Ec, Ed, Ee, Ef, Eg, Eh, Ei, Ej, Ek, El, Em, En, Eo, Ep, Eq, Er, Es, Et, Eu, Ev, Ew, Ex, Ey, Ez, F0, F1, F2, F3, F4, F5, F6, F7, F8, F9, Fa, Fb, Fc, Fd, Fe, Ff, Fg, Fh, Fi, Fj, Fk, Fl, Fm, Fn, Fo, Fp, Fq, Fr, Fs, Ft, Fu, Fv, Fw, Fx, Fy, Fz, L0, L1, L2, L3, L4, L5, L6, L7, L8, L9, La, Lb, Lc, Ld, Le, Lf, Lg, Lh, Li, Lj, Lk, Ll, Lm, Ln, Lo, Lp, Lq, Lr, Ls, Lt, Lu, Lv, Lw, Lx, Ly, Lz, M0, M1, M2, M3, M4, M5, M6, M7, M8, M9, Ma, Mb, Mc, Md, Me, Mf, Mg, Mh, Mi, Mj, Mk, Ml, Mm, Mn, Mo, Mp, Mq, Mr, Ms, Mt, Mu, Mv, Mw, Mx, My, Mz, N0], []⟩ w := by
  rw [berest15_eq]
  have HS := hidMk hs
  have HT := hidMk htun
  have HSO := hidMk hshort
  have HFO := hidMk hfine
  clear hs htun hshort hfine
  have hnm := HS.out.nm
  go_wp2_with (refine wpList_load_row rfl 30 _ rfl g4 rfl _ (jobC K (.slice a n c)) _ _ HS.out.j4 Try.underlying30 rfl szJob ?_)
  refine (HSO.out K a n c _ HS.out.ck HS.out.hn hnm HS.out.r4).mono ?_
  rintro e w2 hq
  obtain ⟨⟨ta, tn, tc, fv, rfl, hf⟩, hb2⟩ := few_of hq
  have HS2 := hidMk (HS.out.next hb2)
  have HF := hidMk hf
  clear hb2 hq hf
  go_wp2_with fail
  exact bepart16 HT.out HSO.out HFO.out HS2.out HF.out
end Go.Proofs.Ytbebofmpimfbgaa
/- The law ReedBetter: verdicts. -/
namespace Go.Proofs.Ytbebofmpimfbgaa
set_option linter.all false
open Go.RowKit
set_option maxHeartbeats 4000000 in
set_option maxRecDepth 1000000 in
theorem bepart14 {w0 w : World} {g4 g5 : Nat} {K X : Jb} {a oa la : Option Addr} {n c oc lc : Nat} {l : List Int} {av bv cv dv : Int} {u0 u1 u2 u3 u6 A6 A7 A8 A9 Aa Ab Ac Ad Ae Af Ag Ah Ai Aj Ak Al Am An Ao Ap Aq Ar As At Au Av Aw Ax Ay Az C0 C1 C2 C3 C4 C5 C6 C7 C8 C9 Ca Cb Cc Cd Ce Cf Cg Ch Ci Cj Ck Cl Cm Cn Co Cp Cq Cr Cs Ct Cu Cv Cw Cx Cy Cz D0 D1 D2 D3 D4 D5 D6 D7 D8 D9 Da Db Dc Dd De Df Dg Dh Di Dj Dk Dl Dm Dn Do Dp Dq Dr Ds Dt Du Dv Dw Dx Dy Dz E0 E1 E2 E3 E4 E5 E6 E7 E8 E9 Ea Eb Ec Ed Ee Ef Eg Eh Ei Ej Ek El Em En Eo Ep Eq Er Es Et Eu Ev Ew Ex Ey Ez F0 F1 F2 F3 F4 F5 F6 F7 F8 F9 Fa Fb Fc Fd Fe Ff Fg Fh Fi Fj Fk Fl Fm Fn Fo Fp Fq Fr Fs Ft Fu Fv Fw Fx Fy Fz L0 L1 L2 L3 L4 L5 L6 L7 L8 L9 La Lb Lc Ld Le Lf Lg Lh Li Lj Lk Ll Lm Ln Lo Lp Lq Lr Ls Lt Lu Lv Lw Lx Ly Lz M0 M1 M2 M3 M4 M5 M6 M7 M8 M9 Ma Mb Mc Md Me Mf Mg Mh Mi Mj Mk Ml Mm Mn Mo Mp Mq Mr Ms Mt Mu Mv Mw Mx My Mz N0 : Value} (htun : TunOK) (hshort : ShortOK) (hfine : FineOK) (hs : BW w0 g4 g5 K X a n c oa oc la l w) (hb : av ≠ 3 → bv = av) (hd : cv ≠ 3 → dv = cv) : Code.wp Try.prog berest14 (QBE w0) ⟨#[u0, u1, u2, u3, (.pointer (some ⟨g4, 0, none⟩)), (.pointer (some ⟨g5, 0, none⟩)), u6, (.slice la l.length lc), (.int .i64 av), (.int .i64 0), (.int .i64 bv), (.int .i64 0), (.int .i64 cv), (.int .i64 0), (.int .i64 dv), (.int .i64 0), A6, A7, A8, A9, Aa, Ab, Ac, Ad, Ae, Af, Ag, Ah, Ai, Aj, Ak, Al, Am, An, Ao, Ap, Aq, Ar, As, At, Au, Av, Aw, Ax, Ay, Az, C0, C1, C2, C3, C4, C5, C6, C7, C8, C9, Ca, Cb, Cc, Cd, Ce, Cf, Cg, Ch, Ci, Cj, Ck, Cl, Cm, Cn, Co, Cp, Cq, Cr, Cs, Ct, Cu, Cv, Cw, Cx, Cy, Cz, D0, D1, D2, D3, D4, D5, D6, D7, D8, D9, Da, Db, Dc, Dd, De, Df, Dg, Dh, Di, Dj, Dk, Dl, Dm, Dn, Do, Dp, Dq, Dr, Ds, Dt, Du, Dv, Dw, Dx, Dy, Dz, E0, E1, E2, E3, E4, E5, E6, E7, E8, E9, Ea, Eb, Ec, Ed, Ee, Ef, Eg, Eh, Ei, Ej, Ek, El, Em, En, Eo, Ep, Eq, Er, Es, Et, Eu, Ev, Ew, Ex, Ey, Ez, F0, F1, F2, F3, F4, F5, F6, F7, F8, F9, Fa, Fb, Fc, Fd, Fe, Ff, Fg, Fh, Fi, Fj, Fk, Fl, Fm, Fn, Fo, Fp, Fq, Fr, Fs, Ft, Fu, Fv, Fw, Fx, Fy, Fz, L0, L1, L2, L3, L4, L5, L6, L7, L8, L9, La, Lb, Lc, Ld, Le, Lf, Lg, Lh, Li, Lj, Lk, Ll, Lm, Ln, Lo, Lp, Lq, Lr, Ls, Lt, Lu, Lv, Lw, Lx, Ly, Lz, M0, M1, M2, M3, M4, M5, M6, M7, M8, M9, Ma, Mb, Mc, Md, Me, Mf, Mg, Mh, Mi, Mj, Mk, Ml, Mm, Mn, Mo, Mp, Mq, Mr, Ms, Mt, Mu, Mv, Mw, Mx, My, Mz, N0], []⟩ w := by
  rw [berest14_eq]
  have HS := hidMk hs
  have HT := hidMk htun
  have HSO := hidMk hshort
  have HFO := hidMk hfine
  clear hs htun hshort hfine
  have hnm := HS.out.nm
  clear hnm
  by_cases a3 : av = 3
  · subst a3
    by_cases c3 : cv = 3
    · subst c3
      go_wp2_with fail
      exact bepart15 HT.out HSO.out HFO.out HS.out
    · have cb : (cv != 3) = true := by simp [c3]
      obtain rfl := hd c3
      clear hd hb c3
      have cc : (dv != dv) = false := by simp
      go_wp2_with fail
      exact bepart15 HT.out HSO.out HFO.out HS.out
  · have ab : (av != 3) = true := by simp [a3]
    obtain rfl := hb a3
    have aa : (bv != bv) = false := by simp
    clear a3
    by_cases c3 : cv = 3
    · subst c3
      go_wp2_with fail
      exact bepart15 HT.out HSO.out HFO.out HS.out
    · have cb : (cv != 3) = true := by simp [c3]
      obtain rfl := hd c3
      clear hd hb c3
      have cc : (dv != dv) = false := by simp
      go_wp2_with fail
      exact bepart15 HT.out HSO.out HFO.out HS.out
end Go.Proofs.Ytbebofmpimfbgaa
/- The law ReedBetter: what strokes do. -/
namespace Go.Proofs.Ytbebofmpimfbgaa
set_option linter.all false
open Go.RowKit
theorem fine_0 {K : Jb} {l : List Int} (h : filedE K l = 0) : fineX K l = (fineI K (afterS K K.tg l), 0) := by unfold fineX; rw [if_pos h]
set_option maxHeartbeats 4000000 in
set_option maxRecDepth 1000000 in
theorem bepart13 {w0 w : World} {g4 g5 : Nat} {K X : Jb} {a oa la : Option Addr} {n c oc lc : Nat} {l : List Int} {av bv cv : Int} {u0 u1 u2 u3 u6 A4 A5 A6 A7 A8 A9 Aa Ab Ac Ad Ae Af Ag Ah Ai Aj Ak Al Am An Ao Ap Aq Ar As At Au Av Aw Ax Ay Az C0 C1 C2 C3 C4 C5 C6 C7 C8 C9 Ca Cb Cc Cd Ce Cf Cg Ch Ci Cj Ck Cl Cm Cn Co Cp Cq Cr Cs Ct Cu Cv Cw Cx Cy Cz D0 D1 D2 D3 D4 D5 D6 D7 D8 D9 Da Db Dc Dd De Df Dg Dh Di Dj Dk Dl Dm Dn Do Dp Dq Dr Ds Dt Du Dv Dw Dx Dy Dz E0 E1 E2 E3 E4 E5 E6 E7 E8 E9 Ea Eb Ec Ed Ee Ef Eg Eh Ei Ej Ek El Em En Eo Ep Eq Er Es Et Eu Ev Ew Ex Ey Ez F0 F1 F2 F3 F4 F5 F6 F7 F8 F9 Fa Fb Fc Fd Fe Ff Fg Fh Fi Fj Fk Fl Fm Fn Fo Fp Fq Fr Fs Ft Fu Fv Fw Fx Fy Fz L0 L1 L2 L3 L4 L5 L6 L7 L8 L9 La Lb Lc Ld Le Lf Lg Lh Li Lj Lk Ll Lm Ln Lo Lp Lq Lr Ls Lt Lu Lv Lw Lx Ly Lz M0 M1 M2 M3 M4 M5 M6 M7 M8 M9 Ma Mb Mc Md Me Mf Mg Mh Mi Mj Mk Ml Mm Mn Mo Mp Mq Mr Ms Mt Mu Mv Mw Mx My Mz N0 : Value} (htun : TunOK) (hshort : ShortOK) (hfine : FineOK) (hs : BW w0 g4 g5 K X a n c oa oc la l w) (hb : av ≠ 3 → bv = av) (hk : cv = spoilI K.le (afterS K K.tg l)) : Code.wp Try.prog berest13 (QBE w0) ⟨#[u0, u1, u2, u3, (.pointer (some ⟨g4, 0, none⟩)), (.pointer (some ⟨g5, 0, none⟩)), u6, (.slice la l.length lc), (.int .i64 av), (.int .i64 0), (.int .i64 bv), (.int .i64 0), (.int .i64 cv), (.int .i64 0), A4, A5, A6, A7, A8, A9, Aa, Ab, Ac, Ad, Ae, Af, Ag, Ah, Ai, Aj, Ak, Al, Am, An, Ao, Ap, Aq, Ar, As, At, Au, Av, Aw, Ax, Ay, Az, C0, C1, C2, C3, C4, C5, C6, C7, C8, C9, Ca, Cb, Cc, Cd, Ce, Cf, Cg, Ch, Ci, Cj, Ck, Cl, Cm, Cn, Co, Cp, Cq, Cr, Cs, Ct, Cu, Cv, Cw, Cx, Cy, Cz, D0, D1, D2, D3, D4, D5, D6, D7, D8, D9, Da, Db, Dc, Dd, De, Df, Dg, Dh, Di, Dj, Dk, Dl, Dm, Dn, Do, Dp, Dq, Dr, Ds, Dt, Du, Dv, Dw, Dx, Dy, Dz, E0, E1, E2, E3, E4, E5, E6, E7, E8, E9, Ea, Eb, Ec, Ed, Ee, Ef, Eg, Eh, Ei, Ej, Ek, El, Em, En, Eo, Ep, Eq, Er, Es, Et, Eu, Ev, Ew, Ex, Ey, Ez, F0, F1, F2, F3, F4, F5, F6, F7, F8, F9, Fa, Fb, Fc, Fd, Fe, Ff, Fg, Fh, Fi, Fj, Fk, Fl, Fm, Fn, Fo, Fp, Fq, Fr, Fs, Ft, Fu, Fv, Fw, Fx, Fy, Fz, L0, L1, L2, L3, L4, L5, L6, L7, L8, L9, La, Lb, Lc, Ld, Le, Lf, Lg, Lh, Li, Lj, Lk, Ll, Lm, Ln, Lo, Lp, Lq, Lr, Ls, Lt, Lu, Lv, Lw, Lx, Ly, Lz, M0, M1, M2, M3, M4, M5, M6, M7, M8, M9, Ma, Mb, Mc, Md, Me, Mf, Mg, Mh, Mi, Mj, Mk, Ml, Mm, Mn, Mo, Mp, Mq, Mr, Ms, Mt, Mu, Mv, Mw, Mx, My, Mz, N0], []⟩ w := by
  rw [berest13_eq]
  have HS := hidMk hs
  have HT := hidMk htun
  have HSO := hidMk hshort
  have HFO := hidMk hfine
  clear hs htun hshort hfine
  have hnm := HS.out.nm
  have HB := hidMk hb
  have HK := hidMk hk
  clear hb hk
  go_wp2_with (refine wpList_load_row rfl 30 _ rfl g5 rfl _ (jobC X (.slice oa n oc)) _ _ HS.out.j5 Try.underlying30 rfl szJob ?_)
  refine (spoiledL_ok X l HS.out.fl5 oa n oc la l.length lc _ HS.out.hn5 hnm HS.out.r5 rfl (by have := HS.out.l4; omega) HS.out.il).mono ?_
  rintro e w2 ⟨rfl, hb2⟩
  have HS2 := hidMk (HS.out.next hb2)
  have hd : cv ≠ 3 → spoilI X.le (afterS X X.tg l) = cv := by
    intro h
    rw [HK.out] at h ⊢
    rw [HS.out.na.le]
    exact nt_spoil (nt_after HS.out.na l ⟨HS.out.na.p, HS.out.na.t, HS.out.na.r⟩) h
  have HD := hidMk hd
  clear hb2 hd
  go_wp2_with fail
  exact bepart14 HT.out HSO.out HFO.out HS2.out HB.out HD.out
set_option maxHeartbeats 4000000 in
set_option maxRecDepth 1000000 in
theorem bepart12 {w0 w : World} {g4 g5 : Nat} {K X : Jb} {a oa la : Option Addr} {n c oc lc : Nat} {l : List Int} {av bv : Int} {u0 u1 u2 u3 u6 A2 A3 A4 A5 A6 A7 A8 A9 Aa Ab Ac Ad Ae Af Ag Ah Ai Aj Ak Al Am An Ao Ap Aq Ar As At Au Av Aw Ax Ay Az C0 C1 C2 C3 C4 C5 C6 C7 C8 C9 Ca Cb Cc Cd Ce Cf Cg Ch Ci Cj Ck Cl Cm Cn Co Cp Cq Cr Cs Ct Cu Cv Cw Cx Cy Cz D0 D1 D2 D3 D4 D5 D6 D7 D8 D9 Da Db Dc Dd De Df Dg Dh Di Dj Dk Dl Dm Dn Do Dp Dq Dr Ds Dt Du Dv Dw Dx Dy Dz E0 E1 E2 E3 E4 E5 E6 E7 E8 E9 Ea Eb Ec Ed Ee Ef Eg Eh Ei Ej Ek El Em En Eo Ep Eq Er Es Et Eu Ev Ew Ex Ey Ez F0 F1 F2 F3 F4 F5 F6 F7 F8 F9 Fa Fb Fc Fd Fe Ff Fg Fh Fi Fj Fk Fl Fm Fn Fo Fp Fq Fr Fs Ft Fu Fv Fw Fx Fy Fz L0 L1 L2 L3 L4 L5 L6 L7 L8 L9 La Lb Lc Ld Le Lf Lg Lh Li Lj Lk Ll Lm Ln Lo Lp Lq Lr Ls Lt Lu Lv Lw Lx Ly Lz M0 M1 M2 M3 M4 M5 M6 M7 M8 M9 Ma Mb Mc Md Me Mf Mg Mh Mi Mj Mk Ml Mm Mn Mo Mp Mq Mr Ms Mt Mu Mv Mw Mx My Mz N0 : Value} (htun : TunOK) (hshort : ShortOK) (hfine : FineOK) (hs : BW w0 g4 g5 K X a n c oa oc la l w) (hb : av ≠ 3 → bv = av) : Code.wp Try.prog berest12 (QBE w0) ⟨#[u0, u1, u2, u3, (.pointer (some ⟨g4, 0, none⟩)), (.pointer (some ⟨g5, 0, none⟩)), u6, (.slice la l.length lc), (.int .i64 av), (.int .i64 0), (.int .i64 bv), (.int .i64 0), A2, A3, A4, A5, A6, A7, A8, A9, Aa, Ab, Ac, Ad, Ae, Af, Ag, Ah, Ai, Aj, Ak, Al, Am, An, Ao, Ap, Aq, Ar, As, At, Au, Av, Aw, Ax, Ay, Az, C0, C1, C2, C3, C4, C5, C6, C7, C8, C9, Ca, Cb, Cc, Cd, Ce, Cf, Cg, Ch, Ci, Cj, Ck, Cl, Cm, Cn, Co, Cp, Cq, Cr, Cs, Ct, Cu, Cv, Cw, Cx, Cy, Cz, D0, D1, D2, D3, D4, D5, D6, D7, D8, D9, Da, Db, Dc, Dd, De, Df, Dg, Dh, Di, Dj, Dk, Dl, Dm, Dn, Do, Dp, Dq, Dr, Ds, Dt, Du, Dv, Dw, Dx, Dy, Dz, E0, E1, E2, E3, E4, E5, E6, E7, E8, E9, Ea, Eb, Ec, Ed, Ee, Ef, Eg, Eh, Ei, Ej, Ek, El, Em, En, Eo, Ep, Eq, Er, Es, Et, Eu, Ev, Ew, Ex, Ey, Ez, F0, F1, F2, F3, F4, F5, F6, F7, F8, F9, Fa, Fb, Fc, Fd, Fe, Ff, Fg, Fh, Fi, Fj, Fk, Fl, Fm, Fn, Fo, Fp, Fq, Fr, Fs, Ft, Fu, Fv, Fw, Fx, Fy, Fz, L0, L1, L2, L3, L4, L5, L6, L7, L8, L9, La, Lb, Lc, Ld, Le, Lf, Lg, Lh, Li, Lj, Lk, Ll, Lm, Ln, Lo, Lp, Lq, Lr, Ls, Lt, Lu, Lv, Lw, Lx, Ly, Lz, M0, M1, M2, M3, M4, M5, M6, M7, M8, M9, Ma, Mb, Mc, Md, Me, Mf, Mg, Mh, Mi, Mj, Mk, Ml, Mm, Mn, Mo, Mp, Mq, Mr, Ms, Mt, Mu, Mv, Mw, Mx, My, Mz, N0], []⟩ w := by
  rw [berest12_eq]
  have HS := hidMk hs
  have HT := hidMk htun
  have HSO := hidMk hshort
  have HFO := hidMk hfine
  clear hs htun hshort hfine
  have hnm := HS.out.nm
  have HB := hidMk hb
  clear hb
  go_wp2_with (refine wpList_load_row rfl 30 _ rfl g4 rfl _ (jobC K (.slice a n c)) _ _ HS.out.j4 Try.underlying30 rfl szJob ?_)
  refine (spoiledL_ok K l HS.out.fl a n c la l.length lc _ HS.out.hn hnm HS.out.r4 rfl (by have := HS.out.l4; omega) HS.out.il).mono ?_
  rintro e w2 ⟨rfl, hb2⟩
  have HS2 := hidMk (HS.out.next hb2)
  clear hb2
  go_wp2_with fail
  exact bepart13 HT.out HSO.out HFO.out HS2.out HB.out rfl
set_option maxHeartbeats 4000000 in
set_option maxRecDepth 1000000 in
theorem bepart11 {w0 w : World} {g4 g5 : Nat} {K X : Jb} {a oa la : Option Addr} {n c oc lc : Nat} {l : List Int} {av : Int} {u0 u1 u2 u3 u6 A0 A1 A2 A3 A4 A5 A6 A7 A8 A9 Aa Ab Ac Ad Ae Af Ag Ah Ai Aj Ak Al Am An Ao Ap Aq Ar As At Au Av Aw Ax Ay Az C0 C1 C2 C3 C4 C5 C6 C7 C8 C9 Ca Cb Cc Cd Ce Cf Cg Ch Ci Cj Ck Cl Cm Cn Co Cp Cq Cr Cs Ct Cu Cv Cw Cx Cy Cz D0 D1 D2 D3 D4 D5 D6 D7 D8 D9 Da Db Dc Dd De Df Dg Dh Di Dj Dk Dl Dm Dn Do Dp Dq Dr Ds Dt Du Dv Dw Dx Dy Dz E0 E1 E2 E3 E4 E5 E6 E7 E8 E9 Ea Eb Ec Ed Ee Ef Eg Eh Ei Ej Ek El Em En Eo Ep Eq Er Es Et Eu Ev Ew Ex Ey Ez F0 F1 F2 F3 F4 F5 F6 F7 F8 F9 Fa Fb Fc Fd Fe Ff Fg Fh Fi Fj Fk Fl Fm Fn Fo Fp Fq Fr Fs Ft Fu Fv Fw Fx Fy Fz L0 L1 L2 L3 L4 L5 L6 L7 L8 L9 La Lb Lc Ld Le Lf Lg Lh Li Lj Lk Ll Lm Ln Lo Lp Lq Lr Ls Lt Lu Lv Lw Lx Ly Lz M0 M1 M2 M3 M4 M5 M6 M7 M8 M9 Ma Mb Mc Md Me Mf Mg Mh Mi Mj Mk Ml Mm Mn Mo Mp Mq Mr Ms Mt Mu Mv Mw Mx My Mz N0 : Value} (htun : TunOK) (hshort : ShortOK) (hfine : FineOK) (hs : BW w0 g4 g5 K X a n c oa oc la l w) (hk : av = fineI K (afterS K K.tg l)) : Code.wp Try.prog berest11 (QBE w0) ⟨#[u0, u1, u2, u3, (.pointer (some ⟨g4, 0, none⟩)), (.pointer (some ⟨g5, 0, none⟩)), u6, (.slice la l.length lc), (.int .i64 av), (.int .i64 0), A0, A1, A2, A3, A4, A5, A6, A7, A8, A9, Aa, Ab, Ac, Ad, Ae, Af, Ag, Ah, Ai, Aj, Ak, Al, Am, An, Ao, Ap, Aq, Ar, As, At, Au, Av, Aw, Ax, Ay, Az, C0, C1, C2, C3, C4, C5, C6, C7, C8, C9, Ca, Cb, Cc, Cd, Ce, Cf, Cg, Ch, Ci, Cj, Ck, Cl, Cm, Cn, Co, Cp, Cq, Cr, Cs, Ct, Cu, Cv, Cw, Cx, Cy, Cz, D0, D1, D2, D3, D4, D5, D6, D7, D8, D9, Da, Db, Dc, Dd, De, Df, Dg, Dh, Di, Dj, Dk, Dl, Dm, Dn, Do, Dp, Dq, Dr, Ds, Dt, Du, Dv, Dw, Dx, Dy, Dz, E0, E1, E2, E3, E4, E5, E6, E7, E8, E9, Ea, Eb, Ec, Ed, Ee, Ef, Eg, Eh, Ei, Ej, Ek, El, Em, En, Eo, Ep, Eq, Er, Es, Et, Eu, Ev, Ew, Ex, Ey, Ez, F0, F1, F2, F3, F4, F5, F6, F7, F8, F9, Fa, Fb, Fc, Fd, Fe, Ff, Fg, Fh, Fi, Fj, Fk, Fl, Fm, Fn, Fo, Fp, Fq, Fr, Fs, Ft, Fu, Fv, Fw, Fx, Fy, Fz, L0, L1, L2, L3, L4, L5, L6, L7, L8, L9, La, Lb, Lc, Ld, Le, Lf, Lg, Lh, Li, Lj, Lk, Ll, Lm, Ln, Lo, Lp, Lq, Lr, Ls, Lt, Lu, Lv, Lw, Lx, Ly, Lz, M0, M1, M2, M3, M4, M5, M6, M7, M8, M9, Ma, Mb, Mc, Md, Me, Mf, Mg, Mh, Mi, Mj, Mk, Ml, Mm, Mn, Mo, Mp, Mq, Mr, Ms, Mt, Mu, Mv, Mw, Mx, My, Mz, N0], []⟩ w := by
  rw [berest11_eq]
  have HS := hidMk hs
  have HT := hidMk htun
  have HSO := hidMk hshort
  have HFO := hidMk hfine
  clear hs htun hshort hfine
  have hnm := HS.out.nm
  have HK := hidMk hk
  clear hk
  go_wp2_with (refine wpList_load_row rfl 30 _ rfl g5 rfl _ (jobC X (.slice oa n oc)) _ _ HS.out.j5 Try.underlying30 rfl szJob ?_)
  refine (fineF_any HFO.out X oa n oc la l.length lc l _ HS.out.hn5 hnm HS.out.r5 rfl (by have := HS.out.l4; omega) HS.out.il).mono ?_
  rintro e w2 ⟨rfl, hb2⟩
  have HS2 := hidMk (HS.out.next hb2)
  rw [fine_0 HS.out.fl5]
  have hb : av ≠ 3 → fineI X (afterS X X.tg l) = av := by
    intro h
    rw [HK.out] at h ⊢
    exact nt_fineS HS.out.up5 HS.out.na l h
  have HB := hidMk hb
  clear hb2 hb
  go_wp2_with fail
  exact bepart12 HT.out HSO.out HFO.out HS2.out HB.out
set_option maxHeartbeats 4000000 in
set_option maxRecDepth 1000000 in
theorem bepart10 {w0 w : World} {g4 g5 : Nat} {K X : Jb} {a oa la : Option Addr} {n c oc lc : Nat} {l : List Int} {u0 u1 u2 u3 u6 u8 u9 A0 A1 A2 A3 A4 A5 A6 A7 A8 A9 Aa Ab Ac Ad Ae Af Ag Ah Ai Aj Ak Al Am An Ao Ap Aq Ar As At Au Av Aw Ax Ay Az C0 C1 C2 C3 C4 C5 C6 C7 C8 C9 Ca Cb Cc Cd Ce Cf Cg Ch Ci Cj Ck Cl Cm Cn Co Cp Cq Cr Cs Ct Cu Cv Cw Cx Cy Cz D0 D1 D2 D3 D4 D5 D6 D7 D8 D9 Da Db Dc Dd De Df Dg Dh Di Dj Dk Dl Dm Dn Do Dp Dq Dr Ds Dt Du Dv Dw Dx Dy Dz E0 E1 E2 E3 E4 E5 E6 E7 E8 E9 Ea Eb Ec Ed Ee Ef Eg Eh Ei Ej Ek El Em En Eo Ep Eq Er Es Et Eu Ev Ew Ex Ey Ez F0 F1 F2 F3 F4 F5 F6 F7 F8 F9 Fa Fb Fc Fd Fe Ff Fg Fh Fi Fj Fk Fl Fm Fn Fo Fp Fq Fr Fs Ft Fu Fv Fw Fx Fy Fz L0 L1 L2 L3 L4 L5 L6 L7 L8 L9 La Lb Lc Ld Le Lf Lg Lh Li Lj Lk Ll Lm Ln Lo Lp Lq Lr Ls Lt Lu Lv Lw Lx Ly Lz M0 M1 M2 M3 M4 M5 M6 M7 M8 M9 Ma Mb Mc Md Me Mf Mg Mh Mi Mj Mk Ml Mm Mn Mo Mp Mq Mr Ms Mt Mu Mv Mw Mx My Mz N0 : Value} (htun : TunOK) (hshort : ShortOK) (hfine : FineOK) (hs : BW w0 g4 g5 K X a n c oa oc la l w) : Code.wp Try.prog berest10 (QBE w0) ⟨#[u0, u1, u2, u3, (.pointer (some ⟨g4, 0, none⟩)), (.pointer (some ⟨g5, 0, none⟩)), u6, (.slice la l.length lc), u8, u9, A0, A1, A2, A3, A4, A5, A6, A7, A8, A9, Aa, Ab, Ac, Ad, Ae, Af, Ag, Ah, Ai, Aj, Ak, Al, Am, An, Ao, Ap, Aq, Ar, As, At, Au, Av, Aw, Ax, Ay, Az, C0, C1, C2, C3, C4, C5, C6, C7, C8, C9, Ca, Cb, Cc, Cd, Ce, Cf, Cg, Ch, Ci, Cj, Ck, Cl, Cm, Cn, Co, Cp, Cq, Cr, Cs, Ct, Cu, Cv, Cw, Cx, Cy, Cz, D0, D1, D2, D3, D4, D5, D6, D7, D8, D9, Da, Db, Dc, Dd, De, Df, Dg, Dh, Di, Dj, Dk, Dl, Dm, Dn, Do, Dp, Dq, Dr, Ds, Dt, Du, Dv, Dw, Dx, Dy, Dz, E0, E1, E2, E3, E4, E5, E6, E7, E8, E9, Ea, Eb, Ec, Ed, Ee, Ef, Eg, Eh, Ei, Ej, Ek, El, Em, En, Eo, Ep, Eq, Er, Es, Et, Eu, Ev, Ew, Ex, Ey, Ez, F0, F1, F2, F3, F4, F5, F6, F7, F8, F9, Fa, Fb, Fc, Fd, Fe, Ff, Fg, Fh, Fi, Fj, Fk, Fl, Fm, Fn, Fo, Fp, Fq, Fr, Fs, Ft, Fu, Fv, Fw, Fx, Fy, Fz, L0, L1, L2, L3, L4, L5, L6, L7, L8, L9, La, Lb, Lc, Ld, Le, Lf, Lg, Lh, Li, Lj, Lk, Ll, Lm, Ln, Lo, Lp, Lq, Lr, Ls, Lt, Lu, Lv, Lw, Lx, Ly, Lz, M0, M1, M2, M3, M4, M5, M6, M7, M8, M9, Ma, Mb, Mc, Md, Me, Mf, Mg, Mh, Mi, Mj, Mk, Ml, Mm, Mn, Mo, Mp, Mq, Mr, Ms, Mt, Mu, Mv, Mw, Mx, My, Mz, N0], []⟩ w := by
  rw [berest10_eq]
  have HS := hidMk hs
  have HT := hidMk htun
  have HSO := hidMk hshort
  have HFO := hidMk hfine
  clear hs htun hshort hfine
  have hnm := HS.out.nm
  go_wp2_with (refine wpList_load_row rfl 30 _ rfl g4 rfl _ (jobC K (.slice a n c)) _ _ HS.out.j4 Try.underlying30 rfl szJob ?_)
  refine (fineF_any HFO.out K a n c la l.length lc l _ HS.out.hn hnm HS.out.r4 rfl (by have := HS.out.l4; omega) HS.out.il).mono ?_
  rintro e w2 ⟨rfl, hb2⟩
  have HS2 := hidMk (HS.out.next hb2)
  rw [fine_0 HS.out.fl]
  clear hb2
  go_wp2_with fail
  exact bepart11 HT.out HSO.out HFO.out HS2.out rfl
end Go.Proofs.Ytbebofmpimfbgaa
/- Contract of StrokesOf. -/
namespace Go.Proofs.Ytbebofmpimfbgaa
set_option linter.all false
open Go.RowKit
theorem PB.grown {b : Nat} {w w' : World} (h : PB b w.heap.size w w') : w.grownBy w' (some b) := ⟨h.os, h.tape, h.output, h.size, fun k hk hb => h.heap k hk (fun e => hb (by rw [e]))⟩
theorem PB.grownTo {b B : Nat} {w w' w'' : World} {row : Option Nat} (h : PB b B w w') (hg : w'.grownBy w'' row) (hB : B ≤ w'.heap.size) (hr : ∀ g, row = some g → B ≤ g) : PB b B w w'' :=
  ⟨hg.os.trans h.os, hg.tape.trans h.tape, hg.output.trans h.output, Nat.le_trans h.size hg.size, fun k hk hb => (hg.block k (Nat.lt_of_lt_of_le hk hB) (fun e => by have := hr k e.symm; omega)).trans (h.heap k hk hb)⟩
theorem own_pb {b base e size n : Nat} {w w' : World} {v : Value} {xs : List Value} (h : w.ownsRow base e size v n xs) (hb : b < base) (hk : PB b w.heap.size w w') : w'.ownsRow base e size v n xs :=
  h.kept hk.grown (by
    cases hv : v.ownBlock with
    | none => exact .inl rfl
    | some g => exact .inr fun e => by have := (h.lt g hv).1; cases e; omega)
theorem infoInt : (Try.prog.info? 3).map (fun i => (i.zero, i.size, i.bytes)) = some (some (.int .i64 0), 1, 8) := by kernel_rfl
theorem news_one {W : World} {g : Nat} {t : TypeId} {x : Value} (h : Bk W g t #[x]) : ∀ j u, [x][j]? = some u → W.cell? ((⟨g, 0, none⟩ : Addr).add j) = some u := by
  intro j u hj
  have : (⟨g, 0, none⟩ : Addr).add j = ⟨g, j, none⟩ := by unfold Addr.add; split <;> simp_all
  rw [this]
  exact h.at_ j u (by simpa using hj)
theorem Is.of_own {w : World} {B e n : Nat} {v : Value} {l : List Int} (h : w.ownsRow B e 1 v n (l.map (Value.int .i64))) : ∃ a c, v = .slice a n c ∧ n = l.length ∧ Is w w.heap.size a l := by
  have hl := h.1
  simp only [List.length_map] at hl
  rcases h.2 with ⟨rfl, rfl⟩ | ⟨g, cap, cur, rfl, hb, hg, hnc, hcm, hcs, htk⟩
  · have e : l = [] := List.length_eq_zero_iff.1 (by omega)
    subst e
    exact ⟨none, 0, rfl, rfl, Is.nil _ _ _⟩
  · refine ⟨some ⟨g, 0, none⟩, cap, rfl, by omega, fun k x hk => ⟨g, 0, rfl, (Array.getElem?_eq_some_iff.1 hg).1, ?_⟩⟩
    have hkl := (List.getElem?_eq_some_iff.1 hk).1
    rw [cell_of_row w g (0 + k) cur e (0, 0) hg, Nat.zero_add, ← Array.getElem?_toList]
    have h1 : (cur.toList.take (n * 1))[k]? = some (.int .i64 x) := by rw [htk]; simp [hk]
    rw [List.getElem?_take_of_lt (by omega)] at h1
    exact h1
set_option maxHeartbeats 2000000 in
set_option maxRecDepth 100000 in
theorem strokesN_any (M : Int) (hM : 0 ≤ M ∧ M ≤ 6) (b : Nat) (w : World) (hp : Pt w b) :
    Calls Try.prog 26 #[.pointer (some ⟨b, 0, none⟩), .int .i64 M] w fun e w' => ∃ (a : Option Addr) (n c : Nat) (l : List Int), e = .returned (.slice a n c) ∧ n = l.length ∧ (n : Int) ≤ M ∧ (∀ x ∈ l, x = 1 ∨ x = 2) ∧ Is w' w'.heap.size a l ∧ PB b w.heap.size w w' ∧ Pt w' b := by
  have hlt := hp.lt
  obtain ⟨i0, hi, hz0, hz1, hz2⟩ := info_parts infoInt
  have Hi : Hid (Try.prog.info? 3 = some i0) := hi
  have Hz0 : Hid (i0.zero = some (.int .i64 0)) := hz0
  have Hz1 : Hid (i0.size = 1) := hz1
  have Hz2 : Hid (i0.bytes = 8) := hz2
  clear hi hz0 hz1 hz2
  go_enter Try.func26, Try.ntmps26
  go_wp2_with fail
  refine (uptoP b M _ hp (by omega)).mono ?_
  rintro e w1 ⟨m, rfl, ⟨hm1, hm2⟩, hk1, hp1⟩
  go_wp2_with fail
  have hz1 := hk1.size
  have hlt1 := hp1.lt
  go_loopw [5, 6] (fun v i wr => ∃ (k : Nat) (j : Int) (l : List Int), (j + k = m ∧ 0 ≤ j) ∧ i = .int .i64 j ∧ l.length = k ∧ (∀ x ∈ l, x = 1 ∨ x = 2) ∧ wr.ownsRow w1.heap.size 3 1 v k (l.map (Value.int .i64)) ∧ PB b w.heap.size w wr ∧ Pt wr b ∧ w1.heap.size ≤ wr.heap.size) (fun _ i _ => (intOf i).toNat)
  case atStart => exact ⟨0, m, [], ⟨by omega, hm1⟩, rfl, rfl, by simp, World.ownsRow_nil _ _ _ _, hk1, hp1, Nat.le_refl _⟩
  case round =>
    obtain ⟨k, j, l, ⟨hj1, hj2⟩, rfl, hlk, hl12, own, hPB, hpr, hzr⟩ := hrel
    have hltr := hpr.lt
    by_cases hlt : 0 < j
    · have Ho := hidMk own
      have Hl := hidMk hl12
      have Hlk := hidMk hlk
      clear own hl12 hlk
      go_wp2_with (first
        | (go_at_call 24; refine (of2P b wr.heap.size 1 2 _ _ (hpr.alloc _) (by omega) (Bk.new _ _ _)).mono ?_; rintro e w2 ⟨x, rfl, hx, hk2, hp2⟩; have hz2 := hk2.size; simp only [World.size_alloc] at hz2; have O2 := hidMk (own_pb (Ho.out.alloc _) (by omega) hk2); have K2 := hidMk ((hPB.alloc (by omega) _).trans hk2 (by simp; omega)))
        | (at_builtin; refine wpList_append_own_at _ rfl (.tmp 14) (.tmp 18) 31 rfl w1.heap.size 3 i0 (.int .i64 0) 1 8 Try.underlying31 Hi.out Hz0.out Hz1.out Hz2.out rfl (by decide) _ k _ rfl (O2.out.alloc _) ⟨w2.heap.size, 0, none⟩ 1 1 [.int .i64 x] rfl rfl (news_one (Bk.new _ _ _)) (by simp [Value.oneCell']) (by unfold maxLen; omega) (by omega) (by simp; omega) ?_; intro v' w3 own' hg _ at_; have hz3 := hg.size; simp only [World.size_alloc] at hz3; have O3 := hidMk own'; clear own'; have hr : ∀ g, Value.ownBlock _ = some g → w1.heap.size ≤ g := (fun g e => (O2.out.lt g e).1)))
      go_roundw
      case rel =>
        refine ⟨k + 1, j - 1, l ++ [x], ⟨by omega, by omega⟩, by go_num, by rw [List.length_append]; simp [Hlk.out], ?_, ?_, ?_, ?_, ?_⟩
        · intro y hy
          rcases List.mem_append.1 hy with hy | hy
          · exact Hl.out y hy
          · rw [List.mem_singleton.1 hy]; exact hx
        · rw [List.map_append]
          exact O3.out
        · exact (K2.out.alloc (by omega) _).grownTo hg (by simp; omega) (fun g e => by have := hr g e; omega)
        · exact (hp2.alloc _).grown hg (fun e => by have := hr b e.symm; omega)
        · omega
      case measure => simp [intOf]; omega
    · obtain rfl : j = 0 := by omega
      obtain ⟨a, c, rfl, hn, his⟩ := Is.of_own own
      clear own
      go_wp2_with fail
      go_ret
      exact ⟨a, k, c, l, rfl, hn, by omega, hl12, his, hPB, hpr⟩
end Go.Proofs.Ytbebofmpimfbgaa
