/- Part 16 of the proof: MiG, MiH. -/
import Derived.IntWalk
import Derived.Deep.WholeRow
import Derived.Test.YtbebofmpimfbgaaM15
/- The law ReedMirrored: the second job. -/
namespace Go.Proofs.Ytbebofmpimfbgaa
set_option linter.all false
open Go.RowKit
theorem US.set5 {w0 w : World} {B g4 g5 b : Nat} {K X : Jb} {a oa : Option Addr} {n c oc : Nat} {L : List R2} (h : US w0 B g4 g5 b K X a n c oa oc L w) (i : Nat) (v : Value) (X' : Jb) (hx : (jobC X (.slice oa n oc)).setIfInBounds i v = (jobC X' (.slice oa n oc))) : US w0 B g4 g5 b K X' a n c oa oc L (w.setCell ⟨g5, i, none⟩ v) := by
  obtain ⟨l1, l2, l3, l4⟩ := h.lt
  have hb : Below B w (w.setCell ⟨g5, i, none⟩ v) := (Below.refl _ _).setCell (p := ⟨g5, i, none⟩) l3 _
  refine ⟨h.b0.trans (hb.mono h.hb.2), h.hb, h.pt.below hb l1, h.j4.below hb l2, h.r4.below hb, by rw [← hx]; exact h.j5.put i v, ?_, ⟨l1, l2, l3, Nat.le_trans l4 hb.size⟩, h.hn, h.ck, h.ln⟩
  refine h.own.kept (grownBy_setCellA w g5 i v) ?_
  rcases h.own.2 with ⟨e', _⟩ | ⟨g, cap, cur, hv, _, hg, _⟩
  · rw [e']; exact .inl rfl
  · rw [hv]
    refine .inr fun e => ?_
    injection e with e
    have e2 : g = g5 := e
    subst e2
    have a1 := h.j5
    unfold Bk at a1
    rw [hg] at a1
    injection a1 with a1
    injection a1 with _ a2
    exact absurd a2 (by decide)
set_option maxHeartbeats 4000000 in
set_option maxRecDepth 1000000 in
theorem mipart5 {w0 w : World} {B g4 g5 b : Nat} {M : Jb} {a oa : Option Addr} {n c oc : Nat} {u0 u1 u2 u6 u7 u8 u9 A0 A1 A2 A3 A4 A5 A6 A7 A8 A9 Aa Ab Ac Ad Ae Af Ag Ah Ai Aj Ak Al Am An Ao Ap Aq Ar As At Au Av Aw Ax Ay Az C0 C1 C2 C3 C4 C5 C6 C7 C8 C9 Ca Cb Cc Cd Ce Cf Cg Ch Ci Cj Ck Cl Cm Cn Co Cp Cq Cr Cs Ct Cu Cv Cw Cx Cy Cz D0 D1 D2 D3 D4 D5 D6 D7 D8 D9 Da Db Dc Dd De Df Dg Dh Di Dj Dk Dl Dm Dn Do Dp Dq Dr Ds Dt Du Dv Dw Dx Dy Dz E0 E1 E2 E3 E4 E5 E6 E7 E8 E9 Ea Eb Ec Ed Ee Ef Eg Eh Ei Ej Ek El Em En Eo Ep Eq Er Es Et Eu Ev Ew Ex Ey Ez F0 F1 F2 F3 F4 F5 F6 F7 F8 F9 Fa Fb Fc Fd Fe Ff Fg Fh Fi Fj Fk Fl Fm Fn Fo Fp Fq Fr Fs Ft Fu Fv Fw Fx Fy Fz L0 L1 L2 L3 L4 L5 L6 L7 L8 L9 La Lb Lc Ld Le Lf Lg Lh Li Lj Lk Ll Lm Ln Lo Lp Lq Lr Ls Lt Lu Lv Lw Lx Ly Lz M0 M1 M2 M3 M4 M5 M6 M7 M8 M9 Ma Mb Mc Md Me Mf Mg Mh Mi Mj Mk Ml Mm Mn Mo Mp Mq Mr Ms Mt Mu Mv Mw Mx My Mz N0 N1 N2 N3 N4 N5 N6 N7 N8 N9 Na Nb Nc Nd Ne Nf Ng Nh Ni Nj Nk Nl Nm : Value} (htun : TunOK) (hshort : ShortOK) (hfine : FineOK) (hs : US w0 B g4 g5 b M { M with p1 := -M.p2, p2 := -M.p1 } a n c oa oc M.sh w) : Code.wp Try.prog mirest5 (QMI w0) ⟨#[u0, u1, u2, (.pointer (some ⟨b, 0, none⟩)), (.pointer (some ⟨g4, 0, none⟩)), (.pointer (some ⟨g5, 0, none⟩)), u6, u7, u8, u9, A0, A1, A2, A3, A4, A5, A6, A7, A8, A9, Aa, Ab, Ac, Ad, Ae, Af, Ag, Ah, Ai, Aj, Ak, Al, Am, An, Ao, Ap, Aq, Ar, As, At, Au, Av, Aw, Ax, Ay, Az, C0, C1, C2, C3, C4, C5, C6, C7, C8, C9, Ca, Cb, Cc, Cd, Ce, Cf, Cg, Ch, Ci, Cj, Ck, Cl, Cm, Cn, Co, Cp, Cq, Cr, Cs, Ct, Cu, Cv, Cw, Cx, Cy, Cz, D0, D1, D2, D3, D4, D5, D6, D7, D8, D9, Da, Db, Dc, Dd, De, Df, Dg, Dh, Di, Dj, Dk, Dl, Dm, Dn, Do, Dp, Dq, Dr, Ds, Dt, Du, Dv, Dw, Dx, Dy, Dz, E0, E1, E2, E3, E4, E5, E6, E7, E8, E9, Ea, Eb, Ec, Ed, Ee, Ef, Eg, Eh, Ei, Ej, Ek, El, Em, En, Eo, Ep, Eq, Er, Es, Et, Eu, Ev, Ew, Ex, Ey, Ez, F0, F1, F2, F3, F4, F5, F6, F7, F8, F9, Fa, Fb, Fc, Fd, Fe, Ff, Fg, Fh, Fi, Fj, Fk, Fl, Fm, Fn, Fo, Fp, Fq, Fr, Fs, Ft, Fu, Fv, Fw, Fx, Fy, Fz, L0, L1, L2, L3, L4, L5, L6, L7, L8, L9, La, Lb, Lc, Ld, Le, Lf, Lg, Lh, Li, Lj, Lk, Ll, Lm, Ln, Lo, Lp, Lq, Lr, Ls, Lt, Lu, Lv, Lw, Lx, Ly, Lz, M0, M1, M2, M3, M4, M5, M6, M7, M8, M9, Ma, Mb, Mc, Md, Me, Mf, Mg, Mh, Mi, Mj, Mk, Ml, Mm, Mn, Mo, Mp, Mq, Mr, Ms, Mt, Mu, Mv, Mw, Mx, My, Mz, N0, N1, N2, N3, N4, N5, N6, N7, N8, N9, Na, Nb, Nc, Nd, Ne, Nf, Ng, Nh, Ni, Nj, Nk, Nl, Nm], []⟩ w := by
  rw [mirest5_eq]
  have HT := hidMk htun
  have HSO := hidMk hshort
  have HFO := hidMk hfine
  clear htun hshort hfine
  refine wp_seq_k fun K0 hKK => ?_
  refine region_via (R := fun a_ e a' w' => e = .normal ∧ ∃ (v49 v50 v51 v52 v53 v54 v55 v56 v57 v58 v59 v60 v61 v62 v63 v64 v65 v66 v67 v68 v69 v70 v71 v72 v73 v74 v75 v76 v77 v78 : Value), a' = ((((((((((((((((((((((((((((((a_.put (some 49) v49).put (some 50) v50).put (some 51) v51).put (some 52) v52).put (some 53) v53).put (some 54) v54).put (some 55) v55).put (some 56) v56).put (some 57) v57).put (some 58) v58).put (some 59) v59).put (some 60) v60).put (some 61) v61).put (some 62) v62).put (some 63) v63).put (some 64) v64).put (some 65) v65).put (some 66) v66).put (some 67) v67).put (some 68) v68).put (some 69) v69).put (some 70) v70).put (some 71) v71).put (some 72) v72).put (some 73) v73).put (some 74) v74).put (some 75) v75).put (some 76) v76).put (some 77) v77).put (some 78) v78) ∧ US w0 B g4 g5 b M { M with p1 := -M.p2, p2 := -M.p1, t1 := M.r1, t2 := M.r2, r1 := M.t1, r2 := M.t2, u1 := M.d1, u2 := M.d2, d1 := M.u1, d2 := M.u2, x1 := M.y1, x2 := M.y2, y1 := M.x1, y2 := M.x2 } a n c oa oc M.sh w') ?_ ?_
  rotate_left
  · rintro e a' w' ⟨rfl, v49, v50, v51, v52, v53, v54, v55, v56, v57, v58, v59, v60, v61, v62, v63, v64, v65, v66, v67, v68, v69, v70, v71, v72, v73, v74, v75, v76, v77, v78, rfl, hs2⟩
    refine hKK _ _ ?_
    simp only [Act.put, aT, aZ, aS]
    exact mipart6 HT.out HSO.out HFO.out (K := M) ⟨hs2.b0, hs2.hb, hs2.pt, hs2.j4, hs2.r4, hs2.j5, hs2.own, hs2.lt, hs2.hn, hs2.ck, hs2.ln⟩
  have hU := hs.next (Below.refl _ _).drew
  have hS := hU.j4
  clear hs
  refine wp_region_held_drew (S := fun w' => Bk w' g4 30 (jobC M (.slice a n c))) (by kernel_rfl) hS (fun hS0 => ?_)
  clear hS0
  generalize w.drew = wd at hS hU ⊢
  refine wpAnyH_take (i := 0) (oi := ⟨some 49, .fieldAddr 30 (.tmp 4) 0, 0, "outright.go:422", #[], none⟩) (v := ?_) rfl (by kernel_rfl) (by kernel_rfl) (by kernel_rfl) (fun _ _ _ h => by cases h.1) (.inl ⟨by rfl, ?_⟩) (by assumption) ?_
  rotate_left
  · (intro w' hSw; (try dsimp only at hSw); skip; go_simp <;> with_reducible rfl)
  (try simp only [Act.put, aT, aZ, aS])
  refine wpAnyH_take (i := 1) (oi := ⟨some 50, .fieldAddr 25 (.tmp 49) 2, 0, "outright.go:422", #[⟨0, .data⟩], none⟩) (v := ?_) rfl (by kernel_rfl) (by kernel_rfl) (by kernel_rfl) (fun _ _ _ h => by cases h.1) (.inl ⟨by rfl, ?_⟩) (by assumption) ?_
  rotate_left
  · (intro w' hSw; (try dsimp only at hSw); skip; go_simp <;> with_reducible rfl)
  (try simp only [Act.put, aT, aZ, aS])
  refine wpAnyH_take (i := 2) (oi := ⟨some 51, .load 23 (.tmp 50), 23, "outright.go:422", #[⟨1, .data⟩], none⟩) rfl (by kernel_rfl) (by kernel_rfl) (by kernel_rfl) (fun _ _ _ h => by cases h.1) (yields_midB (by rfl) 23 _ rfl g4 4 rfl #[.int .i64 M.r1, .int .i64 M.r2] _ (fun w hw => bk_two hw 4 rfl rfl) Try.underlying23 rfl szRange) (by assumption) ?_
  (try simp only [Act.put, aT, aZ, aS])
  refine wpAnyH_take (i := 3) (oi := ⟨some 52, .fieldAddr 30 (.tmp 4) 0, 0, "outright.go:422", #[⟨20, .gcOnly .lateStores⟩], none⟩) (v := ?_) rfl (by kernel_rfl) (by kernel_rfl) (by kernel_rfl) (fun _ _ _ h => by cases h.1) (.inl ⟨by rfl, ?_⟩) (by assumption) ?_
  rotate_left
  · (intro w' hSw; (try dsimp only at hSw); skip; go_simp <;> with_reducible rfl)
  (try simp only [Act.put, aT, aZ, aS])
  refine wpAnyH_take (i := 4) (oi := ⟨some 53, .fieldAddr 25 (.tmp 52) 1, 0, "outright.go:422", #[⟨3, .data⟩, ⟨20, .gcOnly .lateStores⟩], none⟩) (v := ?_) rfl (by kernel_rfl) (by kernel_rfl) (by kernel_rfl) (fun _ _ _ h => by cases h.1) (.inl ⟨by rfl, ?_⟩) (by assumption) ?_
  rotate_left
  · (intro w' hSw; (try dsimp only at hSw); skip; go_simp <;> with_reducible rfl)
  (try simp only [Act.put, aT, aZ, aS])
  refine wpAnyH_take (i := 5) (oi := ⟨some 54, .load 23 (.tmp 53), 23, "outright.go:422", #[⟨4, .data⟩, ⟨20, .gcOnly .lateStores⟩], none⟩) rfl (by kernel_rfl) (by kernel_rfl) (by kernel_rfl) (fun _ _ _ h => by cases h.1) (yields_midB (by rfl) 23 _ rfl g4 2 rfl #[.int .i64 M.t1, .int .i64 M.t2] _ (fun w hw => bk_two hw 2 rfl rfl) Try.underlying23 rfl szRange) (by assumption) ?_
  (try simp only [Act.put, aT, aZ, aS])
  refine wpAnyH_take (i := 6) (oi := ⟨some 55, .fieldAddr 30 (.tmp 4) 1, 0, "outright.go:422", #[⟨23, .gcOnly .lateStores⟩], none⟩) (v := ?_) rfl (by kernel_rfl) (by kernel_rfl) (by kernel_rfl) (fun _ _ _ h => by cases h.1) (.inl ⟨by rfl, ?_⟩) (by assumption) ?_
  rotate_left
  · (intro w' hSw; (try dsimp only at hSw); skip; go_simp <;> with_reducible rfl)
  (try simp only [Act.put, aT, aZ, aS])
  refine wpAnyH_take (i := 7) (oi := ⟨some 56, .fieldAddr 27 (.tmp 55) 1, 0, "outright.go:422", #[⟨6, .data⟩, ⟨23, .gcOnly .lateStores⟩], none⟩) (v := ?_) rfl (by kernel_rfl) (by kernel_rfl) (by kernel_rfl) (fun _ _ _ h => by cases h.1) (.inl ⟨by rfl, ?_⟩) (by assumption) ?_
  rotate_left
  · (intro w' hSw; (try dsimp only at hSw); skip; go_simp <;> with_reducible rfl)
  (try simp only [Act.put, aT, aZ, aS])
  refine wpAnyH_take (i := 8) (oi := ⟨some 57, .load 23 (.tmp 56), 23, "outright.go:422", #[⟨7, .data⟩, ⟨23, .gcOnly .lateStores⟩], none⟩) rfl (by kernel_rfl) (by kernel_rfl) (by kernel_rfl) (fun _ _ _ h => by cases h.1) (yields_midB (by rfl) 23 _ rfl g4 8 rfl #[.int .i64 M.d1, .int .i64 M.d2] _ (fun w hw => bk_two hw 8 rfl rfl) Try.underlying23 rfl szRange) (by assumption) ?_
  (try simp only [Act.put, aT, aZ, aS])
  refine wpAnyH_take (i := 9) (oi := ⟨some 58, .fieldAddr 30 (.tmp 4) 1, 0, "outright.go:422", #[⟨26, .gcOnly .lateStores⟩], none⟩) (v := ?_) rfl (by kernel_rfl) (by kernel_rfl) (by kernel_rfl) (fun _ _ _ h => by cases h.1) (.inl ⟨by rfl, ?_⟩) (by assumption) ?_
  rotate_left
  · (intro w' hSw; (try dsimp only at hSw); skip; go_simp <;> with_reducible rfl)
  (try simp only [Act.put, aT, aZ, aS])
  refine wpAnyH_take (i := 10) (oi := ⟨some 59, .fieldAddr 27 (.tmp 58) 0, 0, "outright.go:422", #[⟨9, .data⟩, ⟨26, .gcOnly .lateStores⟩], none⟩) (v := ?_) rfl (by kernel_rfl) (by kernel_rfl) (by kernel_rfl) (fun _ _ _ h => by cases h.1) (.inl ⟨by rfl, ?_⟩) (by assumption) ?_
  rotate_left
  · (intro w' hSw; (try dsimp only at hSw); skip; go_simp <;> with_reducible rfl)
  (try simp only [Act.put, aT, aZ, aS])
  refine wpAnyH_take (i := 11) (oi := ⟨some 60, .load 23 (.tmp 59), 23, "outright.go:422", #[⟨10, .data⟩, ⟨26, .gcOnly .lateStores⟩], none⟩) rfl (by kernel_rfl) (by kernel_rfl) (by kernel_rfl) (fun _ _ _ h => by cases h.1) (yields_midB (by rfl) 23 _ rfl g4 6 rfl #[.int .i64 M.u1, .int .i64 M.u2] _ (fun w hw => bk_two hw 6 rfl rfl) Try.underlying23 rfl szRange) (by assumption) ?_
  (try simp only [Act.put, aT, aZ, aS])
  refine wpAnyH_take (i := 12) (oi := ⟨some 61, .fieldAddr 30 (.tmp 4) 1, 0, "outright.go:422", #[⟨29, .gcOnly .lateStores⟩], none⟩) (v := ?_) rfl (by kernel_rfl) (by kernel_rfl) (by kernel_rfl) (fun _ _ _ h => by cases h.1) (.inl ⟨by rfl, ?_⟩) (by assumption) ?_
  rotate_left
  · (intro w' hSw; (try dsimp only at hSw); skip; go_simp <;> with_reducible rfl)
  (try simp only [Act.put, aT, aZ, aS])
  refine wpAnyH_take (i := 13) (oi := ⟨some 62, .fieldAddr 27 (.tmp 61) 3, 0, "outright.go:422", #[⟨12, .data⟩, ⟨29, .gcOnly .lateStores⟩], none⟩) (v := ?_) rfl (by kernel_rfl) (by kernel_rfl) (by kernel_rfl) (fun _ _ _ h => by cases h.1) (.inl ⟨by rfl, ?_⟩) (by assumption) ?_
  rotate_left
  · (intro w' hSw; (try dsimp only at hSw); skip; go_simp <;> with_reducible rfl)
  (try simp only [Act.put, aT, aZ, aS])
  refine wpAnyH_take (i := 14) (oi := ⟨some 63, .load 23 (.tmp 62), 23, "outright.go:422", #[⟨13, .data⟩, ⟨29, .gcOnly .lateStores⟩], none⟩) rfl (by kernel_rfl) (by kernel_rfl) (by kernel_rfl) (fun _ _ _ h => by cases h.1) (yields_midB (by rfl) 23 _ rfl g4 12 rfl #[.int .i64 M.y1, .int .i64 M.y2] _ (fun w hw => bk_two hw 12 rfl rfl) Try.underlying23 rfl szRange) (by assumption) ?_
  (try simp only [Act.put, aT, aZ, aS])
  refine wpAnyH_take (i := 15) (oi := ⟨some 64, .fieldAddr 30 (.tmp 4) 1, 0, "outright.go:422", #[⟨32, .gcOnly .lateStores⟩], none⟩) (v := ?_) rfl (by kernel_rfl) (by kernel_rfl) (by kernel_rfl) (fun _ _ _ h => by cases h.1) (.inl ⟨by rfl, ?_⟩) (by assumption) ?_
  rotate_left
  · (intro w' hSw; (try dsimp only at hSw); skip; go_simp <;> with_reducible rfl)
  (try simp only [Act.put, aT, aZ, aS])
  refine wpAnyH_take (i := 16) (oi := ⟨some 65, .fieldAddr 27 (.tmp 64) 2, 0, "outright.go:422", #[⟨15, .data⟩, ⟨32, .gcOnly .lateStores⟩], none⟩) (v := ?_) rfl (by kernel_rfl) (by kernel_rfl) (by kernel_rfl) (fun _ _ _ h => by cases h.1) (.inl ⟨by rfl, ?_⟩) (by assumption) ?_
  rotate_left
  · (intro w' hSw; (try dsimp only at hSw); skip; go_simp <;> with_reducible rfl)
  (try simp only [Act.put, aT, aZ, aS])
  refine wpAnyH_take (i := 17) (oi := ⟨some 66, .load 23 (.tmp 65), 23, "outright.go:422", #[⟨16, .data⟩, ⟨32, .gcOnly .lateStores⟩], none⟩) rfl (by kernel_rfl) (by kernel_rfl) (by kernel_rfl) (fun _ _ _ h => by cases h.1) (yields_midB (by rfl) 23 _ rfl g4 10 rfl #[.int .i64 M.x1, .int .i64 M.x2] _ (fun w hw => bk_two hw 10 rfl rfl) Try.underlying23 rfl szRange) (by assumption) ?_
  (try simp only [Act.put, aT, aZ, aS])
  refine wpAnyH_take (i := 18) (oi := ⟨some 67, .fieldAddr 30 (.tmp 5) 0, 0, "outright.go:422", #[⟨0, .phase⟩, ⟨1, .phase⟩, ⟨2, .phase⟩, ⟨3, .textOnly .lateStores⟩, ⟨4, .textOnly .lateStores⟩, ⟨5, .textOnly .lateStores⟩, ⟨6, .textOnly .lateStores⟩, ⟨7, .textOnly .lateStores⟩, ⟨8, .textOnly .lateStores⟩, ⟨9, .textOnly .lateStores⟩, ⟨10, .textOnly .lateStores⟩, ⟨11, .textOnly .lateStores⟩, ⟨12, .textOnly .lateStores⟩, ⟨13, .textOnly .lateStores⟩, ⟨14, .textOnly .lateStores⟩, ⟨15, .textOnly .lateStores⟩, ⟨16, .textOnly .lateStores⟩, ⟨17, .textOnly .lateStores⟩], none⟩) (v := ?_) rfl (by kernel_rfl) (by kernel_rfl) (by kernel_rfl) (fun _ _ _ h => by cases h.1) (.inl ⟨by rfl, ?_⟩) (by assumption) ?_
  rotate_left
  · (intro w' hSw; (try dsimp only at hSw); skip; go_simp <;> with_reducible rfl)
  (try simp only [Act.put, aT, aZ, aS])
  refine wpAnyH_take (i := 19) (oi := ⟨some 68, .fieldAddr 25 (.tmp 67) 1, 0, "outright.go:422", #[⟨18, .data⟩, ⟨0, .phase⟩, ⟨1, .phase⟩, ⟨2, .phase⟩, ⟨3, .textOnly .lateStores⟩, ⟨4, .textOnly .lateStores⟩, ⟨5, .textOnly .lateStores⟩, ⟨6, .textOnly .lateStores⟩, ⟨7, .textOnly .lateStores⟩, ⟨8, .textOnly .lateStores⟩, ⟨9, .textOnly .lateStores⟩, ⟨10, .textOnly .lateStores⟩, ⟨11, .textOnly .lateStores⟩, ⟨12, .textOnly .lateStores⟩, ⟨13, .textOnly .lateStores⟩, ⟨14, .textOnly .lateStores⟩, ⟨15, .textOnly .lateStores⟩, ⟨16, .textOnly .lateStores⟩, ⟨17, .textOnly .lateStores⟩], none⟩) (v := ?_) rfl (by kernel_rfl) (by kernel_rfl) (by kernel_rfl) (fun _ _ _ h => by cases h.1) (.inl ⟨by rfl, ?_⟩) (by assumption) ?_
  rotate_left
  · (intro w' hSw; (try dsimp only at hSw); skip; go_simp <;> with_reducible rfl)
  (try simp only [Act.put, aT, aZ, aS])
  refine wpAnyH_ready (rs := [20]) (by kernel_rfl) (by simp) ?_
  refine AllReadyH.cons (o := ⟨none, .store 23 (.tmp 68) (.tmp 51), 0, "outright.go:422", #[⟨19, .data⟩, ⟨2, .data⟩, ⟨0, .phase⟩, ⟨1, .phase⟩, ⟨2, .phase⟩, ⟨3, .textOnly .lateStores⟩, ⟨4, .textOnly .lateStores⟩, ⟨5, .textOnly .lateStores⟩, ⟨6, .textOnly .lateStores⟩, ⟨7, .textOnly .lateStores⟩, ⟨8, .textOnly .lateStores⟩, ⟨9, .textOnly .lateStores⟩, ⟨10, .textOnly .lateStores⟩, ⟨11, .textOnly .lateStores⟩, ⟨12, .textOnly .lateStores⟩, ⟨13, .textOnly .lateStores⟩, ⟨14, .textOnly .lateStores⟩, ⟨15, .textOnly .lateStores⟩, ⟨16, .textOnly .lateStores⟩, ⟨17, .textOnly .lateStores⟩], none⟩) rfl (fun K hK => ?_) ?_
  · have z0 := hU.j5.at_ 2 (.int .i64 M.t1) rfl
    have z1 := hU.j5.at_ 3 (.int .i64 M.t2) rfl
    have f0 := hU.j5.free 2
    have f1 := hU.j5.free 3
    go_simp
    have hU_ := (hU.set5 2 (.int .i64 M.r1) { M with p1 := -M.p2, p2 := -M.p1, t1 := M.r1 } rfl).set5 3 (.int .i64 M.r2) { M with p1 := -M.p2, p2 := -M.p1, t1 := M.r1, t2 := M.r2 } rfl
    clear z0 z1 f0 f1 hU hS
    have hU := hU_
    have hS := hU_.j4
    clear hU_
    refine hK.out _ _ hS (fun _ => ?_)
    clear hK K
    (try simp only [Act.put, aT, aZ, aS])
    refine wpAnyH_take (i := 21) (oi := ⟨some 69, .fieldAddr 30 (.tmp 5) 0, 0, "outright.go:422", #[⟨0, .phase⟩, ⟨1, .phase⟩, ⟨2, .phase⟩, ⟨3, .phase⟩, ⟨4, .phase⟩, ⟨5, .phase⟩, ⟨6, .textOnly .lateStores⟩, ⟨7, .textOnly .lateStores⟩, ⟨8, .textOnly .lateStores⟩, ⟨9, .textOnly .lateStores⟩, ⟨10, .textOnly .lateStores⟩, ⟨11, .textOnly .lateStores⟩, ⟨12, .textOnly .lateStores⟩, ⟨13, .textOnly .lateStores⟩, ⟨14, .textOnly .lateStores⟩, ⟨15, .textOnly .lateStores⟩, ⟨16, .textOnly .lateStores⟩, ⟨17, .textOnly .lateStores⟩, ⟨18, .phase⟩, ⟨19, .phase⟩, ⟨20, .phase⟩], none⟩) (v := ?_) rfl (by kernel_rfl) (by kernel_rfl) (by kernel_rfl) (fun _ _ _ h => by cases h.1) (.inl ⟨by rfl, ?_⟩) (by assumption) ?_
    rotate_left
    · (intro w' hSw; (try dsimp only at hSw); skip; go_simp <;> with_reducible rfl)
    (try simp only [Act.put, aT, aZ, aS])
    refine wpAnyH_take (i := 22) (oi := ⟨some 70, .fieldAddr 25 (.tmp 69) 2, 0, "outright.go:422", #[⟨21, .data⟩, ⟨0, .phase⟩, ⟨1, .phase⟩, ⟨2, .phase⟩, ⟨3, .phase⟩, ⟨4, .phase⟩, ⟨5, .phase⟩, ⟨6, .textOnly .lateStores⟩, ⟨7, .textOnly .lateStores⟩, ⟨8, .textOnly .lateStores⟩, ⟨9, .textOnly .lateStores⟩, ⟨10, .textOnly .lateStores⟩, ⟨11, .textOnly .lateStores⟩, ⟨12, .textOnly .lateStores⟩, ⟨13, .textOnly .lateStores⟩, ⟨14, .textOnly .lateStores⟩, ⟨15, .textOnly .lateStores⟩, ⟨16, .textOnly .lateStores⟩, ⟨17, .textOnly .lateStores⟩, ⟨18, .phase⟩, ⟨19, .phase⟩, ⟨20, .phase⟩], none⟩) (v := ?_) rfl (by kernel_rfl) (by kernel_rfl) (by kernel_rfl) (fun _ _ _ h => by cases h.1) (.inl ⟨by rfl, ?_⟩) (by assumption) ?_
    rotate_left
    · (intro w' hSw; (try dsimp only at hSw); skip; go_simp <;> with_reducible rfl)
    (try simp only [Act.put, aT, aZ, aS])
    refine wpAnyH_ready (rs := [23]) (by kernel_rfl) (by simp) ?_
    refine AllReadyH.cons (o := ⟨none, .store 23 (.tmp 70) (.tmp 54), 0, "outright.go:422", #[⟨22, .data⟩, ⟨5, .data⟩, ⟨20, .chain⟩, ⟨0, .phase⟩, ⟨1, .phase⟩, ⟨2, .phase⟩, ⟨3, .phase⟩, ⟨4, .phase⟩, ⟨5, .phase⟩, ⟨6, .textOnly .lateStores⟩, ⟨7, .textOnly .lateStores⟩, ⟨8, .textOnly .lateStores⟩, ⟨9, .textOnly .lateStores⟩, ⟨10, .textOnly .lateStores⟩, ⟨11, .textOnly .lateStores⟩, ⟨12, .textOnly .lateStores⟩, ⟨13, .textOnly .lateStores⟩, ⟨14, .textOnly .lateStores⟩, ⟨15, .textOnly .lateStores⟩, ⟨16, .textOnly .lateStores⟩, ⟨17, .textOnly .lateStores⟩, ⟨18, .phase⟩, ⟨19, .phase⟩, ⟨20, .phase⟩], none⟩) rfl (fun K hK => ?_) ?_
    · have z0 := hU.j5.at_ 4 (.int .i64 M.r1) rfl
      have z1 := hU.j5.at_ 5 (.int .i64 M.r2) rfl
      have f0 := hU.j5.free 4
      have f1 := hU.j5.free 5
      go_simp
      have hU_ := (hU.set5 4 (.int .i64 M.t1) { M with p1 := -M.p2, p2 := -M.p1, t1 := M.r1, t2 := M.r2, r1 := M.t1 } rfl).set5 5 (.int .i64 M.t2) { M with p1 := -M.p2, p2 := -M.p1, t1 := M.r1, t2 := M.r2, r1 := M.t1, r2 := M.t2 } rfl
      clear z0 z1 f0 f1 hU hS
      have hU := hU_
      have hS := hU_.j4
      clear hU_
      refine hK.out _ _ hS (fun _ => ?_)
      clear hK K
      (try simp only [Act.put, aT, aZ, aS])
      refine wpAnyH_take (i := 24) (oi := ⟨some 71, .fieldAddr 30 (.tmp 5) 1, 0, "outright.go:422", #[⟨0, .phase⟩, ⟨1, .phase⟩, ⟨2, .phase⟩, ⟨3, .phase⟩, ⟨4, .phase⟩, ⟨5, .phase⟩, ⟨6, .phase⟩, ⟨7, .phase⟩, ⟨8, .phase⟩, ⟨9, .textOnly .lateStores⟩, ⟨10, .textOnly .lateStores⟩, ⟨11, .textOnly .lateStores⟩, ⟨12, .textOnly .lateStores⟩, ⟨13, .textOnly .lateStores⟩, ⟨14, .textOnly .lateStores⟩, ⟨15, .textOnly .lateStores⟩, ⟨16, .textOnly .lateStores⟩, ⟨17, .textOnly .lateStores⟩, ⟨18, .phase⟩, ⟨19, .phase⟩, ⟨20, .phase⟩, ⟨21, .phase⟩, ⟨22, .phase⟩, ⟨23, .phase⟩], none⟩) (v := ?_) rfl (by kernel_rfl) (by kernel_rfl) (by kernel_rfl) (fun _ _ _ h => by cases h.1) (.inl ⟨by rfl, ?_⟩) (by assumption) ?_
      rotate_left
      · (intro w' hSw; (try dsimp only at hSw); skip; go_simp <;> with_reducible rfl)
      (try simp only [Act.put, aT, aZ, aS])
      refine wpAnyH_take (i := 25) (oi := ⟨some 72, .fieldAddr 27 (.tmp 71) 0, 0, "outright.go:422", #[⟨24, .data⟩, ⟨0, .phase⟩, ⟨1, .phase⟩, ⟨2, .phase⟩, ⟨3, .phase⟩, ⟨4, .phase⟩, ⟨5, .phase⟩, ⟨6, .phase⟩, ⟨7, .phase⟩, ⟨8, .phase⟩, ⟨9, .textOnly .lateStores⟩, ⟨10, .textOnly .lateStores⟩, ⟨11, .textOnly .lateStores⟩, ⟨12, .textOnly .lateStores⟩, ⟨13, .textOnly .lateStores⟩, ⟨14, .textOnly .lateStores⟩, ⟨15, .textOnly .lateStores⟩, ⟨16, .textOnly .lateStores⟩, ⟨17, .textOnly .lateStores⟩, ⟨18, .phase⟩, ⟨19, .phase⟩, ⟨20, .phase⟩, ⟨21, .phase⟩, ⟨22, .phase⟩, ⟨23, .phase⟩], none⟩) (v := ?_) rfl (by kernel_rfl) (by kernel_rfl) (by kernel_rfl) (fun _ _ _ h => by cases h.1) (.inl ⟨by rfl, ?_⟩) (by assumption) ?_
      rotate_left
      · (intro w' hSw; (try dsimp only at hSw); skip; go_simp <;> with_reducible rfl)
      (try simp only [Act.put, aT, aZ, aS])
      refine wpAnyH_ready (rs := [26]) (by kernel_rfl) (by simp) ?_
      refine AllReadyH.cons (o := ⟨none, .store 23 (.tmp 72) (.tmp 57), 0, "outright.go:422", #[⟨25, .data⟩, ⟨8, .data⟩, ⟨23, .chain⟩, ⟨0, .phase⟩, ⟨1, .phase⟩, ⟨2, .phase⟩, ⟨3, .phase⟩, ⟨4, .phase⟩, ⟨5, .phase⟩, ⟨6, .phase⟩, ⟨7, .phase⟩, ⟨8, .phase⟩, ⟨9, .textOnly .lateStores⟩, ⟨10, .textOnly .lateStores⟩, ⟨11, .textOnly .lateStores⟩, ⟨12, .textOnly .lateStores⟩, ⟨13, .textOnly .lateStores⟩, ⟨14, .textOnly .lateStores⟩, ⟨15, .textOnly .lateStores⟩, ⟨16, .textOnly .lateStores⟩, ⟨17, .textOnly .lateStores⟩, ⟨18, .phase⟩, ⟨19, .phase⟩, ⟨20, .phase⟩, ⟨21, .phase⟩, ⟨22, .phase⟩, ⟨23, .phase⟩], none⟩) rfl (fun K hK => ?_) ?_
      · have z0 := hU.j5.at_ 6 (.int .i64 M.u1) rfl
        have z1 := hU.j5.at_ 7 (.int .i64 M.u2) rfl
        have f0 := hU.j5.free 6
        have f1 := hU.j5.free 7
        go_simp
        have hU_ := (hU.set5 6 (.int .i64 M.d1) { M with p1 := -M.p2, p2 := -M.p1, t1 := M.r1, t2 := M.r2, r1 := M.t1, r2 := M.t2, u1 := M.d1 } rfl).set5 7 (.int .i64 M.d2) { M with p1 := -M.p2, p2 := -M.p1, t1 := M.r1, t2 := M.r2, r1 := M.t1, r2 := M.t2, u1 := M.d1, u2 := M.d2 } rfl
        clear z0 z1 f0 f1 hU hS
        have hU := hU_
        have hS := hU_.j4
        clear hU_
        refine hK.out _ _ hS (fun _ => ?_)
        clear hK K
        (try simp only [Act.put, aT, aZ, aS])
        refine wpAnyH_take (i := 27) (oi := ⟨some 73, .fieldAddr 30 (.tmp 5) 1, 0, "outright.go:422", #[⟨0, .phase⟩, ⟨1, .phase⟩, ⟨2, .phase⟩, ⟨3, .phase⟩, ⟨4, .phase⟩, ⟨5, .phase⟩, ⟨6, .phase⟩, ⟨7, .phase⟩, ⟨8, .phase⟩, ⟨9, .phase⟩, ⟨10, .phase⟩, ⟨11, .phase⟩, ⟨12, .textOnly .lateStores⟩, ⟨13, .textOnly .lateStores⟩, ⟨14, .textOnly .lateStores⟩, ⟨15, .textOnly .lateStores⟩, ⟨16, .textOnly .lateStores⟩, ⟨17, .textOnly .lateStores⟩, ⟨18, .phase⟩, ⟨19, .phase⟩, ⟨20, .phase⟩, ⟨21, .phase⟩, ⟨22, .phase⟩, ⟨23, .phase⟩, ⟨24, .phase⟩, ⟨25, .phase⟩, ⟨26, .phase⟩], none⟩) (v := ?_) rfl (by kernel_rfl) (by kernel_rfl) (by kernel_rfl) (fun _ _ _ h => by cases h.1) (.inl ⟨by rfl, ?_⟩) (by assumption) ?_
        rotate_left
        · (intro w' hSw; (try dsimp only at hSw); skip; go_simp <;> with_reducible rfl)
        (try simp only [Act.put, aT, aZ, aS])
        refine wpAnyH_take (i := 28) (oi := ⟨some 74, .fieldAddr 27 (.tmp 73) 1, 0, "outright.go:422", #[⟨27, .data⟩, ⟨0, .phase⟩, ⟨1, .phase⟩, ⟨2, .phase⟩, ⟨3, .phase⟩, ⟨4, .phase⟩, ⟨5, .phase⟩, ⟨6, .phase⟩, ⟨7, .phase⟩, ⟨8, .phase⟩, ⟨9, .phase⟩, ⟨10, .phase⟩, ⟨11, .phase⟩, ⟨12, .textOnly .lateStores⟩, ⟨13, .textOnly .lateStores⟩, ⟨14, .textOnly .lateStores⟩, ⟨15, .textOnly .lateStores⟩, ⟨16, .textOnly .lateStores⟩, ⟨17, .textOnly .lateStores⟩, ⟨18, .phase⟩, ⟨19, .phase⟩, ⟨20, .phase⟩, ⟨21, .phase⟩, ⟨22, .phase⟩, ⟨23, .phase⟩, ⟨24, .phase⟩, ⟨25, .phase⟩, ⟨26, .phase⟩], none⟩) (v := ?_) rfl (by kernel_rfl) (by kernel_rfl) (by kernel_rfl) (fun _ _ _ h => by cases h.1) (.inl ⟨by rfl, ?_⟩) (by assumption) ?_
        rotate_left
        · (intro w' hSw; (try dsimp only at hSw); skip; go_simp <;> with_reducible rfl)
        (try simp only [Act.put, aT, aZ, aS])
        refine wpAnyH_ready (rs := [29]) (by kernel_rfl) (by simp) ?_
        refine AllReadyH.cons (o := ⟨none, .store 23 (.tmp 74) (.tmp 60), 0, "outright.go:422", #[⟨28, .data⟩, ⟨11, .data⟩, ⟨26, .chain⟩, ⟨0, .phase⟩, ⟨1, .phase⟩, ⟨2, .phase⟩, ⟨3, .phase⟩, ⟨4, .phase⟩, ⟨5, .phase⟩, ⟨6, .phase⟩, ⟨7, .phase⟩, ⟨8, .phase⟩, ⟨9, .phase⟩, ⟨10, .phase⟩, ⟨11, .phase⟩, ⟨12, .textOnly .lateStores⟩, ⟨13, .textOnly .lateStores⟩, ⟨14, .textOnly .lateStores⟩, ⟨15, .textOnly .lateStores⟩, ⟨16, .textOnly .lateStores⟩, ⟨17, .textOnly .lateStores⟩, ⟨18, .phase⟩, ⟨19, .phase⟩, ⟨20, .phase⟩, ⟨21, .phase⟩, ⟨22, .phase⟩, ⟨23, .phase⟩, ⟨24, .phase⟩, ⟨25, .phase⟩, ⟨26, .phase⟩], none⟩) rfl (fun K hK => ?_) ?_
        · have z0 := hU.j5.at_ 8 (.int .i64 M.d1) rfl
          have z1 := hU.j5.at_ 9 (.int .i64 M.d2) rfl
          have f0 := hU.j5.free 8
          have f1 := hU.j5.free 9
          go_simp
          have hU_ := (hU.set5 8 (.int .i64 M.u1) { M with p1 := -M.p2, p2 := -M.p1, t1 := M.r1, t2 := M.r2, r1 := M.t1, r2 := M.t2, u1 := M.d1, u2 := M.d2, d1 := M.u1 } rfl).set5 9 (.int .i64 M.u2) { M with p1 := -M.p2, p2 := -M.p1, t1 := M.r1, t2 := M.r2, r1 := M.t1, r2 := M.t2, u1 := M.d1, u2 := M.d2, d1 := M.u1, d2 := M.u2 } rfl
          clear z0 z1 f0 f1 hU hS
          have hU := hU_
          have hS := hU_.j4
          clear hU_
          refine hK.out _ _ hS (fun _ => ?_)
          clear hK K
          (try simp only [Act.put, aT, aZ, aS])
          refine wpAnyH_take (i := 30) (oi := ⟨some 75, .fieldAddr 30 (.tmp 5) 1, 0, "outright.go:422", #[⟨0, .phase⟩, ⟨1, .phase⟩, ⟨2, .phase⟩, ⟨3, .phase⟩, ⟨4, .phase⟩, ⟨5, .phase⟩, ⟨6, .phase⟩, ⟨7, .phase⟩, ⟨8, .phase⟩, ⟨9, .phase⟩, ⟨10, .phase⟩, ⟨11, .phase⟩, ⟨12, .phase⟩, ⟨13, .phase⟩, ⟨14, .phase⟩, ⟨15, .textOnly .lateStores⟩, ⟨16, .textOnly .lateStores⟩, ⟨17, .textOnly .lateStores⟩, ⟨18, .phase⟩, ⟨19, .phase⟩, ⟨20, .phase⟩, ⟨21, .phase⟩, ⟨22, .phase⟩, ⟨23, .phase⟩, ⟨24, .phase⟩, ⟨25, .phase⟩, ⟨26, .phase⟩, ⟨27, .phase⟩, ⟨28, .phase⟩, ⟨29, .phase⟩], none⟩) (v := ?_) rfl (by kernel_rfl) (by kernel_rfl) (by kernel_rfl) (fun _ _ _ h => by cases h.1) (.inl ⟨by rfl, ?_⟩) (by assumption) ?_
          rotate_left
          · (intro w' hSw; (try dsimp only at hSw); skip; go_simp <;> with_reducible rfl)
          (try simp only [Act.put, aT, aZ, aS])
          refine wpAnyH_take (i := 31) (oi := ⟨some 76, .fieldAddr 27 (.tmp 75) 2, 0, "outright.go:422", #[⟨30, .data⟩, ⟨0, .phase⟩, ⟨1, .phase⟩, ⟨2, .phase⟩, ⟨3, .phase⟩, ⟨4, .phase⟩, ⟨5, .phase⟩, ⟨6, .phase⟩, ⟨7, .phase⟩, ⟨8, .phase⟩, ⟨9, .phase⟩, ⟨10, .phase⟩, ⟨11, .phase⟩, ⟨12, .phase⟩, ⟨13, .phase⟩, ⟨14, .phase⟩, ⟨15, .textOnly .lateStores⟩, ⟨16, .textOnly .lateStores⟩, ⟨17, .textOnly .lateStores⟩, ⟨18, .phase⟩, ⟨19, .phase⟩, ⟨20, .phase⟩, ⟨21, .phase⟩, ⟨22, .phase⟩, ⟨23, .phase⟩, ⟨24, .phase⟩, ⟨25, .phase⟩, ⟨26, .phase⟩, ⟨27, .phase⟩, ⟨28, .phase⟩, ⟨29, .phase⟩], none⟩) (v := ?_) rfl (by kernel_rfl) (by kernel_rfl) (by kernel_rfl) (fun _ _ _ h => by cases h.1) (.inl ⟨by rfl, ?_⟩) (by assumption) ?_
          rotate_left
          · (intro w' hSw; (try dsimp only at hSw); skip; go_simp <;> with_reducible rfl)
          (try simp only [Act.put, aT, aZ, aS])
          refine wpAnyH_ready (rs := [32]) (by kernel_rfl) (by simp) ?_
          refine AllReadyH.cons (o := ⟨none, .store 23 (.tmp 76) (.tmp 63), 0, "outright.go:422", #[⟨31, .data⟩, ⟨14, .data⟩, ⟨29, .chain⟩, ⟨0, .phase⟩, ⟨1, .phase⟩, ⟨2, .phase⟩, ⟨3, .phase⟩, ⟨4, .phase⟩, ⟨5, .phase⟩, ⟨6, .phase⟩, ⟨7, .phase⟩, ⟨8, .phase⟩, ⟨9, .phase⟩, ⟨10, .phase⟩, ⟨11, .phase⟩, ⟨12, .phase⟩, ⟨13, .phase⟩, ⟨14, .phase⟩, ⟨15, .textOnly .lateStores⟩, ⟨16, .textOnly .lateStores⟩, ⟨17, .textOnly .lateStores⟩, ⟨18, .phase⟩, ⟨19, .phase⟩, ⟨20, .phase⟩, ⟨21, .phase⟩, ⟨22, .phase⟩, ⟨23, .phase⟩, ⟨24, .phase⟩, ⟨25, .phase⟩, ⟨26, .phase⟩, ⟨27, .phase⟩, ⟨28, .phase⟩, ⟨29, .phase⟩], none⟩) rfl (fun K hK => ?_) ?_
          · have z0 := hU.j5.at_ 10 (.int .i64 M.x1) rfl
            have z1 := hU.j5.at_ 11 (.int .i64 M.x2) rfl
            have f0 := hU.j5.free 10
            have f1 := hU.j5.free 11
            go_simp
            have hU_ := (hU.set5 10 (.int .i64 M.y1) { M with p1 := -M.p2, p2 := -M.p1, t1 := M.r1, t2 := M.r2, r1 := M.t1, r2 := M.t2, u1 := M.d1, u2 := M.d2, d1 := M.u1, d2 := M.u2, x1 := M.y1 } rfl).set5 11 (.int .i64 M.y2) { M with p1 := -M.p2, p2 := -M.p1, t1 := M.r1, t2 := M.r2, r1 := M.t1, r2 := M.t2, u1 := M.d1, u2 := M.d2, d1 := M.u1, d2 := M.u2, x1 := M.y1, x2 := M.y2 } rfl
            clear z0 z1 f0 f1 hU hS
            have hU := hU_
            have hS := hU_.j4
            clear hU_
            refine hK.out _ _ hS (fun _ => ?_)
            clear hK K
            (try simp only [Act.put, aT, aZ, aS])
            refine wpAnyH_take (i := 33) (oi := ⟨some 77, .fieldAddr 30 (.tmp 5) 1, 0, "outright.go:422", #[⟨0, .phase⟩, ⟨1, .phase⟩, ⟨2, .phase⟩, ⟨3, .phase⟩, ⟨4, .phase⟩, ⟨5, .phase⟩, ⟨6, .phase⟩, ⟨7, .phase⟩, ⟨8, .phase⟩, ⟨9, .phase⟩, ⟨10, .phase⟩, ⟨11, .phase⟩, ⟨12, .phase⟩, ⟨13, .phase⟩, ⟨14, .phase⟩, ⟨15, .phase⟩, ⟨16, .phase⟩, ⟨17, .phase⟩, ⟨18, .phase⟩, ⟨19, .phase⟩, ⟨20, .phase⟩, ⟨21, .phase⟩, ⟨22, .phase⟩, ⟨23, .phase⟩, ⟨24, .phase⟩, ⟨25, .phase⟩, ⟨26, .phase⟩, ⟨27, .phase⟩, ⟨28, .phase⟩, ⟨29, .phase⟩, ⟨30, .phase⟩, ⟨31, .phase⟩, ⟨32, .phase⟩], none⟩) (v := ?_) rfl (by kernel_rfl) (by kernel_rfl) (by kernel_rfl) (fun _ _ _ h => by cases h.1) (.inl ⟨by rfl, ?_⟩) (by assumption) ?_
            rotate_left
            · (intro w' hSw; (try dsimp only at hSw); skip; go_simp <;> with_reducible rfl)
            (try simp only [Act.put, aT, aZ, aS])
            refine wpAnyH_take (i := 34) (oi := ⟨some 78, .fieldAddr 27 (.tmp 77) 3, 0, "outright.go:422", #[⟨33, .data⟩, ⟨0, .phase⟩, ⟨1, .phase⟩, ⟨2, .phase⟩, ⟨3, .phase⟩, ⟨4, .phase⟩, ⟨5, .phase⟩, ⟨6, .phase⟩, ⟨7, .phase⟩, ⟨8, .phase⟩, ⟨9, .phase⟩, ⟨10, .phase⟩, ⟨11, .phase⟩, ⟨12, .phase⟩, ⟨13, .phase⟩, ⟨14, .phase⟩, ⟨15, .phase⟩, ⟨16, .phase⟩, ⟨17, .phase⟩, ⟨18, .phase⟩, ⟨19, .phase⟩, ⟨20, .phase⟩, ⟨21, .phase⟩, ⟨22, .phase⟩, ⟨23, .phase⟩, ⟨24, .phase⟩, ⟨25, .phase⟩, ⟨26, .phase⟩, ⟨27, .phase⟩, ⟨28, .phase⟩, ⟨29, .phase⟩, ⟨30, .phase⟩, ⟨31, .phase⟩, ⟨32, .phase⟩], none⟩) (v := ?_) rfl (by kernel_rfl) (by kernel_rfl) (by kernel_rfl) (fun _ _ _ h => by cases h.1) (.inl ⟨by rfl, ?_⟩) (by assumption) ?_
            rotate_left
            · (intro w' hSw; (try dsimp only at hSw); skip; go_simp <;> with_reducible rfl)
            (try simp only [Act.put, aT, aZ, aS])
            refine wpAnyH_ready (rs := [35]) (by kernel_rfl) (by simp) ?_
            refine AllReadyH.cons (o := ⟨none, .store 23 (.tmp 78) (.tmp 66), 0, "outright.go:422", #[⟨34, .data⟩, ⟨17, .data⟩, ⟨32, .chain⟩, ⟨0, .phase⟩, ⟨1, .phase⟩, ⟨2, .phase⟩, ⟨3, .phase⟩, ⟨4, .phase⟩, ⟨5, .phase⟩, ⟨6, .phase⟩, ⟨7, .phase⟩, ⟨8, .phase⟩, ⟨9, .phase⟩, ⟨10, .phase⟩, ⟨11, .phase⟩, ⟨12, .phase⟩, ⟨13, .phase⟩, ⟨14, .phase⟩, ⟨15, .phase⟩, ⟨16, .phase⟩, ⟨17, .phase⟩, ⟨18, .phase⟩, ⟨19, .phase⟩, ⟨20, .phase⟩, ⟨21, .phase⟩, ⟨22, .phase⟩, ⟨23, .phase⟩, ⟨24, .phase⟩, ⟨25, .phase⟩, ⟨26, .phase⟩, ⟨27, .phase⟩, ⟨28, .phase⟩, ⟨29, .phase⟩, ⟨30, .phase⟩, ⟨31, .phase⟩, ⟨32, .phase⟩], none⟩) rfl (fun K hK => ?_) ?_
            · have z0 := hU.j5.at_ 12 (.int .i64 M.y1) rfl
              have z1 := hU.j5.at_ 13 (.int .i64 M.y2) rfl
              have f0 := hU.j5.free 12
              have f1 := hU.j5.free 13
              go_simp
              have hU_ := (hU.set5 12 (.int .i64 M.x1) { M with p1 := -M.p2, p2 := -M.p1, t1 := M.r1, t2 := M.r2, r1 := M.t1, r2 := M.t2, u1 := M.d1, u2 := M.d2, d1 := M.u1, d2 := M.u2, x1 := M.y1, x2 := M.y2, y1 := M.x1 } rfl).set5 13 (.int .i64 M.x2) { M with p1 := -M.p2, p2 := -M.p1, t1 := M.r1, t2 := M.r2, r1 := M.t1, r2 := M.t2, u1 := M.d1, u2 := M.d2, d1 := M.u1, d2 := M.u2, x1 := M.y1, x2 := M.y2, y1 := M.x1, y2 := M.x2 } rfl
              clear z0 z1 f0 f1 hU hS
              have hU := hU_
              have hS := hU_.j4
              clear hU_
              refine hK.out _ _ hS (fun _ => ?_)
              clear hK K
              (try simp only [Act.put, aT, aZ, aS])
              refine wpAnyH_done (by kernel_rfl) ?_ _
              exact ⟨rfl, _, _, _, _, _, _, _, _, _, _, _, _, _, _, _, _, _, _, _, _, _, _, _, _, _, _, _, _, _, _, rfl, hU⟩
            exact AllReadyH.nil
          exact AllReadyH.nil
        exact AllReadyH.nil
      exact AllReadyH.nil
    exact AllReadyH.nil
  exact AllReadyH.nil
set_option maxHeartbeats 4000000 in
set_option maxRecDepth 1000000 in
theorem mipart4 {w0 w : World} {B g4 g5 b : Nat} {M : Jb} {a oa : Option Addr} {n c oc : Nat} {u0 u1 u2 u6 u7 u8 u9 A0 A1 A2 A3 A4 A5 A6 A7 A8 A9 Aa Ab Ac Ad Ae Af Ag Ah Ai Aj Ak Al Am An Ao Ap Aq Ar As At Au Av Aw Ax Ay Az C0 C1 C2 C3 C4 C5 C6 C7 C8 C9 Ca Cb Cc Cd Ce Cf Cg Ch Ci Cj Ck Cl Cm Cn Co Cp Cq Cr Cs Ct Cu Cv Cw Cx Cy Cz D0 D1 D2 D3 D4 D5 D6 D7 D8 D9 Da Db Dc Dd De Df Dg Dh Di Dj Dk Dl Dm Dn Do Dp Dq Dr Ds Dt Du Dv Dw Dx Dy Dz E0 E1 E2 E3 E4 E5 E6 E7 E8 E9 Ea Eb Ec Ed Ee Ef Eg Eh Ei Ej Ek El Em En Eo Ep Eq Er Es Et Eu Ev Ew Ex Ey Ez F0 F1 F2 F3 F4 F5 F6 F7 F8 F9 Fa Fb Fc Fd Fe Ff Fg Fh Fi Fj Fk Fl Fm Fn Fo Fp Fq Fr Fs Ft Fu Fv Fw Fx Fy Fz L0 L1 L2 L3 L4 L5 L6 L7 L8 L9 La Lb Lc Ld Le Lf Lg Lh Li Lj Lk Ll Lm Ln Lo Lp Lq Lr Ls Lt Lu Lv Lw Lx Ly Lz M0 M1 M2 M3 M4 M5 M6 M7 M8 M9 Ma Mb Mc Md Me Mf Mg Mh Mi Mj Mk Ml Mm Mn Mo Mp Mq Mr Ms Mt Mu Mv Mw Mx My Mz N0 N1 N2 N3 N4 N5 N6 N7 N8 N9 Na Nb Nc Nd Ne Nf Ng Nh Ni Nj Nk Nl Nm : Value} (htun : TunOK) (hshort : ShortOK) (hfine : FineOK) (hs : US w0 B g4 g5 b M M a n c oa oc M.sh w) : Code.wp Try.prog mirest4 (QMI w0) ⟨#[u0, u1, u2, (.pointer (some ⟨b, 0, none⟩)), (.pointer (some ⟨g4, 0, none⟩)), (.pointer (some ⟨g5, 0, none⟩)), u6, u7, u8, u9, A0, A1, A2, A3, A4, A5, A6, A7, A8, A9, Aa, Ab, Ac, Ad, Ae, Af, Ag, Ah, Ai, Aj, Ak, Al, Am, An, Ao, Ap, Aq, Ar, As, At, Au, Av, Aw, Ax, Ay, Az, C0, C1, C2, C3, C4, C5, C6, C7, C8, C9, Ca, Cb, Cc, Cd, Ce, Cf, Cg, Ch, Ci, Cj, Ck, Cl, Cm, Cn, Co, Cp, Cq, Cr, Cs, Ct, Cu, Cv, Cw, Cx, Cy, Cz, D0, D1, D2, D3, D4, D5, D6, D7, D8, D9, Da, Db, Dc, Dd, De, Df, Dg, Dh, Di, Dj, Dk, Dl, Dm, Dn, Do, Dp, Dq, Dr, Ds, Dt, Du, Dv, Dw, Dx, Dy, Dz, E0, E1, E2, E3, E4, E5, E6, E7, E8, E9, Ea, Eb, Ec, Ed, Ee, Ef, Eg, Eh, Ei, Ej, Ek, El, Em, En, Eo, Ep, Eq, Er, Es, Et, Eu, Ev, Ew, Ex, Ey, Ez, F0, F1, F2, F3, F4, F5, F6, F7, F8, F9, Fa, Fb, Fc, Fd, Fe, Ff, Fg, Fh, Fi, Fj, Fk, Fl, Fm, Fn, Fo, Fp, Fq, Fr, Fs, Ft, Fu, Fv, Fw, Fx, Fy, Fz, L0, L1, L2, L3, L4, L5, L6, L7, L8, L9, La, Lb, Lc, Ld, Le, Lf, Lg, Lh, Li, Lj, Lk, Ll, Lm, Ln, Lo, Lp, Lq, Lr, Ls, Lt, Lu, Lv, Lw, Lx, Ly, Lz, M0, M1, M2, M3, M4, M5, M6, M7, M8, M9, Ma, Mb, Mc, Md, Me, Mf, Mg, Mh, Mi, Mj, Mk, Ml, Mm, Mn, Mo, Mp, Mq, Mr, Ms, Mt, Mu, Mv, Mw, Mx, My, Mz, N0, N1, N2, N3, N4, N5, N6, N7, N8, N9, Na, Nb, Nc, Nd, Ne, Nf, Ng, Nh, Ni, Nj, Nk, Nl, Nm], []⟩ w := by
  rw [mirest4_eq]
  have HT := hidMk htun
  have HSO := hidMk hshort
  have HFO := hidMk hfine
  clear htun hshort hfine
  have hfull := (check_full hs.ck).p
  have n1 : IntKind.i64.wrap (-M.p1) = -M.p1 := IntWalk.i64_in _ (by omega)
  have n2 : IntKind.i64.wrap (-M.p2) = -M.p2 := IntWalk.i64_in _ (by omega)
  clear hfull
  have c0 := hs.j4.at_ 0 (.int .i64 M.p1) rfl
  have c1 := hs.j4.at_ 1 (.int .i64 M.p2) rfl
  have HS := hidMk hs
  clear hs
  go_wp2_with (go_at_call 35; refine (to_any _ _ _).mono ?_; rintro e w5 ⟨rfl, hb5⟩; have HS5 := hidMk (HS.out.next hb5); clear hb5; have z0 := HS5.out.j5.at_ 0 (.int .i64 M.p1) rfl; have z1 := HS5.out.j5.at_ 1 (.int .i64 M.p2) rfl; have f0 := HS5.out.j5.free 0; have f1 := HS5.out.j5.free 1)
  have hU_ := (HS5.out.set5 0 (.int .i64 (-M.p2)) { M with p1 := -M.p2 } rfl).set5 1 (.int .i64 (-M.p1)) { M with p1 := -M.p2, p2 := -M.p1 } rfl
  exact mipart5 HT.out HSO.out HFO.out hU_
end Go.Proofs.Ytbebofmpimfbgaa
/- The law ReedMirrored. -/
namespace Go.Proofs.Ytbebofmpimfbgaa
set_option linter.all false
open Go.RowKit
set_option maxHeartbeats 4000000 in
set_option maxRecDepth 1000000 in
theorem mipart3 {w0 w : World} {b g4 : Nat} {M : Jb} {a : Option Addr} {n c : Nat} {u0 u1 u2 u5 u6 u7 u8 u9 A0 A1 A2 A3 A4 A5 A6 A7 A8 A9 Aa Ab Ac Ad Ae Af Ag Ah Ai Aj Ak Al Am An Ao Ap Aq Ar As At Au Av Aw Ax Ay Az C0 C1 C2 C3 C4 C5 C6 C7 C8 C9 Ca Cb Cc Cd Ce Cf Cg Ch Ci Cj Ck Cl Cm Cn Co Cp Cq Cr Cs Ct Cu Cv Cw Cx Cy Cz D0 D1 D2 D3 D4 D5 D6 D7 D8 D9 Da Db Dc Dd De Df Dg Dh Di Dj Dk Dl Dm Dn Do Dp Dq Dr Ds Dt Du Dv Dw Dx Dy Dz E0 E1 E2 E3 E4 E5 E6 E7 E8 E9 Ea Eb Ec Ed Ee Ef Eg Eh Ei Ej Ek El Em En Eo Ep Eq Er Es Et Eu Ev Ew Ex Ey Ez F0 F1 F2 F3 F4 F5 F6 F7 F8 F9 Fa Fb Fc Fd Fe Ff Fg Fh Fi Fj Fk Fl Fm Fn Fo Fp Fq Fr Fs Ft Fu Fv Fw Fx Fy Fz L0 L1 L2 L3 L4 L5 L6 L7 L8 L9 La Lb Lc Ld Le Lf Lg Lh Li Lj Lk Ll Lm Ln Lo Lp Lq Lr Ls Lt Lu Lv Lw Lx Ly Lz M0 M1 M2 M3 M4 M5 M6 M7 M8 M9 Ma Mb Mc Md Me Mf Mg Mh Mi Mj Mk Ml Mm Mn Mo Mp Mq Mr Ms Mt Mu Mv Mw Mx My Mz N0 N1 N2 N3 N4 N5 N6 N7 N8 N9 Na Nb Nc Nd Ne Nf Ng Nh Ni Nj Nk Nl Nm : Value} (htun : TunOK) (hshort : ShortOK) (hfine : FineOK) (hb0 : Below w0.heap.size w0 w) (hbw : w0.heap.size ≤ b) (hp : Pt w b) (h4 : Bk w g4 30 (jobC M (.slice a n c))) (hrg : Rg w w.heap.size a M.sh) (hn : n = M.sh.length) (hck : M.check = 0) : Code.wp Try.prog mirest3 (QMI w0) ⟨#[u0, u1, u2, (.pointer (some ⟨b, 0, none⟩)), (.pointer (some ⟨g4, 0, none⟩)), u5, u6, u7, u8, u9, A0, A1, A2, A3, A4, A5, A6, A7, A8, A9, Aa, Ab, Ac, Ad, Ae, Af, Ag, Ah, Ai, Aj, Ak, Al, Am, An, Ao, Ap, Aq, Ar, As, At, Au, Av, Aw, Ax, Ay, Az, C0, C1, C2, C3, C4, C5, C6, C7, C8, C9, Ca, Cb, Cc, Cd, Ce, Cf, Cg, Ch, Ci, Cj, Ck, Cl, Cm, Cn, Co, Cp, Cq, Cr, Cs, Ct, Cu, Cv, Cw, Cx, Cy, Cz, D0, D1, D2, D3, D4, D5, D6, D7, D8, D9, Da, Db, Dc, Dd, De, Df, Dg, Dh, Di, Dj, Dk, Dl, Dm, Dn, Do, Dp, Dq, Dr, Ds, Dt, Du, Dv, Dw, Dx, Dy, Dz, E0, E1, E2, E3, E4, E5, E6, E7, E8, E9, Ea, Eb, Ec, Ed, Ee, Ef, Eg, Eh, Ei, Ej, Ek, El, Em, En, Eo, Ep, Eq, Er, Es, Et, Eu, Ev, Ew, Ex, Ey, Ez, F0, F1, F2, F3, F4, F5, F6, F7, F8, F9, Fa, Fb, Fc, Fd, Fe, Ff, Fg, Fh, Fi, Fj, Fk, Fl, Fm, Fn, Fo, Fp, Fq, Fr, Fs, Ft, Fu, Fv, Fw, Fx, Fy, Fz, L0, L1, L2, L3, L4, L5, L6, L7, L8, L9, La, Lb, Lc, Ld, Le, Lf, Lg, Lh, Li, Lj, Lk, Ll, Lm, Ln, Lo, Lp, Lq, Lr, Ls, Lt, Lu, Lv, Lw, Lx, Ly, Lz, M0, M1, M2, M3, M4, M5, M6, M7, M8, M9, Ma, Mb, Mc, Md, Me, Mf, Mg, Mh, Mi, Mj, Mk, Ml, Mm, Mn, Mo, Mp, Mq, Mr, Ms, Mt, Mu, Mv, Mw, Mx, My, Mz, N0, N1, N2, N3, N4, N5, N6, N7, N8, N9, Na, Nb, Nc, Nd, Ne, Nf, Ng, Nh, Ni, Nj, Nk, Nl, Nm], []⟩ w := by
  rw [mirest3_eq]
  have HT := hidMk htun
  have HSO := hidMk hshort
  have HFO := hidMk hfine
  have HB0 := hidMk hb0
  have HP := hidMk hp
  have H4 := hidMk h4
  have HR := hidMk hrg
  have HN := hidMk hn
  have HC := hidMk hck
  clear htun hshort hfine hb0 hp h4 hrg hn hck
  go_wp2_with (refine wpList_load_row rfl 30 _ rfl g4 rfl _ (jobC M (.slice a n c)) _ _ H4.out Try.underlying30 rfl szJob ?_)
  refine (copyJob_any M a n c _ HN.out (by have h4 := (check_full HC.out).len; have := HN.out; omega) HR.out).mono ?_
  rintro e' w2 ⟨oa, oc, rfl, own, hb2⟩
  have HOW := hidMk own
  have HB2 := hidMk hb2
  clear own hb2
  go_wp2_with (first | (refine wpList_store_row rfl 30 _ _ rfl w2.heap.size (jobC M (.slice oa n oc)) rfl rfl _ _ (Bk.new _ _ _) szJob rfl (oneJob _ _ _ _) ?_; rw [World.setRow_alloc_new]))
  have q : Below w2.heap.size w2 (w2.alloc (.cells (jobC M (.slice oa n oc)) 30)) := (Below.refl _ _).alloc (Nat.le_refl _) _
  have q2 : Below w.heap.size w (w2.alloc (.cells (jobC M (.slice oa n oc)) 30)) := HB2.out.trans (q.mono HB2.out.size)
  have hz := HB0.out.size
  have hz2 := HB2.out.size
  exact mipart4 HT.out HSO.out HFO.out (B := w.heap.size) ⟨HB0.out.trans (q2.mono hz), ⟨hbw, hz⟩, HP.out.below q2 HP.out.lt, H4.out.below q2 H4.out.lt, HR.out.below q2, Bk.new _ _ _, own_below HOW.out q, ⟨HP.out.lt, H4.out.lt, hz2, q2.size⟩, HN.out, HC.out, HN.out.symm⟩
set_option maxHeartbeats 4000000 in
set_option maxRecDepth 1000000 in
theorem mipart2 {w0 w : World} {b : Nat} {u0 u1 u2 u4 u5 u6 u7 u8 u9 A0 A1 A2 A3 A4 A5 A6 A7 A8 A9 Aa Ab Ac Ad Ae Af Ag Ah Ai Aj Ak Al Am An Ao Ap Aq Ar As At Au Av Aw Ax Ay Az C0 C1 C2 C3 C4 C5 C6 C7 C8 C9 Ca Cb Cc Cd Ce Cf Cg Ch Ci Cj Ck Cl Cm Cn Co Cp Cq Cr Cs Ct Cu Cv Cw Cx Cy Cz D0 D1 D2 D3 D4 D5 D6 D7 D8 D9 Da Db Dc Dd De Df Dg Dh Di Dj Dk Dl Dm Dn Do Dp Dq Dr Ds Dt Du Dv Dw Dx Dy Dz E0 E1 E2 E3 E4 E5 E6 E7 E8 E9 Ea Eb Ec Ed Ee Ef Eg Eh Ei Ej Ek El Em En Eo Ep Eq Er Es Et Eu Ev Ew Ex Ey Ez F0 F1 F2 F3 F4 F5 F6 F7 F8 F9 Fa Fb Fc Fd Fe Ff Fg Fh Fi Fj Fk Fl Fm Fn Fo Fp Fq Fr Fs Ft Fu Fv Fw Fx Fy Fz L0 L1 L2 L3 L4 L5 L6 L7 L8 L9 La Lb Lc Ld Le Lf Lg Lh Li Lj Lk Ll Lm Ln Lo Lp Lq Lr Ls Lt Lu Lv Lw Lx Ly Lz M0 M1 M2 M3 M4 M5 M6 M7 M8 M9 Ma Mb Mc Md Me Mf Mg Mh Mi Mj Mk Ml Mm Mn Mo Mp Mq Mr Ms Mt Mu Mv Mw Mx My Mz N0 N1 N2 N3 N4 N5 N6 N7 N8 N9 Na Nb Nc Nd Ne Nf Ng Nh Ni Nj Nk Nl Nm : Value} (htun : TunOK) (hshort : ShortOK) (hfine : FineOK) (hj : JobOKn 3 1) (hb0 : Below w0.heap.size w0 w) (hp : Pt w b) (hbw : w0.heap.size ≤ b) : Code.wp Try.prog mirest2 (QMI w0) ⟨#[u0, u1, u2, (.pointer (some ⟨b, 0, none⟩)), u4, u5, u6, u7, u8, u9, A0, A1, A2, A3, A4, A5, A6, A7, A8, A9, Aa, Ab, Ac, Ad, Ae, Af, Ag, Ah, Ai, Aj, Ak, Al, Am, An, Ao, Ap, Aq, Ar, As, At, Au, Av, Aw, Ax, Ay, Az, C0, C1, C2, C3, C4, C5, C6, C7, C8, C9, Ca, Cb, Cc, Cd, Ce, Cf, Cg, Ch, Ci, Cj, Ck, Cl, Cm, Cn, Co, Cp, Cq, Cr, Cs, Ct, Cu, Cv, Cw, Cx, Cy, Cz, D0, D1, D2, D3, D4, D5, D6, D7, D8, D9, Da, Db, Dc, Dd, De, Df, Dg, Dh, Di, Dj, Dk, Dl, Dm, Dn, Do, Dp, Dq, Dr, Ds, Dt, Du, Dv, Dw, Dx, Dy, Dz, E0, E1, E2, E3, E4, E5, E6, E7, E8, E9, Ea, Eb, Ec, Ed, Ee, Ef, Eg, Eh, Ei, Ej, Ek, El, Em, En, Eo, Ep, Eq, Er, Es, Et, Eu, Ev, Ew, Ex, Ey, Ez, F0, F1, F2, F3, F4, F5, F6, F7, F8, F9, Fa, Fb, Fc, Fd, Fe, Ff, Fg, Fh, Fi, Fj, Fk, Fl, Fm, Fn, Fo, Fp, Fq, Fr, Fs, Ft, Fu, Fv, Fw, Fx, Fy, Fz, L0, L1, L2, L3, L4, L5, L6, L7, L8, L9, La, Lb, Lc, Ld, Le, Lf, Lg, Lh, Li, Lj, Lk, Ll, Lm, Ln, Lo, Lp, Lq, Lr, Ls, Lt, Lu, Lv, Lw, Lx, Ly, Lz, M0, M1, M2, M3, M4, M5, M6, M7, M8, M9, Ma, Mb, Mc, Md, Me, Mf, Mg, Mh, Mi, Mj, Mk, Ml, Mm, Mn, Mo, Mp, Mq, Mr, Ms, Mt, Mu, Mv, Mw, Mx, My, Mz, N0, N1, N2, N3, N4, N5, N6, N7, N8, N9, Na, Nb, Nc, Nd, Ne, Nf, Ng, Nh, Ni, Nj, Nk, Nl, Nm], []⟩ w := by
  rw [mirest2_eq]
  have HT := hidMk htun
  have HSO := hidMk hshort
  have HFO := hidMk hfine
  have HJ := hidMk hj
  have HB0 := hidMk hb0
  clear htun hshort hfine hj hb0
  have hz := HB0.out.size
  go_wp2_with fail
  refine (HJ.out b _ hp).mono ?_
  rintro e w2 ⟨M, ma, mn, mc, rfl, hmn, hmg, hck, hk, hp2⟩
  have hB2 := HB0.out.trans ((hk.mono hz).toBelow hbw)
  have HB2 := hidMk hB2
  have HMN := hidMk hmn
  have HMG := hidMk hmg
  have HCK := hidMk hck
  have HP2 := hidMk hp2
  clear hk hp2 hB2 hmn hmg hck
  go_wp2_with (first | (refine wpList_store_row rfl 30 _ _ rfl w2.heap.size (jobC M (.slice ma mn mc)) rfl rfl _ _ (Bk.new _ _ _) szJob rfl (oneJob _ _ _ _) ?_; rw [World.setRow_alloc_new]))
  have q : Below w2.heap.size w2 (w2.alloc (.cells (jobC M (.slice ma mn mc)) 30)) := (Below.refl _ _).alloc (Nat.le_refl _) _
  exact mipart3 HT.out HSO.out HFO.out (HB2.out.trans (q.mono HB2.out.size)) hbw (HP2.out.below q HP2.out.lt) (Bk.new _ _ _) (HMG.out.up q) HMN.out HCK.out
set_option maxHeartbeats 2000000 in
set_option maxRecDepth 1000000 in
theorem reedMirrored_any (hj : JobOKn 3 1) (hshort : ShortOK) (hfine : FineOK) (htun : TunOK) (na : Option Addr) (nn nc : Nat) (nl : List Int) (w : World) (hnn : nn = nl.length) (hnm : nn ≤ 9223372036854775807) (hnl : Is w w.heap.size na nl) :
    Calls Try.prog 9 #[.slice na nn nc] w fun e w' => e = .returned (.bool true) ∧ Below w.heap.size w w' := by
  have HJ := hidMk hj
  have HS := hidMk hshort
  have HF := hidMk hfine
  have HT := hidMk htun
  have HNN := hidMk hnn
  have HNL := hidMk hnl
  clear hj hshort hfine htun hnn hnl
  go_enter Try.func9, Try.ntmps9
  show Code.wp Try.prog mibody (QMI w) _ _
  rw [mibody_eq]
  go_wp2_with fail
  rw [mirest1_eq]
  go_wp2_with fail
  refine (newPot_any na nn nc nl _ HNN.out hnm HNL.out).mono ?_
  rintro e w1 ⟨s, t, rfl, hb, hB1⟩
  have hp1 : Pt w1 w.heap.size := ⟨_, _, hb⟩
  have HB1 := hidMk hB1
  clear hb hB1
  go_wp2_with fail
  exact mipart2 HT.out HS.out HF.out HJ.out HB1.out hp1 (Nat.le_refl _)
end Go.Proofs.Ytbebofmpimfbgaa
