/- Part 19 of the proof: BeH, BeI. -/
import Derived.IntWalk
import Derived.Deep.WholeRow
import Derived.Test.YtbebofmpimfbgaaB18
/- The law ReedBetter: the tongue. -/
namespace Go.Proofs.Ytbebofmpimfbgaa
set_option linter.all false
open Go.RowKit
set_option maxHeartbeats 4000000 in
set_option maxRecDepth 1000000 in
theorem bepart4 {w0 w : World} {B g4 g5 b : Nat} {M : Jb} {a oa : Option Addr} {n c oc : Nat} {u0 u1 u2 u6 u7 u8 u9 A0 A1 A2 A3 A4 A5 A6 A7 A8 A9 Aa Ab Ac Ad Ae Af Ag Ah Ai Aj Ak Al Am An Ao Ap Aq Ar As At Au Av Aw Ax Ay Az C0 C1 C2 C3 C4 C5 C6 C7 C8 C9 Ca Cb Cc Cd Ce Cf Cg Ch Ci Cj Ck Cl Cm Cn Co Cp Cq Cr Cs Ct Cu Cv Cw Cx Cy Cz D0 D1 D2 D3 D4 D5 D6 D7 D8 D9 Da Db Dc Dd De Df Dg Dh Di Dj Dk Dl Dm Dn Do Dp Dq Dr Ds Dt Du Dv Dw Dx Dy Dz E0 E1 E2 E3 E4 E5 E6 E7 E8 E9 Ea Eb Ec Ed Ee Ef Eg Eh Ei Ej Ek El Em En Eo Ep Eq Er Es Et Eu Ev Ew Ex Ey Ez F0 F1 F2 F3 F4 F5 F6 F7 F8 F9 Fa Fb Fc Fd Fe Ff Fg Fh Fi Fj Fk Fl Fm Fn Fo Fp Fq Fr Fs Ft Fu Fv Fw Fx Fy Fz L0 L1 L2 L3 L4 L5 L6 L7 L8 L9 La Lb Lc Ld Le Lf Lg Lh Li Lj Lk Ll Lm Ln Lo Lp Lq Lr Ls Lt Lu Lv Lw Lx Ly Lz M0 M1 M2 M3 M4 M5 M6 M7 M8 M9 Ma Mb Mc Md Me Mf Mg Mh Mi Mj Mk Ml Mm Mn Mo Mp Mq Mr Ms Mt Mu Mv Mw Mx My Mz N0 : Value} (htun : TunOK) (hshort : ShortOK) (hfine : FineOK) (hs : US w0 B g4 g5 b M M a n c oa oc M.sh w) : Code.wp Try.prog berest4 (QBE w0) ⟨#[u0, u1, u2, (.pointer (some ⟨b, 0, none⟩)), (.pointer (some ⟨g4, 0, none⟩)), (.pointer (some ⟨g5, 0, none⟩)), u6, u7, u8, u9, A0, A1, A2, A3, A4, A5, A6, A7, A8, A9, Aa, Ab, Ac, Ad, Ae, Af, Ag, Ah, Ai, Aj, Ak, Al, Am, An, Ao, Ap, Aq, Ar, As, At, Au, Av, Aw, Ax, Ay, Az, C0, C1, C2, C3, C4, C5, C6, C7, C8, C9, Ca, Cb, Cc, Cd, Ce, Cf, Cg, Ch, Ci, Cj, Ck, Cl, Cm, Cn, Co, Cp, Cq, Cr, Cs, Ct, Cu, Cv, Cw, Cx, Cy, Cz, D0, D1, D2, D3, D4, D5, D6, D7, D8, D9, Da, Db, Dc, Dd, De, Df, Dg, Dh, Di, Dj, Dk, Dl, Dm, Dn, Do, Dp, Dq, Dr, Ds, Dt, Du, Dv, Dw, Dx, Dy, Dz, E0, E1, E2, E3, E4, E5, E6, E7, E8, E9, Ea, Eb, Ec, Ed, Ee, Ef, Eg, Eh, Ei, Ej, Ek, El, Em, En, Eo, Ep, Eq, Er, Es, Et, Eu, Ev, Ew, Ex, Ey, Ez, F0, F1, F2, F3, F4, F5, F6, F7, F8, F9, Fa, Fb, Fc, Fd, Fe, Ff, Fg, Fh, Fi, Fj, Fk, Fl, Fm, Fn, Fo, Fp, Fq, Fr, Fs, Ft, Fu, Fv, Fw, Fx, Fy, Fz, L0, L1, L2, L3, L4, L5, L6, L7, L8, L9, La, Lb, Lc, Ld, Le, Lf, Lg, Lh, Li, Lj, Lk, Ll, Lm, Ln, Lo, Lp, Lq, Lr, Ls, Lt, Lu, Lv, Lw, Lx, Ly, Lz, M0, M1, M2, M3, M4, M5, M6, M7, M8, M9, Ma, Mb, Mc, Md, Me, Mf, Mg, Mh, Mi, Mj, Mk, Ml, Mm, Mn, Mo, Mp, Mq, Mr, Ms, Mt, Mu, Mv, Mw, Mx, My, Mz, N0], []⟩ w := by
  rw [berest4_eq]
  have HT := hidMk htun
  have HSO := hidMk hshort
  have HFO := hidMk hfine
  clear htun hshort hfine
  have hfull := check_full hs.ck
  have hfp := hfull.p; have hft := hfull.t; have hfr := hfull.r; have hfu := hfull.u; have hfd := hfull.d; have hfx := hfull.x; have hfy := hfull.y
  clear hfull
  refine wp_seq_k fun K0 hKK => ?_
  refine region_via (R := fun a_ e a' w' => e = .normal ∧ ∃ (v26 v27 v28 v29 v30 v31 v32 v33 v34 v35 v36 v37 v38 v39 v40 v41 v42 v43 v44 v45 v46 v47 v48 v49 v50 v51 v52 v53 v54 v55 v56 v57 v58 v59 v60 v61 : Value) (py pz ty tz ry rz : Int), a' = ((((((((((((((((((((((((((((((((((((a_.put (some 26) v26).put (some 27) v27).put (some 28) v28).put (some 29) v29).put (some 30) v30).put (some 31) v31).put (some 32) v32).put (some 33) v33).put (some 34) v34).put (some 35) v35).put (some 36) v36).put (some 37) v37).put (some 38) v38).put (some 39) v39).put (some 40) v40).put (some 41) v41).put (some 42) v42).put (some 43) v43).put (some 44) v44).put (some 45) v45).put (some 46) v46).put (some 47) v47).put (some 48) v48).put (some 49) v49).put (some 50) v50).put (some 51) v51).put (some 52) v52).put (some 53) v53).put (some 54) v54).put (some 55) v55).put (some 56) v56).put (some 57) v57).put (some 58) v58).put (some 59) v59).put (some 60) v60).put (some 61) v61) ∧ (Nr (M.p1, M.p2) (py, pz) ∧ Nr (M.t1, M.t2) (ty, tz) ∧ Nr (M.r1, M.r2) (ry, rz)) ∧ US w0 B g4 g5 b M { M with p1 := py, p2 := pz, t1 := ty, t2 := tz, r1 := ry, r2 := rz } a n c oa oc M.sh w') ?_ ?_
  rotate_left
  · rintro e a' w' ⟨rfl, v26, v27, v28, v29, v30, v31, v32, v33, v34, v35, v36, v37, v38, v39, v40, v41, v42, v43, v44, v45, v46, v47, v48, v49, v50, v51, v52, v53, v54, v55, v56, v57, v58, v59, v60, v61, py, pz, ty, tz, ry, rz, rfl, ⟨kp, kt, kr⟩, hs2⟩
    refine hKK _ _ ?_
    simp only [Act.put, aT, aZ, aS]
    exact bepart5 HT.out HSO.out HFO.out hs2 kp kt kr
  have hU := hs.next (Below.refl _ _).drew
  have hS := hU.j4
  clear hs
  refine wp_region_held_drew (S := fun w' => Bk w' g4 30 (jobC M (.slice a n c))) (by kernel_rfl) hS (fun hS0 => ?_)
  clear hS0
  generalize w.drew = wd at hS hU ⊢
  refine wpAnyH_take (i := 0) (oi := ⟨some 26, .move (.tmp 3), 34, "outright.go:372", #[], none⟩) (v := ?_) rfl (by kernel_rfl) (by kernel_rfl) (by kernel_rfl) (fun _ _ _ h => by cases h.1) (.inl ⟨by rfl, ?_⟩) (by assumption) ?_
  rotate_left
  · (intro w' hSw; (try dsimp only at hSw); skip; go_simp <;> with_reducible rfl)
  (try simp only [Act.put, aT, aZ, aS])
  refine wpAnyH_take (i := 1) (oi := ⟨some 27, .fieldAddr 30 (.tmp 4) 0, 0, "outright.go:372", #[], none⟩) (v := ?_) rfl (by kernel_rfl) (by kernel_rfl) (by kernel_rfl) (fun _ _ _ h => by cases h.1) (.inl ⟨by rfl, ?_⟩) (by assumption) ?_
  rotate_left
  · (intro w' hSw; (try dsimp only at hSw); skip; go_simp <;> with_reducible rfl)
  (try simp only [Act.put, aT, aZ, aS])
  refine wpAnyH_take (i := 2) (oi := ⟨some 28, .fieldAddr 25 (.tmp 27) 0, 0, "outright.go:372", #[⟨1, .data⟩], none⟩) (v := ?_) rfl (by kernel_rfl) (by kernel_rfl) (by kernel_rfl) (fun _ _ _ h => by cases h.1) (.inl ⟨by rfl, ?_⟩) (by assumption) ?_
  rotate_left
  · (intro w' hSw; (try dsimp only at hSw); skip; go_simp <;> with_reducible rfl)
  (try simp only [Act.put, aT, aZ, aS])
  refine wpAnyH_take (i := 3) (oi := ⟨some 29, .load 23 (.tmp 28), 23, "outright.go:372", #[⟨2, .data⟩], none⟩) rfl (by kernel_rfl) (by kernel_rfl) (by kernel_rfl) (fun _ _ _ h => by cases h.1) (yields_midB (by rfl) 23 _ rfl g4 0 rfl #[.int .i64 M.p1, .int .i64 M.p2] _ (fun w hw => bk_two hw 0 rfl rfl) Try.underlying23 rfl szRange) (by assumption) ?_
  (try simp only [Act.put, aT, aZ, aS])
  refine wpAnyH_take (i := 4) (oi := ⟨some 30, .move (.tmp 3), 34, "outright.go:372", #[], none⟩) (v := ?_) rfl (by kernel_rfl) (by kernel_rfl) (by kernel_rfl) (fun _ _ _ h => by cases h.1) (.inl ⟨by rfl, ?_⟩) (by assumption) ?_
  rotate_left
  · (intro w' hSw; (try dsimp only at hSw); skip; go_simp <;> with_reducible rfl)
  (try simp only [Act.put, aT, aZ, aS])
  refine wpAnyH_take (i := 5) (oi := ⟨some 31, .fieldAddr 30 (.tmp 4) 0, 0, "outright.go:372", #[], none⟩) (v := ?_) rfl (by kernel_rfl) (by kernel_rfl) (by kernel_rfl) (fun _ _ _ h => by cases h.1) (.inl ⟨by rfl, ?_⟩) (by assumption) ?_
  rotate_left
  · (intro w' hSw; (try dsimp only at hSw); skip; go_simp <;> with_reducible rfl)
  (try simp only [Act.put, aT, aZ, aS])
  refine wpAnyH_take (i := 6) (oi := ⟨some 32, .fieldAddr 25 (.tmp 31) 0, 0, "outright.go:372", #[⟨5, .data⟩], none⟩) (v := ?_) rfl (by kernel_rfl) (by kernel_rfl) (by kernel_rfl) (fun _ _ _ h => by cases h.1) (.inl ⟨by rfl, ?_⟩) (by assumption) ?_
  rotate_left
  · (intro w' hSw; (try dsimp only at hSw); skip; go_simp <;> with_reducible rfl)
  (try simp only [Act.put, aT, aZ, aS])
  refine wpAnyH_take (i := 7) (oi := ⟨some 33, .load 23 (.tmp 32), 23, "outright.go:372", #[⟨6, .data⟩], none⟩) rfl (by kernel_rfl) (by kernel_rfl) (by kernel_rfl) (fun _ _ _ h => by cases h.1) (yields_midB (by rfl) 23 _ rfl g4 0 rfl #[.int .i64 M.p1, .int .i64 M.p2] _ (fun w hw => bk_two hw 0 rfl rfl) Try.underlying23 rfl szRange) (by assumption) ?_
  (try simp only [Act.put, aT, aZ, aS])
  refine wpAnyH_take (i := 10) (oi := ⟨some 36, .move (.tmp 3), 34, "outright.go:372", #[], none⟩) (v := ?_) rfl (by kernel_rfl) (by kernel_rfl) (by kernel_rfl) (fun _ _ _ h => by cases h.1) (.inl ⟨by rfl, ?_⟩) (by assumption) ?_
  rotate_left
  · (intro w' hSw; (try dsimp only at hSw); skip; go_simp <;> with_reducible rfl)
  (try simp only [Act.put, aT, aZ, aS])
  refine wpAnyH_take (i := 11) (oi := ⟨some 37, .fieldAddr 30 (.tmp 4) 0, 0, "outright.go:372", #[], none⟩) (v := ?_) rfl (by kernel_rfl) (by kernel_rfl) (by kernel_rfl) (fun _ _ _ h => by cases h.1) (.inl ⟨by rfl, ?_⟩) (by assumption) ?_
  rotate_left
  · (intro w' hSw; (try dsimp only at hSw); skip; go_simp <;> with_reducible rfl)
  (try simp only [Act.put, aT, aZ, aS])
  refine wpAnyH_take (i := 12) (oi := ⟨some 38, .fieldAddr 25 (.tmp 37) 1, 0, "outright.go:372", #[⟨11, .data⟩], none⟩) (v := ?_) rfl (by kernel_rfl) (by kernel_rfl) (by kernel_rfl) (fun _ _ _ h => by cases h.1) (.inl ⟨by rfl, ?_⟩) (by assumption) ?_
  rotate_left
  · (intro w' hSw; (try dsimp only at hSw); skip; go_simp <;> with_reducible rfl)
  (try simp only [Act.put, aT, aZ, aS])
  refine wpAnyH_take (i := 13) (oi := ⟨some 39, .load 23 (.tmp 38), 23, "outright.go:372", #[⟨12, .data⟩], none⟩) rfl (by kernel_rfl) (by kernel_rfl) (by kernel_rfl) (fun _ _ _ h => by cases h.1) (yields_midB (by rfl) 23 _ rfl g4 2 rfl #[.int .i64 M.t1, .int .i64 M.t2] _ (fun w hw => bk_two hw 2 rfl rfl) Try.underlying23 rfl szRange) (by assumption) ?_
  (try simp only [Act.put, aT, aZ, aS])
  refine wpAnyH_take (i := 14) (oi := ⟨some 40, .move (.tmp 3), 34, "outright.go:372", #[], none⟩) (v := ?_) rfl (by kernel_rfl) (by kernel_rfl) (by kernel_rfl) (fun _ _ _ h => by cases h.1) (.inl ⟨by rfl, ?_⟩) (by assumption) ?_
  rotate_left
  · (intro w' hSw; (try dsimp only at hSw); skip; go_simp <;> with_reducible rfl)
  (try simp only [Act.put, aT, aZ, aS])
  refine wpAnyH_take (i := 15) (oi := ⟨some 41, .fieldAddr 30 (.tmp 4) 0, 0, "outright.go:372", #[], none⟩) (v := ?_) rfl (by kernel_rfl) (by kernel_rfl) (by kernel_rfl) (fun _ _ _ h => by cases h.1) (.inl ⟨by rfl, ?_⟩) (by assumption) ?_
  rotate_left
  · (intro w' hSw; (try dsimp only at hSw); skip; go_simp <;> with_reducible rfl)
  (try simp only [Act.put, aT, aZ, aS])
  refine wpAnyH_take (i := 16) (oi := ⟨some 42, .fieldAddr 25 (.tmp 41) 1, 0, "outright.go:372", #[⟨15, .data⟩], none⟩) (v := ?_) rfl (by kernel_rfl) (by kernel_rfl) (by kernel_rfl) (fun _ _ _ h => by cases h.1) (.inl ⟨by rfl, ?_⟩) (by assumption) ?_
  rotate_left
  · (intro w' hSw; (try dsimp only at hSw); skip; go_simp <;> with_reducible rfl)
  (try simp only [Act.put, aT, aZ, aS])
  refine wpAnyH_take (i := 17) (oi := ⟨some 43, .load 23 (.tmp 42), 23, "outright.go:372", #[⟨16, .data⟩], none⟩) rfl (by kernel_rfl) (by kernel_rfl) (by kernel_rfl) (fun _ _ _ h => by cases h.1) (yields_midB (by rfl) 23 _ rfl g4 2 rfl #[.int .i64 M.t1, .int .i64 M.t2] _ (fun w hw => bk_two hw 2 rfl rfl) Try.underlying23 rfl szRange) (by assumption) ?_
  (try simp only [Act.put, aT, aZ, aS])
  refine wpAnyH_take (i := 20) (oi := ⟨some 46, .move (.tmp 3), 34, "outright.go:372", #[], none⟩) (v := ?_) rfl (by kernel_rfl) (by kernel_rfl) (by kernel_rfl) (fun _ _ _ h => by cases h.1) (.inl ⟨by rfl, ?_⟩) (by assumption) ?_
  rotate_left
  · (intro w' hSw; (try dsimp only at hSw); skip; go_simp <;> with_reducible rfl)
  (try simp only [Act.put, aT, aZ, aS])
  refine wpAnyH_take (i := 21) (oi := ⟨some 47, .fieldAddr 30 (.tmp 4) 0, 0, "outright.go:372", #[], none⟩) (v := ?_) rfl (by kernel_rfl) (by kernel_rfl) (by kernel_rfl) (fun _ _ _ h => by cases h.1) (.inl ⟨by rfl, ?_⟩) (by assumption) ?_
  rotate_left
  · (intro w' hSw; (try dsimp only at hSw); skip; go_simp <;> with_reducible rfl)
  (try simp only [Act.put, aT, aZ, aS])
  refine wpAnyH_take (i := 22) (oi := ⟨some 48, .fieldAddr 25 (.tmp 47) 2, 0, "outright.go:372", #[⟨21, .data⟩], none⟩) (v := ?_) rfl (by kernel_rfl) (by kernel_rfl) (by kernel_rfl) (fun _ _ _ h => by cases h.1) (.inl ⟨by rfl, ?_⟩) (by assumption) ?_
  rotate_left
  · (intro w' hSw; (try dsimp only at hSw); skip; go_simp <;> with_reducible rfl)
  (try simp only [Act.put, aT, aZ, aS])
  refine wpAnyH_take (i := 23) (oi := ⟨some 49, .load 23 (.tmp 48), 23, "outright.go:372", #[⟨22, .data⟩], none⟩) rfl (by kernel_rfl) (by kernel_rfl) (by kernel_rfl) (fun _ _ _ h => by cases h.1) (yields_midB (by rfl) 23 _ rfl g4 4 rfl #[.int .i64 M.r1, .int .i64 M.r2] _ (fun w hw => bk_two hw 4 rfl rfl) Try.underlying23 rfl szRange) (by assumption) ?_
  (try simp only [Act.put, aT, aZ, aS])
  refine wpAnyH_take (i := 24) (oi := ⟨some 50, .move (.tmp 3), 34, "outright.go:372", #[], none⟩) (v := ?_) rfl (by kernel_rfl) (by kernel_rfl) (by kernel_rfl) (fun _ _ _ h => by cases h.1) (.inl ⟨by rfl, ?_⟩) (by assumption) ?_
  rotate_left
  · (intro w' hSw; (try dsimp only at hSw); skip; go_simp <;> with_reducible rfl)
  (try simp only [Act.put, aT, aZ, aS])
  refine wpAnyH_take (i := 25) (oi := ⟨some 51, .fieldAddr 30 (.tmp 4) 0, 0, "outright.go:372", #[], none⟩) (v := ?_) rfl (by kernel_rfl) (by kernel_rfl) (by kernel_rfl) (fun _ _ _ h => by cases h.1) (.inl ⟨by rfl, ?_⟩) (by assumption) ?_
  rotate_left
  · (intro w' hSw; (try dsimp only at hSw); skip; go_simp <;> with_reducible rfl)
  (try simp only [Act.put, aT, aZ, aS])
  refine wpAnyH_take (i := 26) (oi := ⟨some 52, .fieldAddr 25 (.tmp 51) 2, 0, "outright.go:372", #[⟨25, .data⟩], none⟩) (v := ?_) rfl (by kernel_rfl) (by kernel_rfl) (by kernel_rfl) (fun _ _ _ h => by cases h.1) (.inl ⟨by rfl, ?_⟩) (by assumption) ?_
  rotate_left
  · (intro w' hSw; (try dsimp only at hSw); skip; go_simp <;> with_reducible rfl)
  (try simp only [Act.put, aT, aZ, aS])
  refine wpAnyH_take (i := 27) (oi := ⟨some 53, .load 23 (.tmp 52), 23, "outright.go:372", #[⟨26, .data⟩], none⟩) rfl (by kernel_rfl) (by kernel_rfl) (by kernel_rfl) (fun _ _ _ h => by cases h.1) (yields_midB (by rfl) 23 _ rfl g4 4 rfl #[.int .i64 M.r1, .int .i64 M.r2] _ (fun w hw => bk_two hw 4 rfl rfl) Try.underlying23 rfl szRange) (by assumption) ?_
  (try simp only [Act.put, aT, aZ, aS])
  refine wpAnyH_ready (rs := [8]) (by kernel_rfl) (by simp) ?_
  refine AllReadyH.cons (o := ⟨some 34, .call { callee := .value (.func 43), args := #[.tmp 30, .tmp 33], argTypes := #[34, 23] }, 3, "outright.go:372", #[⟨4, .data⟩, ⟨7, .data⟩], none⟩) rfl (fun K hK => ?_) ?_
  · go_simp
    go_at_call 43
    refine (innerP b M.p1 M.p2 _ hU.pt (by omega)).mono ?_
    rintro e wI ⟨np, rfl, hnp, hk, hp⟩
    have hU_ := hU.pot hk hp
    clear hS hU hk hp
    have hU := hU_
    clear hU_
    have hS := hU.j4
    go_wp2_with fail
    refine hK.out _ _ hS (fun _ => ?_)
    clear hK K
    (try simp only [Act.put, aT, aZ, aS])
    refine wpAnyH_ready (rs := [9]) (by kernel_rfl) (by simp) ?_
    refine AllReadyH.cons (o := ⟨some 35, .call { callee := .value (.func 42), args := #[.tmp 26, .tmp 29, .tmp 34], argTypes := #[34, 23, 3] }, 23, "outright.go:372", #[⟨0, .data⟩, ⟨3, .data⟩, ⟨8, .data⟩, ⟨8, .chain⟩], none⟩) rfl (fun K hK => ?_) ?_
    · go_simp
      go_at_call 42
      refine (narrowP b M.p1 M.p2 np _ hU.pt (by omega)).mono ?_
      rintro e wN ⟨py, pz, rfl, hpyz, hk, hp⟩
      have hU_ := hU.pot hk hp
      clear hS hU hk hp
      have hU := hU_
      clear hU_
      have hS := hU.j4
      go_wp2_with fail
      refine hK.out _ _ hS (fun _ => ?_)
      clear hK K
      (try simp only [Act.put, aT, aZ, aS])
      refine wpAnyH_take (i := 30) (oi := ⟨some 56, .fieldAddr 30 (.tmp 5) 0, 0, "outright.go:372", #[⟨0, .phase⟩, ⟨1, .phase⟩, ⟨2, .phase⟩, ⟨3, .phase⟩, ⟨4, .phase⟩, ⟨5, .phase⟩, ⟨6, .phase⟩, ⟨7, .phase⟩, ⟨8, .phase⟩, ⟨9, .phase⟩, ⟨10, .textOnly .lateStores⟩, ⟨11, .textOnly .lateStores⟩, ⟨12, .textOnly .lateStores⟩, ⟨13, .textOnly .lateStores⟩, ⟨14, .textOnly .lateStores⟩, ⟨15, .textOnly .lateStores⟩, ⟨16, .textOnly .lateStores⟩, ⟨17, .textOnly .lateStores⟩, ⟨18, .textOnly .lateStoresUnsure⟩, ⟨19, .textOnly .lateStoresUnsure⟩, ⟨20, .textOnly .lateStores⟩, ⟨21, .textOnly .lateStores⟩, ⟨22, .textOnly .lateStores⟩, ⟨23, .textOnly .lateStores⟩, ⟨24, .textOnly .lateStores⟩, ⟨25, .textOnly .lateStores⟩, ⟨26, .textOnly .lateStores⟩, ⟨27, .textOnly .lateStores⟩, ⟨28, .textOnly .lateStoresUnsure⟩, ⟨29, .textOnly .lateStoresUnsure⟩], none⟩) (v := ?_) rfl (by kernel_rfl) (by kernel_rfl) (by kernel_rfl) (fun _ _ _ h => by cases h.1) (.inl ⟨by rfl, ?_⟩) (by assumption) ?_
      rotate_left
      · (intro w' hSw; (try dsimp only at hSw); skip; go_simp <;> with_reducible rfl)
      (try simp only [Act.put, aT, aZ, aS])
      refine wpAnyH_take (i := 31) (oi := ⟨some 57, .fieldAddr 25 (.tmp 56) 0, 0, "outright.go:372", #[⟨30, .data⟩, ⟨0, .phase⟩, ⟨1, .phase⟩, ⟨2, .phase⟩, ⟨3, .phase⟩, ⟨4, .phase⟩, ⟨5, .phase⟩, ⟨6, .phase⟩, ⟨7, .phase⟩, ⟨8, .phase⟩, ⟨9, .phase⟩, ⟨10, .textOnly .lateStores⟩, ⟨11, .textOnly .lateStores⟩, ⟨12, .textOnly .lateStores⟩, ⟨13, .textOnly .lateStores⟩, ⟨14, .textOnly .lateStores⟩, ⟨15, .textOnly .lateStores⟩, ⟨16, .textOnly .lateStores⟩, ⟨17, .textOnly .lateStores⟩, ⟨18, .textOnly .lateStoresUnsure⟩, ⟨19, .textOnly .lateStoresUnsure⟩, ⟨20, .textOnly .lateStores⟩, ⟨21, .textOnly .lateStores⟩, ⟨22, .textOnly .lateStores⟩, ⟨23, .textOnly .lateStores⟩, ⟨24, .textOnly .lateStores⟩, ⟨25, .textOnly .lateStores⟩, ⟨26, .textOnly .lateStores⟩, ⟨27, .textOnly .lateStores⟩, ⟨28, .textOnly .lateStoresUnsure⟩, ⟨29, .textOnly .lateStoresUnsure⟩], none⟩) (v := ?_) rfl (by kernel_rfl) (by kernel_rfl) (by kernel_rfl) (fun _ _ _ h => by cases h.1) (.inl ⟨by rfl, ?_⟩) (by assumption) ?_
      rotate_left
      · (intro w' hSw; (try dsimp only at hSw); skip; go_simp <;> with_reducible rfl)
      (try simp only [Act.put, aT, aZ, aS])
      refine wpAnyH_ready (rs := [18]) (by kernel_rfl) (by simp) ?_
      refine AllReadyH.cons (o := ⟨some 44, .call { callee := .value (.func 43), args := #[.tmp 40, .tmp 43], argTypes := #[34, 23] }, 3, "outright.go:372", #[⟨14, .data⟩, ⟨17, .data⟩, ⟨9, .chain⟩], none⟩) rfl (fun K hK => ?_) ?_
      · go_simp
        go_at_call 43
        refine (innerP b M.t1 M.t2 _ hU.pt (by omega)).mono ?_
        rintro e wI ⟨nt, rfl, hnt, hk, hp⟩
        have hU_ := hU.pot hk hp
        clear hS hU hk hp
        have hU := hU_
        clear hU_
        have hS := hU.j4
        go_wp2_with fail
        refine hK.out _ _ hS (fun _ => ?_)
        clear hK K
        (try simp only [Act.put, aT, aZ, aS])
        refine wpAnyH_ready (rs := [19]) (by kernel_rfl) (by simp) ?_
        refine AllReadyH.cons (o := ⟨some 45, .call { callee := .value (.func 42), args := #[.tmp 36, .tmp 39, .tmp 44], argTypes := #[34, 23, 3] }, 23, "outright.go:372", #[⟨10, .data⟩, ⟨13, .data⟩, ⟨18, .data⟩, ⟨18, .chain⟩], none⟩) rfl (fun K hK => ?_) ?_
        · go_simp
          go_at_call 42
          refine (narrowP b M.t1 M.t2 nt _ hU.pt (by omega)).mono ?_
          rintro e wN ⟨ty, tz, rfl, htyz, hk, hp⟩
          have hU_ := hU.pot hk hp
          clear hS hU hk hp
          have hU := hU_
          clear hU_
          have hS := hU.j4
          go_wp2_with fail
          refine hK.out _ _ hS (fun _ => ?_)
          clear hK K
          (try simp only [Act.put, aT, aZ, aS])
          refine wpAnyH_ready (rs := [28]) (by kernel_rfl) (by simp) ?_
          refine AllReadyH.cons (o := ⟨some 54, .call { callee := .value (.func 43), args := #[.tmp 50, .tmp 53], argTypes := #[34, 23] }, 3, "outright.go:372", #[⟨24, .data⟩, ⟨27, .data⟩, ⟨19, .chain⟩], none⟩) rfl (fun K hK => ?_) ?_
          · go_simp
            go_at_call 43
            refine (innerP b M.r1 M.r2 _ hU.pt (by omega)).mono ?_
            rintro e wI ⟨nr, rfl, hnr, hk, hp⟩
            have hU_ := hU.pot hk hp
            clear hS hU hk hp
            have hU := hU_
            clear hU_
            have hS := hU.j4
            go_wp2_with fail
            refine hK.out _ _ hS (fun _ => ?_)
            clear hK K
            (try simp only [Act.put, aT, aZ, aS])
            refine wpAnyH_ready (rs := [29]) (by kernel_rfl) (by simp) ?_
            refine AllReadyH.cons (o := ⟨some 55, .call { callee := .value (.func 42), args := #[.tmp 46, .tmp 49, .tmp 54], argTypes := #[34, 23, 3] }, 23, "outright.go:372", #[⟨20, .data⟩, ⟨23, .data⟩, ⟨28, .data⟩, ⟨28, .chain⟩], none⟩) rfl (fun K hK => ?_) ?_
            · go_simp
              go_at_call 42
              refine (narrowP b M.r1 M.r2 nr _ hU.pt (by omega)).mono ?_
              rintro e wN ⟨ry, rz, rfl, hryz, hk, hp⟩
              have hU_ := hU.pot hk hp
              clear hS hU hk hp
              have hU := hU_
              clear hU_
              have hS := hU.j4
              go_wp2_with fail
              refine hK.out _ _ hS (fun _ => ?_)
              clear hK K
              (try simp only [Act.put, aT, aZ, aS])
              refine wpAnyH_ready (rs := [32]) (by kernel_rfl) (by simp) ?_
              refine AllReadyH.cons (o := ⟨none, .store 23 (.tmp 57) (.tmp 35), 0, "outright.go:372", #[⟨31, .data⟩, ⟨9, .data⟩, ⟨29, .chain⟩, ⟨0, .phase⟩, ⟨1, .phase⟩, ⟨2, .phase⟩, ⟨3, .phase⟩, ⟨4, .phase⟩, ⟨5, .phase⟩, ⟨6, .phase⟩, ⟨7, .phase⟩, ⟨8, .phase⟩, ⟨9, .phase⟩, ⟨10, .textOnly .lateStores⟩, ⟨11, .textOnly .lateStores⟩, ⟨12, .textOnly .lateStores⟩, ⟨13, .textOnly .lateStores⟩, ⟨14, .textOnly .lateStores⟩, ⟨15, .textOnly .lateStores⟩, ⟨16, .textOnly .lateStores⟩, ⟨17, .textOnly .lateStores⟩, ⟨18, .textOnly .lateStoresUnsure⟩, ⟨19, .textOnly .lateStoresUnsure⟩, ⟨20, .textOnly .lateStores⟩, ⟨21, .textOnly .lateStores⟩, ⟨22, .textOnly .lateStores⟩, ⟨23, .textOnly .lateStores⟩, ⟨24, .textOnly .lateStores⟩, ⟨25, .textOnly .lateStores⟩, ⟨26, .textOnly .lateStores⟩, ⟨27, .textOnly .lateStores⟩, ⟨28, .textOnly .lateStoresUnsure⟩, ⟨29, .textOnly .lateStoresUnsure⟩], none⟩) rfl (fun K hK => ?_) ?_
              · have z0 := hU.j5.at_ 0 (.int .i64 M.p1) rfl
                have z1 := hU.j5.at_ 1 (.int .i64 M.p2) rfl
                have f0 := hU.j5.free 0
                have f1 := hU.j5.free 1
                go_simp
                have hU_ := (hU.set5 0 (.int .i64 py) { M with p1 := py } rfl).set5 1 (.int .i64 pz) { M with p1 := py, p2 := pz } rfl
                clear z0 z1 f0 f1 hU hS
                have hU := hU_
                have hS := hU_.j4
                clear hU_
                refine hK.out _ _ hS (fun _ => ?_)
                clear hK K
                (try simp only [Act.put, aT, aZ, aS])
                refine wpAnyH_take (i := 33) (oi := ⟨some 58, .fieldAddr 30 (.tmp 5) 0, 0, "outright.go:372", #[⟨0, .phase⟩, ⟨1, .phase⟩, ⟨2, .phase⟩, ⟨3, .phase⟩, ⟨4, .phase⟩, ⟨5, .phase⟩, ⟨6, .phase⟩, ⟨7, .phase⟩, ⟨8, .phase⟩, ⟨9, .phase⟩, ⟨10, .phase⟩, ⟨11, .phase⟩, ⟨12, .phase⟩, ⟨13, .phase⟩, ⟨14, .phase⟩, ⟨15, .phase⟩, ⟨16, .phase⟩, ⟨17, .phase⟩, ⟨18, .phase⟩, ⟨19, .phase⟩, ⟨20, .textOnly .lateStores⟩, ⟨21, .textOnly .lateStores⟩, ⟨22, .textOnly .lateStores⟩, ⟨23, .textOnly .lateStores⟩, ⟨24, .textOnly .lateStores⟩, ⟨25, .textOnly .lateStores⟩, ⟨26, .textOnly .lateStores⟩, ⟨27, .textOnly .lateStores⟩, ⟨28, .textOnly .lateStoresUnsure⟩, ⟨29, .textOnly .lateStoresUnsure⟩, ⟨30, .phase⟩, ⟨31, .phase⟩, ⟨32, .phase⟩], none⟩) (v := ?_) rfl (by kernel_rfl) (by kernel_rfl) (by kernel_rfl) (fun _ _ _ h => by cases h.1) (.inl ⟨by rfl, ?_⟩) (by assumption) ?_
                rotate_left
                · (intro w' hSw; (try dsimp only at hSw); skip; go_simp <;> with_reducible rfl)
                (try simp only [Act.put, aT, aZ, aS])
                refine wpAnyH_take (i := 34) (oi := ⟨some 59, .fieldAddr 25 (.tmp 58) 1, 0, "outright.go:372", #[⟨33, .data⟩, ⟨0, .phase⟩, ⟨1, .phase⟩, ⟨2, .phase⟩, ⟨3, .phase⟩, ⟨4, .phase⟩, ⟨5, .phase⟩, ⟨6, .phase⟩, ⟨7, .phase⟩, ⟨8, .phase⟩, ⟨9, .phase⟩, ⟨10, .phase⟩, ⟨11, .phase⟩, ⟨12, .phase⟩, ⟨13, .phase⟩, ⟨14, .phase⟩, ⟨15, .phase⟩, ⟨16, .phase⟩, ⟨17, .phase⟩, ⟨18, .phase⟩, ⟨19, .phase⟩, ⟨20, .textOnly .lateStores⟩, ⟨21, .textOnly .lateStores⟩, ⟨22, .textOnly .lateStores⟩, ⟨23, .textOnly .lateStores⟩, ⟨24, .textOnly .lateStores⟩, ⟨25, .textOnly .lateStores⟩, ⟨26, .textOnly .lateStores⟩, ⟨27, .textOnly .lateStores⟩, ⟨28, .textOnly .lateStoresUnsure⟩, ⟨29, .textOnly .lateStoresUnsure⟩, ⟨30, .phase⟩, ⟨31, .phase⟩, ⟨32, .phase⟩], none⟩) (v := ?_) rfl (by kernel_rfl) (by kernel_rfl) (by kernel_rfl) (fun _ _ _ h => by cases h.1) (.inl ⟨by rfl, ?_⟩) (by assumption) ?_
                rotate_left
                · (intro w' hSw; (try dsimp only at hSw); skip; go_simp <;> with_reducible rfl)
                (try simp only [Act.put, aT, aZ, aS])
                refine wpAnyH_ready (rs := [35]) (by kernel_rfl) (by simp) ?_
                refine AllReadyH.cons (o := ⟨none, .store 23 (.tmp 59) (.tmp 45), 0, "outright.go:372", #[⟨34, .data⟩, ⟨19, .data⟩, ⟨32, .chain⟩, ⟨0, .phase⟩, ⟨1, .phase⟩, ⟨2, .phase⟩, ⟨3, .phase⟩, ⟨4, .phase⟩, ⟨5, .phase⟩, ⟨6, .phase⟩, ⟨7, .phase⟩, ⟨8, .phase⟩, ⟨9, .phase⟩, ⟨10, .phase⟩, ⟨11, .phase⟩, ⟨12, .phase⟩, ⟨13, .phase⟩, ⟨14, .phase⟩, ⟨15, .phase⟩, ⟨16, .phase⟩, ⟨17, .phase⟩, ⟨18, .phase⟩, ⟨19, .phase⟩, ⟨20, .textOnly .lateStores⟩, ⟨21, .textOnly .lateStores⟩, ⟨22, .textOnly .lateStores⟩, ⟨23, .textOnly .lateStores⟩, ⟨24, .textOnly .lateStores⟩, ⟨25, .textOnly .lateStores⟩, ⟨26, .textOnly .lateStores⟩, ⟨27, .textOnly .lateStores⟩, ⟨28, .textOnly .lateStoresUnsure⟩, ⟨29, .textOnly .lateStoresUnsure⟩, ⟨30, .phase⟩, ⟨31, .phase⟩, ⟨32, .phase⟩], none⟩) rfl (fun K hK => ?_) ?_
                · have z0 := hU.j5.at_ 2 (.int .i64 M.t1) rfl
                  have z1 := hU.j5.at_ 3 (.int .i64 M.t2) rfl
                  have f0 := hU.j5.free 2
                  have f1 := hU.j5.free 3
                  go_simp
                  have hU_ := (hU.set5 2 (.int .i64 ty) { M with p1 := py, p2 := pz, t1 := ty } rfl).set5 3 (.int .i64 tz) { M with p1 := py, p2 := pz, t1 := ty, t2 := tz } rfl
                  clear z0 z1 f0 f1 hU hS
                  have hU := hU_
                  have hS := hU_.j4
                  clear hU_
                  refine hK.out _ _ hS (fun _ => ?_)
                  clear hK K
                  (try simp only [Act.put, aT, aZ, aS])
                  refine wpAnyH_take (i := 36) (oi := ⟨some 60, .fieldAddr 30 (.tmp 5) 0, 0, "outright.go:372", #[⟨0, .phase⟩, ⟨1, .phase⟩, ⟨2, .phase⟩, ⟨3, .phase⟩, ⟨4, .phase⟩, ⟨5, .phase⟩, ⟨6, .phase⟩, ⟨7, .phase⟩, ⟨8, .phase⟩, ⟨9, .phase⟩, ⟨10, .phase⟩, ⟨11, .phase⟩, ⟨12, .phase⟩, ⟨13, .phase⟩, ⟨14, .phase⟩, ⟨15, .phase⟩, ⟨16, .phase⟩, ⟨17, .phase⟩, ⟨18, .phase⟩, ⟨19, .phase⟩, ⟨20, .phase⟩, ⟨21, .phase⟩, ⟨22, .phase⟩, ⟨23, .phase⟩, ⟨24, .phase⟩, ⟨25, .phase⟩, ⟨26, .phase⟩, ⟨27, .phase⟩, ⟨28, .phase⟩, ⟨29, .phase⟩, ⟨30, .phase⟩, ⟨31, .phase⟩, ⟨32, .phase⟩, ⟨33, .phase⟩, ⟨34, .phase⟩, ⟨35, .phase⟩], none⟩) (v := ?_) rfl (by kernel_rfl) (by kernel_rfl) (by kernel_rfl) (fun _ _ _ h => by cases h.1) (.inl ⟨by rfl, ?_⟩) (by assumption) ?_
                  rotate_left
                  · (intro w' hSw; (try dsimp only at hSw); skip; go_simp <;> with_reducible rfl)
                  (try simp only [Act.put, aT, aZ, aS])
                  refine wpAnyH_take (i := 37) (oi := ⟨some 61, .fieldAddr 25 (.tmp 60) 2, 0, "outright.go:372", #[⟨36, .data⟩, ⟨0, .phase⟩, ⟨1, .phase⟩, ⟨2, .phase⟩, ⟨3, .phase⟩, ⟨4, .phase⟩, ⟨5, .phase⟩, ⟨6, .phase⟩, ⟨7, .phase⟩, ⟨8, .phase⟩, ⟨9, .phase⟩, ⟨10, .phase⟩, ⟨11, .phase⟩, ⟨12, .phase⟩, ⟨13, .phase⟩, ⟨14, .phase⟩, ⟨15, .phase⟩, ⟨16, .phase⟩, ⟨17, .phase⟩, ⟨18, .phase⟩, ⟨19, .phase⟩, ⟨20, .phase⟩, ⟨21, .phase⟩, ⟨22, .phase⟩, ⟨23, .phase⟩, ⟨24, .phase⟩, ⟨25, .phase⟩, ⟨26, .phase⟩, ⟨27, .phase⟩, ⟨28, .phase⟩, ⟨29, .phase⟩, ⟨30, .phase⟩, ⟨31, .phase⟩, ⟨32, .phase⟩, ⟨33, .phase⟩, ⟨34, .phase⟩, ⟨35, .phase⟩], none⟩) (v := ?_) rfl (by kernel_rfl) (by kernel_rfl) (by kernel_rfl) (fun _ _ _ h => by cases h.1) (.inl ⟨by rfl, ?_⟩) (by assumption) ?_
                  rotate_left
                  · (intro w' hSw; (try dsimp only at hSw); skip; go_simp <;> with_reducible rfl)
                  (try simp only [Act.put, aT, aZ, aS])
                  refine wpAnyH_ready (rs := [38]) (by kernel_rfl) (by simp) ?_
                  refine AllReadyH.cons (o := ⟨none, .store 23 (.tmp 61) (.tmp 55), 0, "outright.go:372", #[⟨37, .data⟩, ⟨29, .data⟩, ⟨35, .chain⟩, ⟨0, .phase⟩, ⟨1, .phase⟩, ⟨2, .phase⟩, ⟨3, .phase⟩, ⟨4, .phase⟩, ⟨5, .phase⟩, ⟨6, .phase⟩, ⟨7, .phase⟩, ⟨8, .phase⟩, ⟨9, .phase⟩, ⟨10, .phase⟩, ⟨11, .phase⟩, ⟨12, .phase⟩, ⟨13, .phase⟩, ⟨14, .phase⟩, ⟨15, .phase⟩, ⟨16, .phase⟩, ⟨17, .phase⟩, ⟨18, .phase⟩, ⟨19, .phase⟩, ⟨20, .phase⟩, ⟨21, .phase⟩, ⟨22, .phase⟩, ⟨23, .phase⟩, ⟨24, .phase⟩, ⟨25, .phase⟩, ⟨26, .phase⟩, ⟨27, .phase⟩, ⟨28, .phase⟩, ⟨29, .phase⟩, ⟨30, .phase⟩, ⟨31, .phase⟩, ⟨32, .phase⟩, ⟨33, .phase⟩, ⟨34, .phase⟩, ⟨35, .phase⟩], none⟩) rfl (fun K hK => ?_) ?_
                  · have z0 := hU.j5.at_ 4 (.int .i64 M.r1) rfl
                    have z1 := hU.j5.at_ 5 (.int .i64 M.r2) rfl
                    have f0 := hU.j5.free 4
                    have f1 := hU.j5.free 5
                    go_simp
                    have hU_ := (hU.set5 4 (.int .i64 ry) { M with p1 := py, p2 := pz, t1 := ty, t2 := tz, r1 := ry } rfl).set5 5 (.int .i64 rz) { M with p1 := py, p2 := pz, t1 := ty, t2 := tz, r1 := ry, r2 := rz } rfl
                    clear z0 z1 f0 f1 hU hS
                    have hU := hU_
                    have hS := hU_.j4
                    clear hU_
                    refine hK.out _ _ hS (fun _ => ?_)
                    clear hK K
                    (try simp only [Act.put, aT, aZ, aS])
                    refine wpAnyH_done (by kernel_rfl) ?_ _
                    exact ⟨rfl, _, _, _, _, _, _, _, _, _, _, _, _, _, _, _, _, _, _, _, _, _, _, _, _, _, _, _, _, _, _, _, _, _, _, _, _, py, pz, ty, tz, ry, rz, rfl, ⟨⟨hpyz.1, Int.le_trans hpyz.2.1 hpyz.2.2.1, hpyz.2.2.2⟩, ⟨htyz.1, Int.le_trans htyz.2.1 htyz.2.2.1, htyz.2.2.2⟩, ⟨hryz.1, Int.le_trans hryz.2.1 hryz.2.2.1, hryz.2.2.2⟩⟩, hU⟩
                  exact AllReadyH.nil
                exact AllReadyH.nil
              exact AllReadyH.nil
            exact AllReadyH.nil
          exact AllReadyH.nil
        exact AllReadyH.nil
      exact AllReadyH.nil
    exact AllReadyH.nil
  exact AllReadyH.nil
end Go.Proofs.Ytbebofmpimfbgaa
/- The law ReedBetter. -/
namespace Go.Proofs.Ytbebofmpimfbgaa
set_option linter.all false
open Go.RowKit
set_option maxHeartbeats 4000000 in
set_option maxRecDepth 1000000 in
theorem bepart3 {w0 w : World} {b g4 : Nat} {M : Jb} {a : Option Addr} {n c : Nat} {u0 u1 u2 u5 u6 u7 u8 u9 A0 A1 A2 A3 A4 A5 A6 A7 A8 A9 Aa Ab Ac Ad Ae Af Ag Ah Ai Aj Ak Al Am An Ao Ap Aq Ar As At Au Av Aw Ax Ay Az C0 C1 C2 C3 C4 C5 C6 C7 C8 C9 Ca Cb Cc Cd Ce Cf Cg Ch Ci Cj Ck Cl Cm Cn Co Cp Cq Cr Cs Ct Cu Cv Cw Cx Cy Cz D0 D1 D2 D3 D4 D5 D6 D7 D8 D9 Da Db Dc Dd De Df Dg Dh Di Dj Dk Dl Dm Dn Do Dp Dq Dr Ds Dt Du Dv Dw Dx Dy Dz E0 E1 E2 E3 E4 E5 E6 E7 E8 E9 Ea Eb Ec Ed Ee Ef Eg Eh Ei Ej Ek El Em En Eo Ep Eq Er Es Et Eu Ev Ew Ex Ey Ez F0 F1 F2 F3 F4 F5 F6 F7 F8 F9 Fa Fb Fc Fd Fe Ff Fg Fh Fi Fj Fk Fl Fm Fn Fo Fp Fq Fr Fs Ft Fu Fv Fw Fx Fy Fz L0 L1 L2 L3 L4 L5 L6 L7 L8 L9 La Lb Lc Ld Le Lf Lg Lh Li Lj Lk Ll Lm Ln Lo Lp Lq Lr Ls Lt Lu Lv Lw Lx Ly Lz M0 M1 M2 M3 M4 M5 M6 M7 M8 M9 Ma Mb Mc Md Me Mf Mg Mh Mi Mj Mk Ml Mm Mn Mo Mp Mq Mr Ms Mt Mu Mv Mw Mx My Mz N0 : Value} (htun : TunOK) (hshort : ShortOK) (hfine : FineOK) (hb0 : Below w0.heap.size w0 w) (hbw : w0.heap.size ≤ b) (hp : Pt w b) (h4 : Bk w g4 30 (jobC M (.slice a n c))) (hrg : Rg w w.heap.size a M.sh) (hn : n = M.sh.length) (hck : M.check = 0) : Code.wp Try.prog berest3 (QBE w0) ⟨#[u0, u1, u2, (.pointer (some ⟨b, 0, none⟩)), (.pointer (some ⟨g4, 0, none⟩)), u5, u6, u7, u8, u9, A0, A1, A2, A3, A4, A5, A6, A7, A8, A9, Aa, Ab, Ac, Ad, Ae, Af, Ag, Ah, Ai, Aj, Ak, Al, Am, An, Ao, Ap, Aq, Ar, As, At, Au, Av, Aw, Ax, Ay, Az, C0, C1, C2, C3, C4, C5, C6, C7, C8, C9, Ca, Cb, Cc, Cd, Ce, Cf, Cg, Ch, Ci, Cj, Ck, Cl, Cm, Cn, Co, Cp, Cq, Cr, Cs, Ct, Cu, Cv, Cw, Cx, Cy, Cz, D0, D1, D2, D3, D4, D5, D6, D7, D8, D9, Da, Db, Dc, Dd, De, Df, Dg, Dh, Di, Dj, Dk, Dl, Dm, Dn, Do, Dp, Dq, Dr, Ds, Dt, Du, Dv, Dw, Dx, Dy, Dz, E0, E1, E2, E3, E4, E5, E6, E7, E8, E9, Ea, Eb, Ec, Ed, Ee, Ef, Eg, Eh, Ei, Ej, Ek, El, Em, En, Eo, Ep, Eq, Er, Es, Et, Eu, Ev, Ew, Ex, Ey, Ez, F0, F1, F2, F3, F4, F5, F6, F7, F8, F9, Fa, Fb, Fc, Fd, Fe, Ff, Fg, Fh, Fi, Fj, Fk, Fl, Fm, Fn, Fo, Fp, Fq, Fr, Fs, Ft, Fu, Fv, Fw, Fx, Fy, Fz, L0, L1, L2, L3, L4, L5, L6, L7, L8, L9, La, Lb, Lc, Ld, Le, Lf, Lg, Lh, Li, Lj, Lk, Ll, Lm, Ln, Lo, Lp, Lq, Lr, Ls, Lt, Lu, Lv, Lw, Lx, Ly, Lz, M0, M1, M2, M3, M4, M5, M6, M7, M8, M9, Ma, Mb, Mc, Md, Me, Mf, Mg, Mh, Mi, Mj, Mk, Ml, Mm, Mn, Mo, Mp, Mq, Mr, Ms, Mt, Mu, Mv, Mw, Mx, My, Mz, N0], []⟩ w := by
  rw [berest3_eq]
  have HT := hidMk htun
  have HSO := hidMk hshort
  have HFO := hidMk hfine
  clear htun hshort hfine
  have HB0 := hidMk hb0
  have HP := hidMk hp
  have H4 := hidMk h4
  have HR := hidMk hrg
  have HN := hidMk hn
  have HC := hidMk hck
  clear hb0 hp h4 hrg hn hck
  go_wp2_with (refine wpList_load_row rfl 30 _ rfl g4 rfl _ (jobC M (.slice a n c)) _ _ H4.out Try.underlying30 rfl szJob ?_)
  refine (copyJob_any M a n c _ HN.out (by have h4 := (check_full HC.out).len; have := HN.out; omega) HR.out).mono ?_
  rintro e' w2 ⟨oa, oc, rfl, own, hb2⟩
  have HOW := hidMk own
  have HB2 := hidMk hb2
  clear own hb2
  go_wp2_with (first | (refine wpList_store_row rfl 30 _ _ rfl w2.heap.size (jobC M (.slice oa n oc)) rfl rfl _ _ (Bk.new _ _ _) szJob rfl (oneJob _ _ _ _) ?_; rw [World.setRow_alloc_new]))
  have q : Below w2.heap.size w2 (w2.alloc (.cells (jobC M (.slice oa n oc)) 30)) := (Below.refl _ _).alloc (Nat.le_refl _) _
  have q2 : Below w.heap.size w (w2.alloc (.cells (jobC M (.slice oa n oc)) 30)) := HB2.out.trans (q.mono HB2.out.size)
  have hz := HB0.out.size
  have hz2 := HB2.out.size
  exact bepart4 HT.out HSO.out HFO.out (B := w.heap.size) ⟨HB0.out.trans (q2.mono hz), ⟨hbw, hz⟩, HP.out.below q2 HP.out.lt, H4.out.below q2 H4.out.lt, HR.out.below q2, Bk.new _ _ _, own_below HOW.out q, ⟨HP.out.lt, H4.out.lt, hz2, q2.size⟩, HN.out, HC.out, HN.out.symm⟩
set_option maxHeartbeats 4000000 in
set_option maxRecDepth 1000000 in
theorem bepart2 {w0 w : World} {b : Nat} {u0 u1 u2 u4 u5 u6 u7 u8 u9 A0 A1 A2 A3 A4 A5 A6 A7 A8 A9 Aa Ab Ac Ad Ae Af Ag Ah Ai Aj Ak Al Am An Ao Ap Aq Ar As At Au Av Aw Ax Ay Az C0 C1 C2 C3 C4 C5 C6 C7 C8 C9 Ca Cb Cc Cd Ce Cf Cg Ch Ci Cj Ck Cl Cm Cn Co Cp Cq Cr Cs Ct Cu Cv Cw Cx Cy Cz D0 D1 D2 D3 D4 D5 D6 D7 D8 D9 Da Db Dc Dd De Df Dg Dh Di Dj Dk Dl Dm Dn Do Dp Dq Dr Ds Dt Du Dv Dw Dx Dy Dz E0 E1 E2 E3 E4 E5 E6 E7 E8 E9 Ea Eb Ec Ed Ee Ef Eg Eh Ei Ej Ek El Em En Eo Ep Eq Er Es Et Eu Ev Ew Ex Ey Ez F0 F1 F2 F3 F4 F5 F6 F7 F8 F9 Fa Fb Fc Fd Fe Ff Fg Fh Fi Fj Fk Fl Fm Fn Fo Fp Fq Fr Fs Ft Fu Fv Fw Fx Fy Fz L0 L1 L2 L3 L4 L5 L6 L7 L8 L9 La Lb Lc Ld Le Lf Lg Lh Li Lj Lk Ll Lm Ln Lo Lp Lq Lr Ls Lt Lu Lv Lw Lx Ly Lz M0 M1 M2 M3 M4 M5 M6 M7 M8 M9 Ma Mb Mc Md Me Mf Mg Mh Mi Mj Mk Ml Mm Mn Mo Mp Mq Mr Ms Mt Mu Mv Mw Mx My Mz N0 : Value} (htun : TunOK) (hshort : ShortOK) (hfine : FineOK) (hj : JobOKn 2 1) (hb0 : Below w0.heap.size w0 w) (hp : Pt w b) (hbw : w0.heap.size ≤ b) : Code.wp Try.prog berest2 (QBE w0) ⟨#[u0, u1, u2, (.pointer (some ⟨b, 0, none⟩)), u4, u5, u6, u7, u8, u9, A0, A1, A2, A3, A4, A5, A6, A7, A8, A9, Aa, Ab, Ac, Ad, Ae, Af, Ag, Ah, Ai, Aj, Ak, Al, Am, An, Ao, Ap, Aq, Ar, As, At, Au, Av, Aw, Ax, Ay, Az, C0, C1, C2, C3, C4, C5, C6, C7, C8, C9, Ca, Cb, Cc, Cd, Ce, Cf, Cg, Ch, Ci, Cj, Ck, Cl, Cm, Cn, Co, Cp, Cq, Cr, Cs, Ct, Cu, Cv, Cw, Cx, Cy, Cz, D0, D1, D2, D3, D4, D5, D6, D7, D8, D9, Da, Db, Dc, Dd, De, Df, Dg, Dh, Di, Dj, Dk, Dl, Dm, Dn, Do, Dp, Dq, Dr, Ds, Dt, Du, Dv, Dw, Dx, Dy, Dz, E0, E1, E2, E3, E4, E5, E6, E7, E8, E9, Ea, Eb, Ec, Ed, Ee, Ef, Eg, Eh, Ei, Ej, Ek, El, Em, En, Eo, Ep, Eq, Er, Es, Et, Eu, Ev, Ew, Ex, Ey, Ez, F0, F1, F2, F3, F4, F5, F6, F7, F8, F9, Fa, Fb, Fc, Fd, Fe, Ff, Fg, Fh, Fi, Fj, Fk, Fl, Fm, Fn, Fo, Fp, Fq, Fr, Fs, Ft, Fu, Fv, Fw, Fx, Fy, Fz, L0, L1, L2, L3, L4, L5, L6, L7, L8, L9, La, Lb, Lc, Ld, Le, Lf, Lg, Lh, Li, Lj, Lk, Ll, Lm, Ln, Lo, Lp, Lq, Lr, Ls, Lt, Lu, Lv, Lw, Lx, Ly, Lz, M0, M1, M2, M3, M4, M5, M6, M7, M8, M9, Ma, Mb, Mc, Md, Me, Mf, Mg, Mh, Mi, Mj, Mk, Ml, Mm, Mn, Mo, Mp, Mq, Mr, Ms, Mt, Mu, Mv, Mw, Mx, My, Mz, N0], []⟩ w := by
  rw [berest2_eq]
  have HT := hidMk htun
  have HSO := hidMk hshort
  have HFO := hidMk hfine
  clear htun hshort hfine
  have HJ := hidMk hj
  have HB0 := hidMk hb0
  clear hj hb0
  have hz := HB0.out.size
  go_wp2_with fail
  refine (HJ.out b _ hp).mono ?_
  rintro e w2 ⟨M, ma, mn, mc, rfl, hmn, hmg, hck, hk, hp2⟩
  have hB2 := HB0.out.trans ((hk.mono hz).toBelow hbw)
  have HB2 := hidMk hB2
  have HMN := hidMk hmn
  have HMG := hidMk hmg
  have HCK := hidMk hck
  have HP2 := hidMk hp2
  clear hk hp2 hB2 hmn hmg hck
  go_wp2_with (first | (refine wpList_store_row rfl 30 _ _ rfl w2.heap.size (jobC M (.slice ma mn mc)) rfl rfl _ _ (Bk.new _ _ _) szJob rfl (oneJob _ _ _ _) ?_; rw [World.setRow_alloc_new]))
  have q : Below w2.heap.size w2 (w2.alloc (.cells (jobC M (.slice ma mn mc)) 30)) := (Below.refl _ _).alloc (Nat.le_refl _) _
  exact bepart3 HT.out HSO.out HFO.out (HB2.out.trans (q.mono HB2.out.size)) hbw (HP2.out.below q HP2.out.lt) (Bk.new _ _ _) (HMG.out.up q) HMN.out HCK.out
set_option maxHeartbeats 2000000 in
set_option maxRecDepth 1000000 in
theorem reedBetter_any (hj : JobOKn 2 1) (hshort : ShortOK) (hfine : FineOK) (htun : TunOK) (na : Option Addr) (nn nc : Nat) (nl : List Int) (w : World) (hnn : nn = nl.length) (hnm : nn ≤ 9223372036854775807) (hnl : Is w w.heap.size na nl) :
    Calls Try.prog 7 #[.slice na nn nc] w fun e w' => e = .returned (.bool true) ∧ Below w.heap.size w w' := by
  have HJ := hidMk hj
  have HS := hidMk hshort
  have HF := hidMk hfine
  have HT := hidMk htun
  have HNN := hidMk hnn
  have HNL := hidMk hnl
  clear hj hshort hfine htun hnn hnl
  go_enter Try.func7, Try.ntmps7
  show Code.wp Try.prog bebody (QBE w) _ _
  rw [bebody_eq]
  go_wp2_with fail
  rw [berest1_eq]
  go_wp2_with fail
  refine (newPot_any na nn nc nl _ HNN.out hnm HNL.out).mono ?_
  rintro e w1 ⟨s, t, rfl, hb, hB1⟩
  have hp1 : Pt w1 w.heap.size := ⟨_, _, hb⟩
  have HB1 := hidMk hB1
  clear hb hB1
  go_wp2_with fail
  exact bepart2 HT.out HS.out HF.out HJ.out HB1.out hp1 (Nat.le_refl _)
end Go.Proofs.Ytbebofmpimfbgaa
