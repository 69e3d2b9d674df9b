/- Part 18 of the proof: BeG. -/
import Derived.IntWalk
import Derived.Test.YtbebofmpimfbgaaB17
/- The law ReedBetter: the numbers. -/
namespace Go.Proofs.Ytbebofmpimfbgaa
set_option linter.all false
open Go.RowKit
theorem bk_two {w : World} {g : Nat} {t : TypeId} {cs : Array Value} (h : Bk w g t cs) (o : Nat) {x y : Value} (h0 : cs[o]? = some x) (h1 : cs[o + 1]? = some y) : w.rangeAt g o (#[x, y] : Array Value).toList := fun j v hv => by
  match j with
  | 0 => simp at hv; subst hv; exact h.at_ o _ h0
  | 1 => simp at hv; subst hv; exact h.at_ (o + 1) _ h1
  | j + 2 => simp at hv
set_option maxHeartbeats 4000000 in
set_option maxRecDepth 1000000 in
theorem bepart6 {w0 w : World} {B g4 g5 b : Nat} {M : Jb} {a oa : Option Addr} {n c oc : Nat} {py pz ty tz ry rz uy uz dy dz : Int} {u0 u1 u2 u6 u7 u8 u9 A0 A1 A2 A3 A4 A5 A6 A7 A8 A9 Aa Ab Ac Ad Ae Af Ag Ah Ai Aj Ak Al Am An Ao Ap Aq Ar As At Au Av Aw Ax Ay Az C0 C1 C2 C3 C4 C5 C6 C7 C8 C9 Ca Cb Cc Cd Ce Cf Cg Ch Ci Cj Ck Cl Cm Cn Co Cp Cq Cr Cs Ct Cu Cv Cw Cx Cy Cz D0 D1 D2 D3 D4 D5 D6 D7 D8 D9 Da Db Dc Dd De Df Dg Dh Di Dj Dk Dl Dm Dn Do Dp Dq Dr Ds Dt Du Dv Dw Dx Dy Dz E0 E1 E2 E3 E4 E5 E6 E7 E8 E9 Ea Eb Ec Ed Ee Ef Eg Eh Ei Ej Ek El Em En Eo Ep Eq Er Es Et Eu Ev Ew Ex Ey Ez F0 F1 F2 F3 F4 F5 F6 F7 F8 F9 Fa Fb Fc Fd Fe Ff Fg Fh Fi Fj Fk Fl Fm Fn Fo Fp Fq Fr Fs Ft Fu Fv Fw Fx Fy Fz L0 L1 L2 L3 L4 L5 L6 L7 L8 L9 La Lb Lc Ld Le Lf Lg Lh Li Lj Lk Ll Lm Ln Lo Lp Lq Lr Ls Lt Lu Lv Lw Lx Ly Lz M0 M1 M2 M3 M4 M5 M6 M7 M8 M9 Ma Mb Mc Md Me Mf Mg Mh Mi Mj Mk Ml Mm Mn Mo Mp Mq Mr Ms Mt Mu Mv Mw Mx My Mz N0 : Value} (htun : TunOK) (hshort : ShortOK) (hfine : FineOK) (hs : US w0 B g4 g5 b M { M with p1 := py, p2 := pz, t1 := ty, t2 := tz, r1 := ry, r2 := rz, u1 := uy, u2 := uz, d1 := dy, d2 := dz } a n c oa oc M.sh w) (kp : Nr (M.p1, M.p2) (py, pz)) (kt : Nr (M.t1, M.t2) (ty, tz)) (kr : Nr (M.r1, M.r2) (ry, rz)) (ku : Nr (M.u1, M.u2) (uy, uz)) (kd : Nr (M.d1, M.d2) (dy, dz)) : Code.wp Try.prog berest6 (QBE w0) ⟨#[u0, u1, u2, (.pointer (some ⟨b, 0, none⟩)), (.pointer (some ⟨g4, 0, none⟩)), (.pointer (some ⟨g5, 0, none⟩)), u6, u7, u8, u9, A0, A1, A2, A3, A4, A5, A6, A7, A8, A9, Aa, Ab, Ac, Ad, Ae, Af, Ag, Ah, Ai, Aj, Ak, Al, Am, An, Ao, Ap, Aq, Ar, As, At, Au, Av, Aw, Ax, Ay, Az, C0, C1, C2, C3, C4, C5, C6, C7, C8, C9, Ca, Cb, Cc, Cd, Ce, Cf, Cg, Ch, Ci, Cj, Ck, Cl, Cm, Cn, Co, Cp, Cq, Cr, Cs, Ct, Cu, Cv, Cw, Cx, Cy, Cz, D0, D1, D2, D3, D4, D5, D6, D7, D8, D9, Da, Db, Dc, Dd, De, Df, Dg, Dh, Di, Dj, Dk, Dl, Dm, Dn, Do, Dp, Dq, Dr, Ds, Dt, Du, Dv, Dw, Dx, Dy, Dz, E0, E1, E2, E3, E4, E5, E6, E7, E8, E9, Ea, Eb, Ec, Ed, Ee, Ef, Eg, Eh, Ei, Ej, Ek, El, Em, En, Eo, Ep, Eq, Er, Es, Et, Eu, Ev, Ew, Ex, Ey, Ez, F0, F1, F2, F3, F4, F5, F6, F7, F8, F9, Fa, Fb, Fc, Fd, Fe, Ff, Fg, Fh, Fi, Fj, Fk, Fl, Fm, Fn, Fo, Fp, Fq, Fr, Fs, Ft, Fu, Fv, Fw, Fx, Fy, Fz, L0, L1, L2, L3, L4, L5, L6, L7, L8, L9, La, Lb, Lc, Ld, Le, Lf, Lg, Lh, Li, Lj, Lk, Ll, Lm, Ln, Lo, Lp, Lq, Lr, Ls, Lt, Lu, Lv, Lw, Lx, Ly, Lz, M0, M1, M2, M3, M4, M5, M6, M7, M8, M9, Ma, Mb, Mc, Md, Me, Mf, Mg, Mh, Mi, Mj, Mk, Ml, Mm, Mn, Mo, Mp, Mq, Mr, Ms, Mt, Mu, Mv, Mw, Mx, My, Mz, N0], []⟩ w := by
  rw [berest6_eq]
  have HT := hidMk htun
  have HSO := hidMk hshort
  have HFO := hidMk hfine
  clear htun hshort hfine
  have hfull := check_full hs.ck
  have hfp := hfull.p; have hft := hfull.t; have hfr := hfull.r; have hfu := hfull.u; have hfd := hfull.d; have hfx := hfull.x; have hfy := hfull.y
  clear hfull
  refine wp_seq_k fun K0 hKK => ?_
  refine region_via (R := fun a_ e a' w' => e = .normal ∧ ∃ (v86 v87 v88 v89 v90 v91 v92 v93 v94 v95 v96 v97 v98 v99 v100 v101 v102 v103 v104 v105 v106 v107 v108 v109 : Value) (xy xz yy yz : Int), a' = ((((((((((((((((((((((((a_.put (some 86) v86).put (some 87) v87).put (some 88) v88).put (some 89) v89).put (some 90) v90).put (some 91) v91).put (some 92) v92).put (some 93) v93).put (some 94) v94).put (some 95) v95).put (some 96) v96).put (some 97) v97).put (some 98) v98).put (some 99) v99).put (some 100) v100).put (some 101) v101).put (some 102) v102).put (some 103) v103).put (some 104) v104).put (some 105) v105).put (some 106) v106).put (some 107) v107).put (some 108) v108).put (some 109) v109) ∧ (Nr (M.x1, M.x2) (xy, xz) ∧ Nr (M.y1, M.y2) (yy, yz)) ∧ US w0 B g4 g5 b M { M with p1 := py, p2 := pz, t1 := ty, t2 := tz, r1 := ry, r2 := rz, u1 := uy, u2 := uz, d1 := dy, d2 := dz, x1 := xy, x2 := xz, y1 := yy, y2 := yz } a n c oa oc M.sh w') ?_ ?_
  rotate_left
  · rintro e a' w' ⟨rfl, v86, v87, v88, v89, v90, v91, v92, v93, v94, v95, v96, v97, v98, v99, v100, v101, v102, v103, v104, v105, v106, v107, v108, v109, xy, xz, yy, yz, rfl, ⟨kx, ky⟩, hs2⟩
    refine hKK _ _ ?_
    simp only [Act.put, aT, aZ, aS]
    exact bepart7 HT.out HSO.out HFO.out (K := M) hs2 ⟨kp, kt, kr, ku, kd, kx, ky, rfl, rfl⟩
  have hU := hs.next (Below.refl _ _).drew
  have hS := hU.j4
  clear hs
  refine wp_region_held_drew (S := fun w' => Bk w' g4 30 (jobC M (.slice a n c))) (by kernel_rfl) hS (fun hS0 => ?_)
  clear hS0
  generalize w.drew = wd at hS hU ⊢
  refine wpAnyH_take (i := 0) (oi := ⟨some 86, .move (.tmp 3), 34, "outright.go:374", #[], none⟩) (v := ?_) rfl (by kernel_rfl) (by kernel_rfl) (by kernel_rfl) (fun _ _ _ h => by cases h.1) (.inl ⟨by rfl, ?_⟩) (by assumption) ?_
  rotate_left
  · (intro w' hSw; (try dsimp only at hSw); skip; go_simp <;> with_reducible rfl)
  (try simp only [Act.put, aT, aZ, aS])
  refine wpAnyH_take (i := 1) (oi := ⟨some 87, .fieldAddr 30 (.tmp 4) 1, 0, "outright.go:374", #[], none⟩) (v := ?_) rfl (by kernel_rfl) (by kernel_rfl) (by kernel_rfl) (fun _ _ _ h => by cases h.1) (.inl ⟨by rfl, ?_⟩) (by assumption) ?_
  rotate_left
  · (intro w' hSw; (try dsimp only at hSw); skip; go_simp <;> with_reducible rfl)
  (try simp only [Act.put, aT, aZ, aS])
  refine wpAnyH_take (i := 2) (oi := ⟨some 88, .fieldAddr 27 (.tmp 87) 2, 0, "outright.go:374", #[⟨1, .data⟩], none⟩) (v := ?_) rfl (by kernel_rfl) (by kernel_rfl) (by kernel_rfl) (fun _ _ _ h => by cases h.1) (.inl ⟨by rfl, ?_⟩) (by assumption) ?_
  rotate_left
  · (intro w' hSw; (try dsimp only at hSw); skip; go_simp <;> with_reducible rfl)
  (try simp only [Act.put, aT, aZ, aS])
  refine wpAnyH_take (i := 3) (oi := ⟨some 89, .load 23 (.tmp 88), 23, "outright.go:374", #[⟨2, .data⟩], none⟩) rfl (by kernel_rfl) (by kernel_rfl) (by kernel_rfl) (fun _ _ _ h => by cases h.1) (yields_midB (by rfl) 23 _ rfl g4 10 rfl #[.int .i64 M.x1, .int .i64 M.x2] _ (fun w hw => bk_two hw 10 rfl rfl) Try.underlying23 rfl szRange) (by assumption) ?_
  (try simp only [Act.put, aT, aZ, aS])
  refine wpAnyH_take (i := 4) (oi := ⟨some 90, .move (.tmp 3), 34, "outright.go:374", #[], none⟩) (v := ?_) rfl (by kernel_rfl) (by kernel_rfl) (by kernel_rfl) (fun _ _ _ h => by cases h.1) (.inl ⟨by rfl, ?_⟩) (by assumption) ?_
  rotate_left
  · (intro w' hSw; (try dsimp only at hSw); skip; go_simp <;> with_reducible rfl)
  (try simp only [Act.put, aT, aZ, aS])
  refine wpAnyH_take (i := 5) (oi := ⟨some 91, .fieldAddr 30 (.tmp 4) 1, 0, "outright.go:374", #[], none⟩) (v := ?_) rfl (by kernel_rfl) (by kernel_rfl) (by kernel_rfl) (fun _ _ _ h => by cases h.1) (.inl ⟨by rfl, ?_⟩) (by assumption) ?_
  rotate_left
  · (intro w' hSw; (try dsimp only at hSw); skip; go_simp <;> with_reducible rfl)
  (try simp only [Act.put, aT, aZ, aS])
  refine wpAnyH_take (i := 6) (oi := ⟨some 92, .fieldAddr 27 (.tmp 91) 2, 0, "outright.go:374", #[⟨5, .data⟩], none⟩) (v := ?_) rfl (by kernel_rfl) (by kernel_rfl) (by kernel_rfl) (fun _ _ _ h => by cases h.1) (.inl ⟨by rfl, ?_⟩) (by assumption) ?_
  rotate_left
  · (intro w' hSw; (try dsimp only at hSw); skip; go_simp <;> with_reducible rfl)
  (try simp only [Act.put, aT, aZ, aS])
  refine wpAnyH_take (i := 7) (oi := ⟨some 93, .load 23 (.tmp 92), 23, "outright.go:374", #[⟨6, .data⟩], none⟩) rfl (by kernel_rfl) (by kernel_rfl) (by kernel_rfl) (fun _ _ _ h => by cases h.1) (yields_midB (by rfl) 23 _ rfl g4 10 rfl #[.int .i64 M.x1, .int .i64 M.x2] _ (fun w hw => bk_two hw 10 rfl rfl) Try.underlying23 rfl szRange) (by assumption) ?_
  (try simp only [Act.put, aT, aZ, aS])
  refine wpAnyH_take (i := 10) (oi := ⟨some 96, .move (.tmp 3), 34, "outright.go:374", #[], none⟩) (v := ?_) rfl (by kernel_rfl) (by kernel_rfl) (by kernel_rfl) (fun _ _ _ h => by cases h.1) (.inl ⟨by rfl, ?_⟩) (by assumption) ?_
  rotate_left
  · (intro w' hSw; (try dsimp only at hSw); skip; go_simp <;> with_reducible rfl)
  (try simp only [Act.put, aT, aZ, aS])
  refine wpAnyH_take (i := 11) (oi := ⟨some 97, .fieldAddr 30 (.tmp 4) 1, 0, "outright.go:374", #[], none⟩) (v := ?_) rfl (by kernel_rfl) (by kernel_rfl) (by kernel_rfl) (fun _ _ _ h => by cases h.1) (.inl ⟨by rfl, ?_⟩) (by assumption) ?_
  rotate_left
  · (intro w' hSw; (try dsimp only at hSw); skip; go_simp <;> with_reducible rfl)
  (try simp only [Act.put, aT, aZ, aS])
  refine wpAnyH_take (i := 12) (oi := ⟨some 98, .fieldAddr 27 (.tmp 97) 3, 0, "outright.go:374", #[⟨11, .data⟩], none⟩) (v := ?_) rfl (by kernel_rfl) (by kernel_rfl) (by kernel_rfl) (fun _ _ _ h => by cases h.1) (.inl ⟨by rfl, ?_⟩) (by assumption) ?_
  rotate_left
  · (intro w' hSw; (try dsimp only at hSw); skip; go_simp <;> with_reducible rfl)
  (try simp only [Act.put, aT, aZ, aS])
  refine wpAnyH_take (i := 13) (oi := ⟨some 99, .load 23 (.tmp 98), 23, "outright.go:374", #[⟨12, .data⟩], none⟩) rfl (by kernel_rfl) (by kernel_rfl) (by kernel_rfl) (fun _ _ _ h => by cases h.1) (yields_midB (by rfl) 23 _ rfl g4 12 rfl #[.int .i64 M.y1, .int .i64 M.y2] _ (fun w hw => bk_two hw 12 rfl rfl) Try.underlying23 rfl szRange) (by assumption) ?_
  (try simp only [Act.put, aT, aZ, aS])
  refine wpAnyH_take (i := 14) (oi := ⟨some 100, .move (.tmp 3), 34, "outright.go:374", #[], none⟩) (v := ?_) rfl (by kernel_rfl) (by kernel_rfl) (by kernel_rfl) (fun _ _ _ h => by cases h.1) (.inl ⟨by rfl, ?_⟩) (by assumption) ?_
  rotate_left
  · (intro w' hSw; (try dsimp only at hSw); skip; go_simp <;> with_reducible rfl)
  (try simp only [Act.put, aT, aZ, aS])
  refine wpAnyH_take (i := 15) (oi := ⟨some 101, .fieldAddr 30 (.tmp 4) 1, 0, "outright.go:374", #[], none⟩) (v := ?_) rfl (by kernel_rfl) (by kernel_rfl) (by kernel_rfl) (fun _ _ _ h => by cases h.1) (.inl ⟨by rfl, ?_⟩) (by assumption) ?_
  rotate_left
  · (intro w' hSw; (try dsimp only at hSw); skip; go_simp <;> with_reducible rfl)
  (try simp only [Act.put, aT, aZ, aS])
  refine wpAnyH_take (i := 16) (oi := ⟨some 102, .fieldAddr 27 (.tmp 101) 3, 0, "outright.go:374", #[⟨15, .data⟩], none⟩) (v := ?_) rfl (by kernel_rfl) (by kernel_rfl) (by kernel_rfl) (fun _ _ _ h => by cases h.1) (.inl ⟨by rfl, ?_⟩) (by assumption) ?_
  rotate_left
  · (intro w' hSw; (try dsimp only at hSw); skip; go_simp <;> with_reducible rfl)
  (try simp only [Act.put, aT, aZ, aS])
  refine wpAnyH_take (i := 17) (oi := ⟨some 103, .load 23 (.tmp 102), 23, "outright.go:374", #[⟨16, .data⟩], none⟩) rfl (by kernel_rfl) (by kernel_rfl) (by kernel_rfl) (fun _ _ _ h => by cases h.1) (yields_midB (by rfl) 23 _ rfl g4 12 rfl #[.int .i64 M.y1, .int .i64 M.y2] _ (fun w hw => bk_two hw 12 rfl rfl) Try.underlying23 rfl szRange) (by assumption) ?_
  (try simp only [Act.put, aT, aZ, aS])
  refine wpAnyH_ready (rs := [8]) (by kernel_rfl) (by simp) ?_
  refine AllReadyH.cons (o := ⟨some 94, .call { callee := .value (.func 43), args := #[.tmp 90, .tmp 93], argTypes := #[34, 23] }, 3, "outright.go:374", #[⟨4, .data⟩, ⟨7, .data⟩], none⟩) rfl (fun K hK => ?_) ?_
  · go_simp
    go_at_call 43
    refine (innerP b M.x1 M.x2 _ hU.pt (by omega)).mono ?_
    rintro e wI ⟨nx, rfl, hnx, hk, hp⟩
    have hU_ := hU.pot hk hp
    clear hS hU hk hp
    have hU := hU_
    clear hU_
    have hS := hU.j4
    go_wp2_with fail
    refine hK.out _ _ hS (fun _ => ?_)
    clear hK K
    (try simp only [Act.put, aT, aZ, aS])
    refine wpAnyH_ready (rs := [9]) (by kernel_rfl) (by simp) ?_
    refine AllReadyH.cons (o := ⟨some 95, .call { callee := .value (.func 42), args := #[.tmp 86, .tmp 89, .tmp 94], argTypes := #[34, 23, 3] }, 23, "outright.go:374", #[⟨0, .data⟩, ⟨3, .data⟩, ⟨8, .data⟩, ⟨8, .chain⟩], none⟩) rfl (fun K hK => ?_) ?_
    · go_simp
      go_at_call 42
      refine (narrowP b M.x1 M.x2 nx _ hU.pt (by omega)).mono ?_
      rintro e wN ⟨xy, xz, rfl, hxyz, hk, hp⟩
      have hU_ := hU.pot hk hp
      clear hS hU hk hp
      have hU := hU_
      clear hU_
      have hS := hU.j4
      go_wp2_with fail
      refine hK.out _ _ hS (fun _ => ?_)
      clear hK K
      (try simp only [Act.put, aT, aZ, aS])
      refine wpAnyH_take (i := 20) (oi := ⟨some 106, .fieldAddr 30 (.tmp 5) 1, 0, "outright.go:374", #[⟨0, .phase⟩, ⟨1, .phase⟩, ⟨2, .phase⟩, ⟨3, .phase⟩, ⟨4, .phase⟩, ⟨5, .phase⟩, ⟨6, .phase⟩, ⟨7, .phase⟩, ⟨8, .phase⟩, ⟨9, .phase⟩, ⟨10, .textOnly .lateStores⟩, ⟨11, .textOnly .lateStores⟩, ⟨12, .textOnly .lateStores⟩, ⟨13, .textOnly .lateStores⟩, ⟨14, .textOnly .lateStores⟩, ⟨15, .textOnly .lateStores⟩, ⟨16, .textOnly .lateStores⟩, ⟨17, .textOnly .lateStores⟩, ⟨18, .textOnly .lateStoresUnsure⟩, ⟨19, .textOnly .lateStoresUnsure⟩], none⟩) (v := ?_) rfl (by kernel_rfl) (by kernel_rfl) (by kernel_rfl) (fun _ _ _ h => by cases h.1) (.inl ⟨by rfl, ?_⟩) (by assumption) ?_
      rotate_left
      · (intro w' hSw; (try dsimp only at hSw); skip; go_simp <;> with_reducible rfl)
      (try simp only [Act.put, aT, aZ, aS])
      refine wpAnyH_take (i := 21) (oi := ⟨some 107, .fieldAddr 27 (.tmp 106) 2, 0, "outright.go:374", #[⟨20, .data⟩, ⟨0, .phase⟩, ⟨1, .phase⟩, ⟨2, .phase⟩, ⟨3, .phase⟩, ⟨4, .phase⟩, ⟨5, .phase⟩, ⟨6, .phase⟩, ⟨7, .phase⟩, ⟨8, .phase⟩, ⟨9, .phase⟩, ⟨10, .textOnly .lateStores⟩, ⟨11, .textOnly .lateStores⟩, ⟨12, .textOnly .lateStores⟩, ⟨13, .textOnly .lateStores⟩, ⟨14, .textOnly .lateStores⟩, ⟨15, .textOnly .lateStores⟩, ⟨16, .textOnly .lateStores⟩, ⟨17, .textOnly .lateStores⟩, ⟨18, .textOnly .lateStoresUnsure⟩, ⟨19, .textOnly .lateStoresUnsure⟩], none⟩) (v := ?_) rfl (by kernel_rfl) (by kernel_rfl) (by kernel_rfl) (fun _ _ _ h => by cases h.1) (.inl ⟨by rfl, ?_⟩) (by assumption) ?_
      rotate_left
      · (intro w' hSw; (try dsimp only at hSw); skip; go_simp <;> with_reducible rfl)
      (try simp only [Act.put, aT, aZ, aS])
      refine wpAnyH_ready (rs := [18]) (by kernel_rfl) (by simp) ?_
      refine AllReadyH.cons (o := ⟨some 104, .call { callee := .value (.func 43), args := #[.tmp 100, .tmp 103], argTypes := #[34, 23] }, 3, "outright.go:374", #[⟨14, .data⟩, ⟨17, .data⟩, ⟨9, .chain⟩], none⟩) rfl (fun K hK => ?_) ?_
      · go_simp
        go_at_call 43
        refine (innerP b M.y1 M.y2 _ hU.pt (by omega)).mono ?_
        rintro e wI ⟨ny, rfl, hny, hk, hp⟩
        have hU_ := hU.pot hk hp
        clear hS hU hk hp
        have hU := hU_
        clear hU_
        have hS := hU.j4
        go_wp2_with fail
        refine hK.out _ _ hS (fun _ => ?_)
        clear hK K
        (try simp only [Act.put, aT, aZ, aS])
        refine wpAnyH_ready (rs := [19]) (by kernel_rfl) (by simp) ?_
        refine AllReadyH.cons (o := ⟨some 105, .call { callee := .value (.func 42), args := #[.tmp 96, .tmp 99, .tmp 104], argTypes := #[34, 23, 3] }, 23, "outright.go:374", #[⟨10, .data⟩, ⟨13, .data⟩, ⟨18, .data⟩, ⟨18, .chain⟩], none⟩) rfl (fun K hK => ?_) ?_
        · go_simp
          go_at_call 42
          refine (narrowP b M.y1 M.y2 ny _ hU.pt (by omega)).mono ?_
          rintro e wN ⟨yy, yz, rfl, hyyz, hk, hp⟩
          have hU_ := hU.pot hk hp
          clear hS hU hk hp
          have hU := hU_
          clear hU_
          have hS := hU.j4
          go_wp2_with fail
          refine hK.out _ _ hS (fun _ => ?_)
          clear hK K
          (try simp only [Act.put, aT, aZ, aS])
          refine wpAnyH_ready (rs := [22]) (by kernel_rfl) (by simp) ?_
          refine AllReadyH.cons (o := ⟨none, .store 23 (.tmp 107) (.tmp 95), 0, "outright.go:374", #[⟨21, .data⟩, ⟨9, .data⟩, ⟨19, .chain⟩, ⟨0, .phase⟩, ⟨1, .phase⟩, ⟨2, .phase⟩, ⟨3, .phase⟩, ⟨4, .phase⟩, ⟨5, .phase⟩, ⟨6, .phase⟩, ⟨7, .phase⟩, ⟨8, .phase⟩, ⟨9, .phase⟩, ⟨10, .textOnly .lateStores⟩, ⟨11, .textOnly .lateStores⟩, ⟨12, .textOnly .lateStores⟩, ⟨13, .textOnly .lateStores⟩, ⟨14, .textOnly .lateStores⟩, ⟨15, .textOnly .lateStores⟩, ⟨16, .textOnly .lateStores⟩, ⟨17, .textOnly .lateStores⟩, ⟨18, .textOnly .lateStoresUnsure⟩, ⟨19, .textOnly .lateStoresUnsure⟩], none⟩) rfl (fun K hK => ?_) ?_
          · have z0 := hU.j5.at_ 10 (.int .i64 M.x1) rfl
            have z1 := hU.j5.at_ 11 (.int .i64 M.x2) rfl
            have f0 := hU.j5.free 10
            have f1 := hU.j5.free 11
            go_simp
            have hU_ := (hU.set5 10 (.int .i64 xy) { M with p1 := py, p2 := pz, t1 := ty, t2 := tz, r1 := ry, r2 := rz, u1 := uy, u2 := uz, d1 := dy, d2 := dz, x1 := xy } rfl).set5 11 (.int .i64 xz) { M with p1 := py, p2 := pz, t1 := ty, t2 := tz, r1 := ry, r2 := rz, u1 := uy, u2 := uz, d1 := dy, d2 := dz, x1 := xy, x2 := xz } rfl
            clear z0 z1 f0 f1 hU hS
            have hU := hU_
            have hS := hU_.j4
            clear hU_
            refine hK.out _ _ hS (fun _ => ?_)
            clear hK K
            (try simp only [Act.put, aT, aZ, aS])
            refine wpAnyH_take (i := 23) (oi := ⟨some 108, .fieldAddr 30 (.tmp 5) 1, 0, "outright.go:374", #[⟨0, .phase⟩, ⟨1, .phase⟩, ⟨2, .phase⟩, ⟨3, .phase⟩, ⟨4, .phase⟩, ⟨5, .phase⟩, ⟨6, .phase⟩, ⟨7, .phase⟩, ⟨8, .phase⟩, ⟨9, .phase⟩, ⟨10, .phase⟩, ⟨11, .phase⟩, ⟨12, .phase⟩, ⟨13, .phase⟩, ⟨14, .phase⟩, ⟨15, .phase⟩, ⟨16, .phase⟩, ⟨17, .phase⟩, ⟨18, .phase⟩, ⟨19, .phase⟩, ⟨20, .phase⟩, ⟨21, .phase⟩, ⟨22, .phase⟩], none⟩) (v := ?_) rfl (by kernel_rfl) (by kernel_rfl) (by kernel_rfl) (fun _ _ _ h => by cases h.1) (.inl ⟨by rfl, ?_⟩) (by assumption) ?_
            rotate_left
            · (intro w' hSw; (try dsimp only at hSw); skip; go_simp <;> with_reducible rfl)
            (try simp only [Act.put, aT, aZ, aS])
            refine wpAnyH_take (i := 24) (oi := ⟨some 109, .fieldAddr 27 (.tmp 108) 3, 0, "outright.go:374", #[⟨23, .data⟩, ⟨0, .phase⟩, ⟨1, .phase⟩, ⟨2, .phase⟩, ⟨3, .phase⟩, ⟨4, .phase⟩, ⟨5, .phase⟩, ⟨6, .phase⟩, ⟨7, .phase⟩, ⟨8, .phase⟩, ⟨9, .phase⟩, ⟨10, .phase⟩, ⟨11, .phase⟩, ⟨12, .phase⟩, ⟨13, .phase⟩, ⟨14, .phase⟩, ⟨15, .phase⟩, ⟨16, .phase⟩, ⟨17, .phase⟩, ⟨18, .phase⟩, ⟨19, .phase⟩, ⟨20, .phase⟩, ⟨21, .phase⟩, ⟨22, .phase⟩], none⟩) (v := ?_) rfl (by kernel_rfl) (by kernel_rfl) (by kernel_rfl) (fun _ _ _ h => by cases h.1) (.inl ⟨by rfl, ?_⟩) (by assumption) ?_
            rotate_left
            · (intro w' hSw; (try dsimp only at hSw); skip; go_simp <;> with_reducible rfl)
            (try simp only [Act.put, aT, aZ, aS])
            refine wpAnyH_ready (rs := [25]) (by kernel_rfl) (by simp) ?_
            refine AllReadyH.cons (o := ⟨none, .store 23 (.tmp 109) (.tmp 105), 0, "outright.go:374", #[⟨24, .data⟩, ⟨19, .data⟩, ⟨22, .chain⟩, ⟨0, .phase⟩, ⟨1, .phase⟩, ⟨2, .phase⟩, ⟨3, .phase⟩, ⟨4, .phase⟩, ⟨5, .phase⟩, ⟨6, .phase⟩, ⟨7, .phase⟩, ⟨8, .phase⟩, ⟨9, .phase⟩, ⟨10, .phase⟩, ⟨11, .phase⟩, ⟨12, .phase⟩, ⟨13, .phase⟩, ⟨14, .phase⟩, ⟨15, .phase⟩, ⟨16, .phase⟩, ⟨17, .phase⟩, ⟨18, .phase⟩, ⟨19, .phase⟩, ⟨20, .phase⟩, ⟨21, .phase⟩, ⟨22, .phase⟩], none⟩) rfl (fun K hK => ?_) ?_
            · have z0 := hU.j5.at_ 12 (.int .i64 M.y1) rfl
              have z1 := hU.j5.at_ 13 (.int .i64 M.y2) rfl
              have f0 := hU.j5.free 12
              have f1 := hU.j5.free 13
              go_simp
              have hU_ := (hU.set5 12 (.int .i64 yy) { M with p1 := py, p2 := pz, t1 := ty, t2 := tz, r1 := ry, r2 := rz, u1 := uy, u2 := uz, d1 := dy, d2 := dz, x1 := xy, x2 := xz, y1 := yy } rfl).set5 13 (.int .i64 yz) { M with p1 := py, p2 := pz, t1 := ty, t2 := tz, r1 := ry, r2 := rz, u1 := uy, u2 := uz, d1 := dy, d2 := dz, x1 := xy, x2 := xz, y1 := yy, y2 := yz } rfl
              clear z0 z1 f0 f1 hU hS
              have hU := hU_
              have hS := hU_.j4
              clear hU_
              refine hK.out _ _ hS (fun _ => ?_)
              clear hK K
              (try simp only [Act.put, aT, aZ, aS])
              refine wpAnyH_done (by kernel_rfl) ?_ _
              exact ⟨rfl, _, _, _, _, _, _, _, _, _, _, _, _, _, _, _, _, _, _, _, _, _, _, _, _, xy, xz, yy, yz, rfl, ⟨⟨hxyz.1, Int.le_trans hxyz.2.1 hxyz.2.2.1, hxyz.2.2.2⟩, ⟨hyyz.1, Int.le_trans hyyz.2.1 hyyz.2.2.1, hyyz.2.2.2⟩⟩, hU⟩
            exact AllReadyH.nil
          exact AllReadyH.nil
        exact AllReadyH.nil
      exact AllReadyH.nil
    exact AllReadyH.nil
  exact AllReadyH.nil
set_option maxHeartbeats 4000000 in
set_option maxRecDepth 1000000 in
theorem bepart5 {w0 w : World} {B g4 g5 b : Nat} {M : Jb} {a oa : Option Addr} {n c oc : Nat} {py pz ty tz ry rz : Int} {u0 u1 u2 u6 u7 u8 u9 A0 A1 A2 A3 A4 A5 A6 A7 A8 A9 Aa Ab Ac Ad Ae Af Ag Ah Ai Aj Ak Al Am An Ao Ap Aq Ar As At Au Av Aw Ax Ay Az C0 C1 C2 C3 C4 C5 C6 C7 C8 C9 Ca Cb Cc Cd Ce Cf Cg Ch Ci Cj Ck Cl Cm Cn Co Cp Cq Cr Cs Ct Cu Cv Cw Cx Cy Cz D0 D1 D2 D3 D4 D5 D6 D7 D8 D9 Da Db Dc Dd De Df Dg Dh Di Dj Dk Dl Dm Dn Do Dp Dq Dr Ds Dt Du Dv Dw Dx Dy Dz E0 E1 E2 E3 E4 E5 E6 E7 E8 E9 Ea Eb Ec Ed Ee Ef Eg Eh Ei Ej Ek El Em En Eo Ep Eq Er Es Et Eu Ev Ew Ex Ey Ez F0 F1 F2 F3 F4 F5 F6 F7 F8 F9 Fa Fb Fc Fd Fe Ff Fg Fh Fi Fj Fk Fl Fm Fn Fo Fp Fq Fr Fs Ft Fu Fv Fw Fx Fy Fz L0 L1 L2 L3 L4 L5 L6 L7 L8 L9 La Lb Lc Ld Le Lf Lg Lh Li Lj Lk Ll Lm Ln Lo Lp Lq Lr Ls Lt Lu Lv Lw Lx Ly Lz M0 M1 M2 M3 M4 M5 M6 M7 M8 M9 Ma Mb Mc Md Me Mf Mg Mh Mi Mj Mk Ml Mm Mn Mo Mp Mq Mr Ms Mt Mu Mv Mw Mx My Mz N0 : Value} (htun : TunOK) (hshort : ShortOK) (hfine : FineOK) (hs : US w0 B g4 g5 b M { M with p1 := py, p2 := pz, t1 := ty, t2 := tz, r1 := ry, r2 := rz } a n c oa oc M.sh w) (kp : Nr (M.p1, M.p2) (py, pz)) (kt : Nr (M.t1, M.t2) (ty, tz)) (kr : Nr (M.r1, M.r2) (ry, rz)) : Code.wp Try.prog berest5 (QBE w0) ⟨#[u0, u1, u2, (.pointer (some ⟨b, 0, none⟩)), (.pointer (some ⟨g4, 0, none⟩)), (.pointer (some ⟨g5, 0, none⟩)), u6, u7, u8, u9, A0, A1, A2, A3, A4, A5, A6, A7, A8, A9, Aa, Ab, Ac, Ad, Ae, Af, Ag, Ah, Ai, Aj, Ak, Al, Am, An, Ao, Ap, Aq, Ar, As, At, Au, Av, Aw, Ax, Ay, Az, C0, C1, C2, C3, C4, C5, C6, C7, C8, C9, Ca, Cb, Cc, Cd, Ce, Cf, Cg, Ch, Ci, Cj, Ck, Cl, Cm, Cn, Co, Cp, Cq, Cr, Cs, Ct, Cu, Cv, Cw, Cx, Cy, Cz, D0, D1, D2, D3, D4, D5, D6, D7, D8, D9, Da, Db, Dc, Dd, De, Df, Dg, Dh, Di, Dj, Dk, Dl, Dm, Dn, Do, Dp, Dq, Dr, Ds, Dt, Du, Dv, Dw, Dx, Dy, Dz, E0, E1, E2, E3, E4, E5, E6, E7, E8, E9, Ea, Eb, Ec, Ed, Ee, Ef, Eg, Eh, Ei, Ej, Ek, El, Em, En, Eo, Ep, Eq, Er, Es, Et, Eu, Ev, Ew, Ex, Ey, Ez, F0, F1, F2, F3, F4, F5, F6, F7, F8, F9, Fa, Fb, Fc, Fd, Fe, Ff, Fg, Fh, Fi, Fj, Fk, Fl, Fm, Fn, Fo, Fp, Fq, Fr, Fs, Ft, Fu, Fv, Fw, Fx, Fy, Fz, L0, L1, L2, L3, L4, L5, L6, L7, L8, L9, La, Lb, Lc, Ld, Le, Lf, Lg, Lh, Li, Lj, Lk, Ll, Lm, Ln, Lo, Lp, Lq, Lr, Ls, Lt, Lu, Lv, Lw, Lx, Ly, Lz, M0, M1, M2, M3, M4, M5, M6, M7, M8, M9, Ma, Mb, Mc, Md, Me, Mf, Mg, Mh, Mi, Mj, Mk, Ml, Mm, Mn, Mo, Mp, Mq, Mr, Ms, Mt, Mu, Mv, Mw, Mx, My, Mz, N0], []⟩ w := by
  rw [berest5_eq]
  have HT := hidMk htun
  have HSO := hidMk hshort
  have HFO := hidMk hfine
  clear htun hshort hfine
  have hfull := check_full hs.ck
  have hfp := hfull.p; have hft := hfull.t; have hfr := hfull.r; have hfu := hfull.u; have hfd := hfull.d; have hfx := hfull.x; have hfy := hfull.y
  clear hfull
  refine wp_seq_k fun K0 hKK => ?_
  refine region_via (R := fun a_ e a' w' => e = .normal ∧ ∃ (v62 v63 v64 v65 v66 v67 v68 v69 v70 v71 v72 v73 v74 v75 v76 v77 v78 v79 v80 v81 v82 v83 v84 v85 : Value) (uy uz dy dz : Int), a' = ((((((((((((((((((((((((a_.put (some 62) v62).put (some 63) v63).put (some 64) v64).put (some 65) v65).put (some 66) v66).put (some 67) v67).put (some 68) v68).put (some 69) v69).put (some 70) v70).put (some 71) v71).put (some 72) v72).put (some 73) v73).put (some 74) v74).put (some 75) v75).put (some 76) v76).put (some 77) v77).put (some 78) v78).put (some 79) v79).put (some 80) v80).put (some 81) v81).put (some 82) v82).put (some 83) v83).put (some 84) v84).put (some 85) v85) ∧ (Nr (M.u1, M.u2) (uy, uz) ∧ Nr (M.d1, M.d2) (dy, dz)) ∧ US w0 B g4 g5 b M { M with p1 := py, p2 := pz, t1 := ty, t2 := tz, r1 := ry, r2 := rz, u1 := uy, u2 := uz, d1 := dy, d2 := dz } a n c oa oc M.sh w') ?_ ?_
  rotate_left
  · rintro e a' w' ⟨rfl, v62, v63, v64, v65, v66, v67, v68, v69, v70, v71, v72, v73, v74, v75, v76, v77, v78, v79, v80, v81, v82, v83, v84, v85, uy, uz, dy, dz, rfl, ⟨ku, kd⟩, hs2⟩
    refine hKK _ _ ?_
    simp only [Act.put, aT, aZ, aS]
    exact bepart6 HT.out HSO.out HFO.out hs2 kp kt kr ku kd
  have hU := hs.next (Below.refl _ _).drew
  have hS := hU.j4
  clear hs
  refine wp_region_held_drew (S := fun w' => Bk w' g4 30 (jobC M (.slice a n c))) (by kernel_rfl) hS (fun hS0 => ?_)
  clear hS0
  generalize w.drew = wd at hS hU ⊢
  refine wpAnyH_take (i := 0) (oi := ⟨some 62, .move (.tmp 3), 34, "outright.go:373", #[], none⟩) (v := ?_) rfl (by kernel_rfl) (by kernel_rfl) (by kernel_rfl) (fun _ _ _ h => by cases h.1) (.inl ⟨by rfl, ?_⟩) (by assumption) ?_
  rotate_left
  · (intro w' hSw; (try dsimp only at hSw); skip; go_simp <;> with_reducible rfl)
  (try simp only [Act.put, aT, aZ, aS])
  refine wpAnyH_take (i := 1) (oi := ⟨some 63, .fieldAddr 30 (.tmp 4) 1, 0, "outright.go:373", #[], none⟩) (v := ?_) rfl (by kernel_rfl) (by kernel_rfl) (by kernel_rfl) (fun _ _ _ h => by cases h.1) (.inl ⟨by rfl, ?_⟩) (by assumption) ?_
  rotate_left
  · (intro w' hSw; (try dsimp only at hSw); skip; go_simp <;> with_reducible rfl)
  (try simp only [Act.put, aT, aZ, aS])
  refine wpAnyH_take (i := 2) (oi := ⟨some 64, .fieldAddr 27 (.tmp 63) 0, 0, "outright.go:373", #[⟨1, .data⟩], none⟩) (v := ?_) rfl (by kernel_rfl) (by kernel_rfl) (by kernel_rfl) (fun _ _ _ h => by cases h.1) (.inl ⟨by rfl, ?_⟩) (by assumption) ?_
  rotate_left
  · (intro w' hSw; (try dsimp only at hSw); skip; go_simp <;> with_reducible rfl)
  (try simp only [Act.put, aT, aZ, aS])
  refine wpAnyH_take (i := 3) (oi := ⟨some 65, .load 23 (.tmp 64), 23, "outright.go:373", #[⟨2, .data⟩], none⟩) rfl (by kernel_rfl) (by kernel_rfl) (by kernel_rfl) (fun _ _ _ h => by cases h.1) (yields_midB (by rfl) 23 _ rfl g4 6 rfl #[.int .i64 M.u1, .int .i64 M.u2] _ (fun w hw => bk_two hw 6 rfl rfl) Try.underlying23 rfl szRange) (by assumption) ?_
  (try simp only [Act.put, aT, aZ, aS])
  refine wpAnyH_take (i := 4) (oi := ⟨some 66, .move (.tmp 3), 34, "outright.go:373", #[], none⟩) (v := ?_) rfl (by kernel_rfl) (by kernel_rfl) (by kernel_rfl) (fun _ _ _ h => by cases h.1) (.inl ⟨by rfl, ?_⟩) (by assumption) ?_
  rotate_left
  · (intro w' hSw; (try dsimp only at hSw); skip; go_simp <;> with_reducible rfl)
  (try simp only [Act.put, aT, aZ, aS])
  refine wpAnyH_take (i := 5) (oi := ⟨some 67, .fieldAddr 30 (.tmp 4) 1, 0, "outright.go:373", #[], none⟩) (v := ?_) rfl (by kernel_rfl) (by kernel_rfl) (by kernel_rfl) (fun _ _ _ h => by cases h.1) (.inl ⟨by rfl, ?_⟩) (by assumption) ?_
  rotate_left
  · (intro w' hSw; (try dsimp only at hSw); skip; go_simp <;> with_reducible rfl)
  (try simp only [Act.put, aT, aZ, aS])
  refine wpAnyH_take (i := 6) (oi := ⟨some 68, .fieldAddr 27 (.tmp 67) 0, 0, "outright.go:373", #[⟨5, .data⟩], none⟩) (v := ?_) rfl (by kernel_rfl) (by kernel_rfl) (by kernel_rfl) (fun _ _ _ h => by cases h.1) (.inl ⟨by rfl, ?_⟩) (by assumption) ?_
  rotate_left
  · (intro w' hSw; (try dsimp only at hSw); skip; go_simp <;> with_reducible rfl)
  (try simp only [Act.put, aT, aZ, aS])
  refine wpAnyH_take (i := 7) (oi := ⟨some 69, .load 23 (.tmp 68), 23, "outright.go:373", #[⟨6, .data⟩], none⟩) rfl (by kernel_rfl) (by kernel_rfl) (by kernel_rfl) (fun _ _ _ h => by cases h.1) (yields_midB (by rfl) 23 _ rfl g4 6 rfl #[.int .i64 M.u1, .int .i64 M.u2] _ (fun w hw => bk_two hw 6 rfl rfl) Try.underlying23 rfl szRange) (by assumption) ?_
  (try simp only [Act.put, aT, aZ, aS])
  refine wpAnyH_take (i := 10) (oi := ⟨some 72, .move (.tmp 3), 34, "outright.go:373", #[], none⟩) (v := ?_) rfl (by kernel_rfl) (by kernel_rfl) (by kernel_rfl) (fun _ _ _ h => by cases h.1) (.inl ⟨by rfl, ?_⟩) (by assumption) ?_
  rotate_left
  · (intro w' hSw; (try dsimp only at hSw); skip; go_simp <;> with_reducible rfl)
  (try simp only [Act.put, aT, aZ, aS])
  refine wpAnyH_take (i := 11) (oi := ⟨some 73, .fieldAddr 30 (.tmp 4) 1, 0, "outright.go:373", #[], none⟩) (v := ?_) rfl (by kernel_rfl) (by kernel_rfl) (by kernel_rfl) (fun _ _ _ h => by cases h.1) (.inl ⟨by rfl, ?_⟩) (by assumption) ?_
  rotate_left
  · (intro w' hSw; (try dsimp only at hSw); skip; go_simp <;> with_reducible rfl)
  (try simp only [Act.put, aT, aZ, aS])
  refine wpAnyH_take (i := 12) (oi := ⟨some 74, .fieldAddr 27 (.tmp 73) 1, 0, "outright.go:373", #[⟨11, .data⟩], none⟩) (v := ?_) rfl (by kernel_rfl) (by kernel_rfl) (by kernel_rfl) (fun _ _ _ h => by cases h.1) (.inl ⟨by rfl, ?_⟩) (by assumption) ?_
  rotate_left
  · (intro w' hSw; (try dsimp only at hSw); skip; go_simp <;> with_reducible rfl)
  (try simp only [Act.put, aT, aZ, aS])
  refine wpAnyH_take (i := 13) (oi := ⟨some 75, .load 23 (.tmp 74), 23, "outright.go:373", #[⟨12, .data⟩], none⟩) rfl (by kernel_rfl) (by kernel_rfl) (by kernel_rfl) (fun _ _ _ h => by cases h.1) (yields_midB (by rfl) 23 _ rfl g4 8 rfl #[.int .i64 M.d1, .int .i64 M.d2] _ (fun w hw => bk_two hw 8 rfl rfl) Try.underlying23 rfl szRange) (by assumption) ?_
  (try simp only [Act.put, aT, aZ, aS])
  refine wpAnyH_take (i := 14) (oi := ⟨some 76, .move (.tmp 3), 34, "outright.go:373", #[], none⟩) (v := ?_) rfl (by kernel_rfl) (by kernel_rfl) (by kernel_rfl) (fun _ _ _ h => by cases h.1) (.inl ⟨by rfl, ?_⟩) (by assumption) ?_
  rotate_left
  · (intro w' hSw; (try dsimp only at hSw); skip; go_simp <;> with_reducible rfl)
  (try simp only [Act.put, aT, aZ, aS])
  refine wpAnyH_take (i := 15) (oi := ⟨some 77, .fieldAddr 30 (.tmp 4) 1, 0, "outright.go:373", #[], none⟩) (v := ?_) rfl (by kernel_rfl) (by kernel_rfl) (by kernel_rfl) (fun _ _ _ h => by cases h.1) (.inl ⟨by rfl, ?_⟩) (by assumption) ?_
  rotate_left
  · (intro w' hSw; (try dsimp only at hSw); skip; go_simp <;> with_reducible rfl)
  (try simp only [Act.put, aT, aZ, aS])
  refine wpAnyH_take (i := 16) (oi := ⟨some 78, .fieldAddr 27 (.tmp 77) 1, 0, "outright.go:373", #[⟨15, .data⟩], none⟩) (v := ?_) rfl (by kernel_rfl) (by kernel_rfl) (by kernel_rfl) (fun _ _ _ h => by cases h.1) (.inl ⟨by rfl, ?_⟩) (by assumption) ?_
  rotate_left
  · (intro w' hSw; (try dsimp only at hSw); skip; go_simp <;> with_reducible rfl)
  (try simp only [Act.put, aT, aZ, aS])
  refine wpAnyH_take (i := 17) (oi := ⟨some 79, .load 23 (.tmp 78), 23, "outright.go:373", #[⟨16, .data⟩], none⟩) rfl (by kernel_rfl) (by kernel_rfl) (by kernel_rfl) (fun _ _ _ h => by cases h.1) (yields_midB (by rfl) 23 _ rfl g4 8 rfl #[.int .i64 M.d1, .int .i64 M.d2] _ (fun w hw => bk_two hw 8 rfl rfl) Try.underlying23 rfl szRange) (by assumption) ?_
  (try simp only [Act.put, aT, aZ, aS])
  refine wpAnyH_ready (rs := [8]) (by kernel_rfl) (by simp) ?_
  refine AllReadyH.cons (o := ⟨some 70, .call { callee := .value (.func 43), args := #[.tmp 66, .tmp 69], argTypes := #[34, 23] }, 3, "outright.go:373", #[⟨4, .data⟩, ⟨7, .data⟩], none⟩) rfl (fun K hK => ?_) ?_
  · go_simp
    go_at_call 43
    refine (innerP b M.u1 M.u2 _ hU.pt (by omega)).mono ?_
    rintro e wI ⟨nu, rfl, hnu, hk, hp⟩
    have hU_ := hU.pot hk hp
    clear hS hU hk hp
    have hU := hU_
    clear hU_
    have hS := hU.j4
    go_wp2_with fail
    refine hK.out _ _ hS (fun _ => ?_)
    clear hK K
    (try simp only [Act.put, aT, aZ, aS])
    refine wpAnyH_ready (rs := [9]) (by kernel_rfl) (by simp) ?_
    refine AllReadyH.cons (o := ⟨some 71, .call { callee := .value (.func 42), args := #[.tmp 62, .tmp 65, .tmp 70], argTypes := #[34, 23, 3] }, 23, "outright.go:373", #[⟨0, .data⟩, ⟨3, .data⟩, ⟨8, .data⟩, ⟨8, .chain⟩], none⟩) rfl (fun K hK => ?_) ?_
    · go_simp
      go_at_call 42
      refine (narrowP b M.u1 M.u2 nu _ hU.pt (by omega)).mono ?_
      rintro e wN ⟨uy, uz, rfl, huyz, hk, hp⟩
      have hU_ := hU.pot hk hp
      clear hS hU hk hp
      have hU := hU_
      clear hU_
      have hS := hU.j4
      go_wp2_with fail
      refine hK.out _ _ hS (fun _ => ?_)
      clear hK K
      (try simp only [Act.put, aT, aZ, aS])
      refine wpAnyH_take (i := 20) (oi := ⟨some 82, .fieldAddr 30 (.tmp 5) 1, 0, "outright.go:373", #[⟨0, .phase⟩, ⟨1, .phase⟩, ⟨2, .phase⟩, ⟨3, .phase⟩, ⟨4, .phase⟩, ⟨5, .phase⟩, ⟨6, .phase⟩, ⟨7, .phase⟩, ⟨8, .phase⟩, ⟨9, .phase⟩, ⟨10, .textOnly .lateStores⟩, ⟨11, .textOnly .lateStores⟩, ⟨12, .textOnly .lateStores⟩, ⟨13, .textOnly .lateStores⟩, ⟨14, .textOnly .lateStores⟩, ⟨15, .textOnly .lateStores⟩, ⟨16, .textOnly .lateStores⟩, ⟨17, .textOnly .lateStores⟩, ⟨18, .textOnly .lateStoresUnsure⟩, ⟨19, .textOnly .lateStoresUnsure⟩], none⟩) (v := ?_) rfl (by kernel_rfl) (by kernel_rfl) (by kernel_rfl) (fun _ _ _ h => by cases h.1) (.inl ⟨by rfl, ?_⟩) (by assumption) ?_
      rotate_left
      · (intro w' hSw; (try dsimp only at hSw); skip; go_simp <;> with_reducible rfl)
      (try simp only [Act.put, aT, aZ, aS])
      refine wpAnyH_take (i := 21) (oi := ⟨some 83, .fieldAddr 27 (.tmp 82) 0, 0, "outright.go:373", #[⟨20, .data⟩, ⟨0, .phase⟩, ⟨1, .phase⟩, ⟨2, .phase⟩, ⟨3, .phase⟩, ⟨4, .phase⟩, ⟨5, .phase⟩, ⟨6, .phase⟩, ⟨7, .phase⟩, ⟨8, .phase⟩, ⟨9, .phase⟩, ⟨10, .textOnly .lateStores⟩, ⟨11, .textOnly .lateStores⟩, ⟨12, .textOnly .lateStores⟩, ⟨13, .textOnly .lateStores⟩, ⟨14, .textOnly .lateStores⟩, ⟨15, .textOnly .lateStores⟩, ⟨16, .textOnly .lateStores⟩, ⟨17, .textOnly .lateStores⟩, ⟨18, .textOnly .lateStoresUnsure⟩, ⟨19, .textOnly .lateStoresUnsure⟩], none⟩) (v := ?_) rfl (by kernel_rfl) (by kernel_rfl) (by kernel_rfl) (fun _ _ _ h => by cases h.1) (.inl ⟨by rfl, ?_⟩) (by assumption) ?_
      rotate_left
      · (intro w' hSw; (try dsimp only at hSw); skip; go_simp <;> with_reducible rfl)
      (try simp only [Act.put, aT, aZ, aS])
      refine wpAnyH_ready (rs := [18]) (by kernel_rfl) (by simp) ?_
      refine AllReadyH.cons (o := ⟨some 80, .call { callee := .value (.func 43), args := #[.tmp 76, .tmp 79], argTypes := #[34, 23] }, 3, "outright.go:373", #[⟨14, .data⟩, ⟨17, .data⟩, ⟨9, .chain⟩], none⟩) rfl (fun K hK => ?_) ?_
      · go_simp
        go_at_call 43
        refine (innerP b M.d1 M.d2 _ hU.pt (by omega)).mono ?_
        rintro e wI ⟨nd, rfl, hnd, hk, hp⟩
        have hU_ := hU.pot hk hp
        clear hS hU hk hp
        have hU := hU_
        clear hU_
        have hS := hU.j4
        go_wp2_with fail
        refine hK.out _ _ hS (fun _ => ?_)
        clear hK K
        (try simp only [Act.put, aT, aZ, aS])
        refine wpAnyH_ready (rs := [19]) (by kernel_rfl) (by simp) ?_
        refine AllReadyH.cons (o := ⟨some 81, .call { callee := .value (.func 42), args := #[.tmp 72, .tmp 75, .tmp 80], argTypes := #[34, 23, 3] }, 23, "outright.go:373", #[⟨10, .data⟩, ⟨13, .data⟩, ⟨18, .data⟩, ⟨18, .chain⟩], none⟩) rfl (fun K hK => ?_) ?_
        · go_simp
          go_at_call 42
          refine (narrowP b M.d1 M.d2 nd _ hU.pt (by omega)).mono ?_
          rintro e wN ⟨dy, dz, rfl, hdyz, hk, hp⟩
          have hU_ := hU.pot hk hp
          clear hS hU hk hp
          have hU := hU_
          clear hU_
          have hS := hU.j4
          go_wp2_with fail
          refine hK.out _ _ hS (fun _ => ?_)
          clear hK K
          (try simp only [Act.put, aT, aZ, aS])
          refine wpAnyH_ready (rs := [22]) (by kernel_rfl) (by simp) ?_
          refine AllReadyH.cons (o := ⟨none, .store 23 (.tmp 83) (.tmp 71), 0, "outright.go:373", #[⟨21, .data⟩, ⟨9, .data⟩, ⟨19, .chain⟩, ⟨0, .phase⟩, ⟨1, .phase⟩, ⟨2, .phase⟩, ⟨3, .phase⟩, ⟨4, .phase⟩, ⟨5, .phase⟩, ⟨6, .phase⟩, ⟨7, .phase⟩, ⟨8, .phase⟩, ⟨9, .phase⟩, ⟨10, .textOnly .lateStores⟩, ⟨11, .textOnly .lateStores⟩, ⟨12, .textOnly .lateStores⟩, ⟨13, .textOnly .lateStores⟩, ⟨14, .textOnly .lateStores⟩, ⟨15, .textOnly .lateStores⟩, ⟨16, .textOnly .lateStores⟩, ⟨17, .textOnly .lateStores⟩, ⟨18, .textOnly .lateStoresUnsure⟩, ⟨19, .textOnly .lateStoresUnsure⟩], none⟩) rfl (fun K hK => ?_) ?_
          · have z0 := hU.j5.at_ 6 (.int .i64 M.u1) rfl
            have z1 := hU.j5.at_ 7 (.int .i64 M.u2) rfl
            have f0 := hU.j5.free 6
            have f1 := hU.j5.free 7
            go_simp
            have hU_ := (hU.set5 6 (.int .i64 uy) { M with p1 := py, p2 := pz, t1 := ty, t2 := tz, r1 := ry, r2 := rz, u1 := uy } rfl).set5 7 (.int .i64 uz) { M with p1 := py, p2 := pz, t1 := ty, t2 := tz, r1 := ry, r2 := rz, u1 := uy, u2 := uz } rfl
            clear z0 z1 f0 f1 hU hS
            have hU := hU_
            have hS := hU_.j4
            clear hU_
            refine hK.out _ _ hS (fun _ => ?_)
            clear hK K
            (try simp only [Act.put, aT, aZ, aS])
            refine wpAnyH_take (i := 23) (oi := ⟨some 84, .fieldAddr 30 (.tmp 5) 1, 0, "outright.go:373", #[⟨0, .phase⟩, ⟨1, .phase⟩, ⟨2, .phase⟩, ⟨3, .phase⟩, ⟨4, .phase⟩, ⟨5, .phase⟩, ⟨6, .phase⟩, ⟨7, .phase⟩, ⟨8, .phase⟩, ⟨9, .phase⟩, ⟨10, .phase⟩, ⟨11, .phase⟩, ⟨12, .phase⟩, ⟨13, .phase⟩, ⟨14, .phase⟩, ⟨15, .phase⟩, ⟨16, .phase⟩, ⟨17, .phase⟩, ⟨18, .phase⟩, ⟨19, .phase⟩, ⟨20, .phase⟩, ⟨21, .phase⟩, ⟨22, .phase⟩], none⟩) (v := ?_) rfl (by kernel_rfl) (by kernel_rfl) (by kernel_rfl) (fun _ _ _ h => by cases h.1) (.inl ⟨by rfl, ?_⟩) (by assumption) ?_
            rotate_left
            · (intro w' hSw; (try dsimp only at hSw); skip; go_simp <;> with_reducible rfl)
            (try simp only [Act.put, aT, aZ, aS])
            refine wpAnyH_take (i := 24) (oi := ⟨some 85, .fieldAddr 27 (.tmp 84) 1, 0, "outright.go:373", #[⟨23, .data⟩, ⟨0, .phase⟩, ⟨1, .phase⟩, ⟨2, .phase⟩, ⟨3, .phase⟩, ⟨4, .phase⟩, ⟨5, .phase⟩, ⟨6, .phase⟩, ⟨7, .phase⟩, ⟨8, .phase⟩, ⟨9, .phase⟩, ⟨10, .phase⟩, ⟨11, .phase⟩, ⟨12, .phase⟩, ⟨13, .phase⟩, ⟨14, .phase⟩, ⟨15, .phase⟩, ⟨16, .phase⟩, ⟨17, .phase⟩, ⟨18, .phase⟩, ⟨19, .phase⟩, ⟨20, .phase⟩, ⟨21, .phase⟩, ⟨22, .phase⟩], none⟩) (v := ?_) rfl (by kernel_rfl) (by kernel_rfl) (by kernel_rfl) (fun _ _ _ h => by cases h.1) (.inl ⟨by rfl, ?_⟩) (by assumption) ?_
            rotate_left
            · (intro w' hSw; (try dsimp only at hSw); skip; go_simp <;> with_reducible rfl)
            (try simp only [Act.put, aT, aZ, aS])
            refine wpAnyH_ready (rs := [25]) (by kernel_rfl) (by simp) ?_
            refine AllReadyH.cons (o := ⟨none, .store 23 (.tmp 85) (.tmp 81), 0, "outright.go:373", #[⟨24, .data⟩, ⟨19, .data⟩, ⟨22, .chain⟩, ⟨0, .phase⟩, ⟨1, .phase⟩, ⟨2, .phase⟩, ⟨3, .phase⟩, ⟨4, .phase⟩, ⟨5, .phase⟩, ⟨6, .phase⟩, ⟨7, .phase⟩, ⟨8, .phase⟩, ⟨9, .phase⟩, ⟨10, .phase⟩, ⟨11, .phase⟩, ⟨12, .phase⟩, ⟨13, .phase⟩, ⟨14, .phase⟩, ⟨15, .phase⟩, ⟨16, .phase⟩, ⟨17, .phase⟩, ⟨18, .phase⟩, ⟨19, .phase⟩, ⟨20, .phase⟩, ⟨21, .phase⟩, ⟨22, .phase⟩], none⟩) rfl (fun K hK => ?_) ?_
            · have z0 := hU.j5.at_ 8 (.int .i64 M.d1) rfl
              have z1 := hU.j5.at_ 9 (.int .i64 M.d2) rfl
              have f0 := hU.j5.free 8
              have f1 := hU.j5.free 9
              go_simp
              have hU_ := (hU.set5 8 (.int .i64 dy) { M with p1 := py, p2 := pz, t1 := ty, t2 := tz, r1 := ry, r2 := rz, u1 := uy, u2 := uz, d1 := dy } rfl).set5 9 (.int .i64 dz) { M with p1 := py, p2 := pz, t1 := ty, t2 := tz, r1 := ry, r2 := rz, u1 := uy, u2 := uz, d1 := dy, d2 := dz } rfl
              clear z0 z1 f0 f1 hU hS
              have hU := hU_
              have hS := hU_.j4
              clear hU_
              refine hK.out _ _ hS (fun _ => ?_)
              clear hK K
              (try simp only [Act.put, aT, aZ, aS])
              refine wpAnyH_done (by kernel_rfl) ?_ _
              exact ⟨rfl, _, _, _, _, _, _, _, _, _, _, _, _, _, _, _, _, _, _, _, _, _, _, _, _, uy, uz, dy, dz, rfl, ⟨⟨huyz.1, Int.le_trans huyz.2.1 huyz.2.2.1, huyz.2.2.2⟩, ⟨hdyz.1, Int.le_trans hdyz.2.1 hdyz.2.2.1, hdyz.2.2.2⟩⟩, hU⟩
            exact AllReadyH.nil
          exact AllReadyH.nil
        exact AllReadyH.nil
      exact AllReadyH.nil
    exact AllReadyH.nil
  exact AllReadyH.nil
end Go.Proofs.Ytbebofmpimfbgaa
