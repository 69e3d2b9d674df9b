/- Part 15 of the proof: MiD, PotN, MiE, MiF. -/
import Derived.IntWalk
import Derived.Test.YtbebofmpimfbgaaM14
import Derived.Test.YtbebofmpimfbgaaM12
import Derived.Test.YtbebofmpimfbgaaM06
/- The law ReedMirrored: windows. -/
namespace Go.Proofs.Ytbebofmpimfbgaa
set_option linter.all false
open Go.RowKit
set_option maxHeartbeats 4000000 in
set_option maxRecDepth 1000000 in
theorem mipart12 {w0 w : World} {g4 g5 : Nat} {K : Jb} {a oa la lb : Option Addr} {n c oc lc mc : Nat} {l : List Int} {g10 g12 : Nat} {ev p q x y : Int} {u0 u1 u2 u3 u6 u9 A4 A5 A6 A7 A8 A9 Aa Ab Ac Ad Ae Af Ag Ah Ai Aj Ak Al Am An Ao Ap Aq Ar As At Au Av Aw Ax Ay Az C0 C1 C2 C3 C4 C5 C6 C7 C8 C9 Ca Cb Cc Cd Ce Cf Cg Ch Ci Cj Ck Cl Cm Cn Co Cp Cq Cr Cs Ct Cu Cv Cw Cx Cy Cz D0 D1 D2 D3 D4 D5 D6 D7 D8 D9 Da Db Dc Dd De Df Dg Dh Di Dj Dk Dl Dm Dn Do Dp Dq Dr Ds Dt Du Dv Dw Dx Dy Dz E0 E1 E2 E3 E4 E5 E6 E7 E8 E9 Ea Eb Ec Ed Ee Ef Eg Eh Ei Ej Ek El Em En Eo Ep Eq Er Es Et Eu Ev Ew Ex Ey Ez F0 F1 F2 F3 F4 F5 F6 F7 F8 F9 Fa Fb Fc Fd Fe Ff Fg Fh Fi Fj Fk Fl Fm Fn Fo Fp Fq Fr Fs Ft Fu Fv Fw Fx Fy Fz L0 L1 L2 L3 L4 L5 L6 L7 L8 L9 La Lb Lc Ld Le Lf Lg Lh Li Lj Lk Ll Lm Ln Lo Lp Lq Lr Ls Lt Lu Lv Lw Lx Ly Lz M0 M1 M2 M3 M4 M5 M6 M7 M8 M9 Ma Mb Mc Md Me Mf Mg Mh Mi Mj Mk Ml Mm Mn Mo Mp Mq Mr Ms Mt Mu Mv Mw Mx My Mz N0 N1 N2 N3 N4 N5 N6 N7 N8 N9 Na Nb Nc Nd Ne Nf Ng Nh Ni Nj Nk Nl Nm : Value} (htun : TunOK) (hshort : ShortOK) (hfine : FineOK) (hs : MS w0 g4 g5 K a n c oa oc la lb l w) (h10 : Bk w g10 23 #[.int .i64 p, .int .i64 q]) (h12 : Bk w g12 23 #[.int .i64 x, .int .i64 y]) (hxy : ev = 0 → x = -q ∧ y = -p) (hb : -1000 ≤ p ∧ p ≤ 1000 ∧ -1000 ≤ q ∧ q ≤ 1000) : Code.wp Try.prog mirest12 (QMI w0) ⟨#[u0, u1, u2, u3, (.pointer (some ⟨g4, 0, none⟩)), (.pointer (some ⟨g5, 0, none⟩)), u6, (.slice la l.length lc), (.slice lb l.length mc), u9, (.pointer (some ⟨g10, 0, none⟩)), (.int .i64 ev), (.pointer (some ⟨g12, 0, none⟩)), (.int .i64 ev), A4, A5, A6, A7, A8, A9, Aa, Ab, Ac, Ad, Ae, Af, Ag, Ah, Ai, Aj, Ak, Al, Am, An, Ao, Ap, Aq, Ar, As, At, Au, Av, Aw, Ax, Ay, Az, C0, C1, C2, C3, C4, C5, C6, C7, C8, C9, Ca, Cb, Cc, Cd, Ce, Cf, Cg, Ch, Ci, Cj, Ck, Cl, Cm, Cn, Co, Cp, Cq, Cr, Cs, Ct, Cu, Cv, Cw, Cx, Cy, Cz, D0, D1, D2, D3, D4, D5, D6, D7, D8, D9, Da, Db, Dc, Dd, De, Df, Dg, Dh, Di, Dj, Dk, Dl, Dm, Dn, Do, Dp, Dq, Dr, Ds, Dt, Du, Dv, Dw, Dx, Dy, Dz, E0, E1, E2, E3, E4, E5, E6, E7, E8, E9, Ea, Eb, Ec, Ed, Ee, Ef, Eg, Eh, Ei, Ej, Ek, El, Em, En, Eo, Ep, Eq, Er, Es, Et, Eu, Ev, Ew, Ex, Ey, Ez, F0, F1, F2, F3, F4, F5, F6, F7, F8, F9, Fa, Fb, Fc, Fd, Fe, Ff, Fg, Fh, Fi, Fj, Fk, Fl, Fm, Fn, Fo, Fp, Fq, Fr, Fs, Ft, Fu, Fv, Fw, Fx, Fy, Fz, L0, L1, L2, L3, L4, L5, L6, L7, L8, L9, La, Lb, Lc, Ld, Le, Lf, Lg, Lh, Li, Lj, Lk, Ll, Lm, Ln, Lo, Lp, Lq, Lr, Ls, Lt, Lu, Lv, Lw, Lx, Ly, Lz, M0, M1, M2, M3, M4, M5, M6, M7, M8, M9, Ma, Mb, Mc, Md, Me, Mf, Mg, Mh, Mi, Mj, Mk, Ml, Mm, Mn, Mo, Mp, Mq, Mr, Ms, Mt, Mu, Mv, Mw, Mx, My, Mz, N0, N1, N2, N3, N4, N5, N6, N7, N8, N9, Na, Nb, Nc, Nd, Ne, Nf, Ng, Nh, Ni, Nj, Nk, Nl, Nm], []⟩ w := by
  rw [mirest12_eq]
  have HT := hidMk htun
  have HSO := hidMk hshort
  have HFO := hidMk hfine
  clear htun hshort hfine
  by_cases he : ev = 0
  · obtain ⟨rfl, rfl⟩ := hxy he
    subst he
    have n1 : IntKind.i64.wrap (-p) = -p := IntWalk.i64_in _ (by omega)
    have n2 : IntKind.i64.wrap (-q) = -q := IntWalk.i64_in _ (by omega)
    clear hxy hb
    refine wp_seq_k fun K0 hKK => ?_
    refine wp_seq_k fun K1 hK1 => ?_
    refine region_via (R := fun a_ e a' w' => e = .normal ∧ ∃ (v131 v132 v133 v134 v135 v136 v137 v138 v139 v140 v141 v142 v143 v144 v145 v146 v147 : Value), a' = ((((((((((((((((((a_.put (some 131) v131).put (some 132) v132).put (some 133) v133).put (some 134) v134).put (some 135) v135).put (some 136) v136).put (some 137) v137).put (some 138) v138).put (some 139) v139).put (some 140) v140).put (some 141) v141).put (some 142) v142).put (some 143) v143).put (some 144) v144).put (some 145) v145).put (some 146) v146).put (some 147) v147).put (some 148) (.bool false)) ∧ MS w0 g4 g5 K a n c oa oc la lb l w') ?_ ?_
    rotate_left
    · rintro e a' w' ⟨rfl, v131, v132, v133, v134, v135, v136, v137, v138, v139, v140, v141, v142, v143, v144, v145, v146, v147, rfl, hs2⟩
      refine hK1 _ _ ?_
      simp only [Act.put, aT, aZ, aS]
      have HS := hidMk hs2
      clear hs2
      go_wp2_with fail
      exact mipart13 HT.out HSO.out HFO.out HS.out
    have hS : MS w0 g4 g5 K a n c oa oc la lb l w.drew ∧ Bk w.drew g10 23 #[.int .i64 p, .int .i64 q] ∧ Bk w.drew g12 23 #[.int .i64 (-q), .int .i64 (-p)] := ⟨hs.next (Below.refl _ _).drew, h10, h12⟩
    clear hs h10 h12
    refine wp_region_held_drew (S := fun w' => MS w0 g4 g5 K a n c oa oc la lb l w' ∧ Bk w' g10 23 #[.int .i64 p, .int .i64 q] ∧ Bk w' g12 23 #[.int .i64 (-q), .int .i64 (-p)]) (by kernel_rfl) hS (fun hS0 => ?_)
    generalize hWd : w.drew = wd at hS0 hS ⊢
    clear hWd
    refine wpAnyH_take (i := 0) (oi := ⟨some 131, .move (.tmp 11), 39, "outright.go:433", #[], none⟩) (v := ?_) rfl (by kernel_rfl) (by kernel_rfl) (by kernel_rfl) (fun _ _ _ h => by cases h.1) (.inl ⟨by rfl, ?_⟩) (by assumption) ?_
    rotate_left
    · (intro w' hSw; (try dsimp only at hSw); skip; go_simp <;> with_reducible rfl)
    (try simp only [Act.put, aT, aZ, aS])
    refine wpAnyH_take (i := 1) (oi := ⟨some 132, .move (.tmp 13), 39, "outright.go:433", #[], none⟩) (v := ?_) rfl (by kernel_rfl) (by kernel_rfl) (by kernel_rfl) (fun _ _ _ h => by cases h.1) (.inl ⟨by rfl, ?_⟩) (by assumption) ?_
    rotate_left
    · (intro w' hSw; (try dsimp only at hSw); skip; go_simp <;> with_reducible rfl)
    (try simp only [Act.put, aT, aZ, aS])
    refine wpAnyH_take (i := 2) (oi := ⟨some 133, .binOp .neq 39 (.tmp 131) (.tmp 132) 39, 4, "outright.go:433", #[⟨0, .data⟩, ⟨1, .data⟩], none⟩) (v := ?_) rfl (by kernel_rfl) (by kernel_rfl) (by kernel_rfl) (fun _ _ _ h => by cases h.1) (.inl ⟨by rfl, ?_⟩) (by assumption) ?_
    rotate_left
    · (intro w' hSw; (try dsimp only at hSw); skip; go_simp <;> with_reducible rfl)
    (try simp only [Act.put, aT, aZ, aS])
    refine wpAnyH_take (i := 3) (oi := ⟨some 134, .move (.tmp 133), 4, "outright.go:433", #[⟨2, .data⟩], none⟩) (v := ?_) rfl (by kernel_rfl) (by kernel_rfl) (by kernel_rfl) (fun _ _ _ h => by cases h.1) (.inl ⟨by rfl, ?_⟩) (by assumption) ?_
    rotate_left
    · (intro w' hSw; (try dsimp only at hSw); skip; go_simp <;> with_reducible rfl)
    (try simp only [Act.put, aT, aZ, aS])
    refine wpAnyH_take (i := 4) (oi := ⟨some 135, .move (.tmp 11), 39, "outright.go:433", #[⟨3, .guard⟩], some (3, false)⟩) (v := ?_) rfl (by kernel_rfl) (by kernel_rfl) (by kernel_rfl) (fun _ _ _ h => by cases h.1) (.inl ⟨by rfl, ?_⟩) (by assumption) ?_
    rotate_left
    · (intro w' hSw; (try dsimp only at hSw); skip; go_simp <;> with_reducible rfl)
    (try simp only [Act.put, aT, aZ, aS])
    refine wpAnyH_take (i := 5) (oi := ⟨some 136, .binOp .eql 39 (.tmp 135) (.const (.int .i64 0)) 39, 4, "outright.go:433", #[⟨4, .data⟩, ⟨3, .guard⟩], some (3, false)⟩) (v := ?_) rfl (by kernel_rfl) (by kernel_rfl) (by kernel_rfl) (fun _ _ _ h => by cases h.1) (.inl ⟨by rfl, ?_⟩) (by assumption) ?_
    rotate_left
    · (intro w' hSw; (try dsimp only at hSw); skip; go_simp <;> with_reducible rfl)
    (try simp only [Act.put, aT, aZ, aS])
    refine wpAnyH_take (i := 6) (oi := ⟨some 137, .move (.tmp 136), 4, "outright.go:433", #[⟨5, .data⟩, ⟨3, .chain⟩, ⟨3, .guard⟩], some (3, false)⟩) (v := ?_) rfl (by kernel_rfl) (by kernel_rfl) (by kernel_rfl) (fun _ _ _ h => by cases h.1) (.inl ⟨by rfl, ?_⟩) (by assumption) ?_
    rotate_left
    · (intro w' hSw; (try dsimp only at hSw); skip; go_simp <;> with_reducible rfl)
    (try simp only [Act.put, aT, aZ, aS])
    refine wpAnyH_take (i := 7) (oi := ⟨some 138, .load 23 (.tmp 12), 23, "outright.go:433", #[⟨6, .guard⟩], some (6, true)⟩) rfl (by kernel_rfl) (by kernel_rfl) (by kernel_rfl) (fun _ _ _ h => by cases h.1) (yields_row (by rfl) 23 _ rfl g12 #[.int .i64 (-q), .int .i64 (-p)] rfl 23 (fun w' hw => hw.2.2) Try.underlying23 szRange) (by assumption) ?_
    (try simp only [Act.put, aT, aZ, aS])
    refine wpAnyH_take (i := 8) (oi := ⟨some 139, .fieldAddr 23 (.tmp 10) 1, 0, "outright.go:433", #[⟨6, .guard⟩], some (6, true)⟩) (v := ?_) rfl (by kernel_rfl) (by kernel_rfl) (by kernel_rfl) (fun _ _ _ h => by cases h.1) (.inl ⟨by rfl, ?_⟩) (by assumption) ?_
    rotate_left
    · (intro w' hSw; (try dsimp only at hSw); skip; go_simp <;> with_reducible rfl)
    (try simp only [Act.put, aT, aZ, aS])
    refine wpAnyH_take (i := 9) (oi := ⟨some 140, .load 3 (.tmp 139), 3, "outright.go:433", #[⟨8, .data⟩, ⟨6, .guard⟩], some (6, true)⟩) (v := ?_) rfl (by kernel_rfl) (by kernel_rfl) (by kernel_rfl) (fun _ _ _ h => by cases h.1) (.inl ⟨by rfl, ?_⟩) (by assumption) ?_
    rotate_left
    · (intro w' hSw; (try dsimp only at hSw); have q_ := hSw.2.1.at_ 1 (.int .i64 q) rfl; go_simp <;> with_reducible rfl)
    (try simp only [Act.put, aT, aZ, aS])
    refine wpAnyH_take (i := 10) (oi := ⟨some 141, .unOp .neg 3 (.tmp 140), 3, "outright.go:433", #[⟨9, .data⟩, ⟨6, .guard⟩], some (6, true)⟩) (v := ?_) rfl (by kernel_rfl) (by kernel_rfl) (by kernel_rfl) (fun _ _ _ h => by cases h.1) (.inl ⟨by rfl, ?_⟩) (by assumption) ?_
    rotate_left
    · (intro w' hSw; (try dsimp only at hSw); skip; go_simp <;> with_reducible rfl)
    (try simp only [Act.put, aT, aZ, aS])
    refine wpAnyH_take (i := 11) (oi := ⟨some 142, .fieldAddr 23 (.tmp 10) 0, 0, "outright.go:433", #[⟨6, .guard⟩], some (6, true)⟩) (v := ?_) rfl (by kernel_rfl) (by kernel_rfl) (by kernel_rfl) (fun _ _ _ h => by cases h.1) (.inl ⟨by rfl, ?_⟩) (by assumption) ?_
    rotate_left
    · (intro w' hSw; (try dsimp only at hSw); skip; go_simp <;> with_reducible rfl)
    (try simp only [Act.put, aT, aZ, aS])
    refine wpAnyH_take (i := 12) (oi := ⟨some 143, .load 3 (.tmp 142), 3, "outright.go:433", #[⟨11, .data⟩, ⟨6, .guard⟩], some (6, true)⟩) (v := ?_) rfl (by kernel_rfl) (by kernel_rfl) (by kernel_rfl) (fun _ _ _ h => by cases h.1) (.inl ⟨by rfl, ?_⟩) (by assumption) ?_
    rotate_left
    · (intro w' hSw; (try dsimp only at hSw); have q_ := hSw.2.1.at_ 0 (.int .i64 p) rfl; go_simp <;> with_reducible rfl)
    (try simp only [Act.put, aT, aZ, aS])
    refine wpAnyH_take (i := 13) (oi := ⟨some 144, .unOp .neg 3 (.tmp 143), 3, "outright.go:433", #[⟨12, .data⟩, ⟨6, .guard⟩], some (6, true)⟩) (v := ?_) rfl (by kernel_rfl) (by kernel_rfl) (by kernel_rfl) (fun _ _ _ h => by cases h.1) (.inl ⟨by rfl, ?_⟩) (by assumption) ?_
    rotate_left
    · (intro w' hSw; (try dsimp only at hSw); skip; go_simp <;> with_reducible rfl)
    (try simp only [Act.put, aT, aZ, aS])
    refine wpAnyH_ready (rs := [14]) (by kernel_rfl) (by simp) ?_
    refine AllReadyH.cons (o := ⟨some 145, .call { callee := .value (.func 35), args := #[.tmp 141, .tmp 144], argTypes := #[3, 3] }, 23, "outright.go:433", #[⟨10, .data⟩, ⟨13, .data⟩, ⟨6, .chain⟩, ⟨6, .guard⟩], some (6, true)⟩) rfl (fun K hK => ?_) ?_
    · go_simp
      go_at_call 35
      refine (to_any _ _ _).mono ?_
      rintro e w5 ⟨rfl, hb5⟩
      have hS_ := And.intro (hS.1.next hb5) (And.intro (hS.2.1.below hb5 hS.2.1.lt) (hS.2.2.below hb5 hS.2.2.lt))
      clear hS hb5
      have hS := hS_
      clear hS_
      go_wp2_with fail
      refine hK.out _ _ hS (fun _ => ?_)
      clear hK K
      (try simp only [Act.put, aT, aZ, aS])
      refine wpAnyH_take (i := 15) (oi := ⟨some 146, .binOp .neq 23 (.tmp 138) (.tmp 145) 23, 4, "outright.go:433", #[⟨7, .data⟩, ⟨14, .data⟩, ⟨6, .guard⟩], some (6, true)⟩) (v := ?_) rfl (by kernel_rfl) (by kernel_rfl) (by kernel_rfl) (fun _ _ _ h => by cases h.1) (.inl ⟨by rfl, ?_⟩) (by assumption) ?_
      rotate_left
      · (intro w' hSw; (try dsimp only at hSw); have q_ := neqR (-q) (-p); go_simp <;> with_reducible rfl)
      (try simp only [Act.put, aT, aZ, aS])
      refine wpAnyH_take (i := 16) (oi := ⟨some 147, .pick (.tmp 137) (.tmp 146) (.const (.bool false)), 4, "outright.go:433", #[⟨6, .data⟩, ⟨15, .data⟩, ⟨3, .guard⟩], some (3, false)⟩) (v := ?_) rfl (by kernel_rfl) (by kernel_rfl) (by kernel_rfl) (fun _ _ _ h => by cases h.1) (.inl ⟨by rfl, ?_⟩) (by assumption) ?_
      rotate_left
      · (intro w' hSw; (try dsimp only at hSw); skip; go_simp <;> with_reducible rfl)
      (try simp only [Act.put, aT, aZ, aS])
      refine wpAnyH_take (i := 17) (oi := ⟨some 148, .pick (.tmp 134) (.const (.bool true)) (.tmp 147), 4, "outright.go:433", #[⟨3, .data⟩, ⟨16, .data⟩], none⟩) (v := ?_) rfl (by kernel_rfl) (by kernel_rfl) (by kernel_rfl) (fun _ _ _ h => by cases h.1) (.inl ⟨by rfl, ?_⟩) (by assumption) ?_
      rotate_left
      · (intro w' hSw; (try dsimp only at hSw); skip; go_simp <;> with_reducible rfl)
      (try simp only [Act.put, aT, aZ, aS])
      refine wpAnyH_done (by kernel_rfl) ?_ _
      exact ⟨rfl, _, _, _, _, _, _, _, _, _, _, _, _, _, _, _, _, _, rfl, hS.1⟩
    exact AllReadyH.nil
  · have eb : (ev == 0) = false := by simp [he]
    clear hxy hb he
    refine wp_seq_k fun K0 hKK => ?_
    refine wp_seq_k fun K1 hK1 => ?_
    refine region_via (R := fun a_ e a' w' => e = .normal ∧ ∃ (v131 v132 v133 v134 v135 v136 v137 v138 v139 v140 v141 v142 v143 v144 v145 v146 v147 : Value), a' = ((((((((((((((((((a_.put (some 131) v131).put (some 132) v132).put (some 133) v133).put (some 134) v134).put (some 135) v135).put (some 136) v136).put (some 137) v137).put (some 138) v138).put (some 139) v139).put (some 140) v140).put (some 141) v141).put (some 142) v142).put (some 143) v143).put (some 144) v144).put (some 145) v145).put (some 146) v146).put (some 147) v147).put (some 148) (.bool false)) ∧ MS w0 g4 g5 K a n c oa oc la lb l w') ?_ ?_
    rotate_left
    · rintro e a' w' ⟨rfl, v131, v132, v133, v134, v135, v136, v137, v138, v139, v140, v141, v142, v143, v144, v145, v146, v147, rfl, hs2⟩
      refine hK1 _ _ ?_
      simp only [Act.put, aT, aZ, aS]
      have HS := hidMk hs2
      clear hs2
      go_wp2_with fail
      exact mipart13 HT.out HSO.out HFO.out HS.out
    have hS : MS w0 g4 g5 K a n c oa oc la lb l w.drew ∧ Bk w.drew g10 23 #[.int .i64 p, .int .i64 q] ∧ Bk w.drew g12 23 #[.int .i64 x, .int .i64 y] := ⟨hs.next (Below.refl _ _).drew, h10, h12⟩
    clear hs h10 h12
    refine wp_region_held_drew (S := fun w' => MS w0 g4 g5 K a n c oa oc la lb l w' ∧ Bk w' g10 23 #[.int .i64 p, .int .i64 q] ∧ Bk w' g12 23 #[.int .i64 x, .int .i64 y]) (by kernel_rfl) hS (fun hS0 => ?_)
    generalize hWd : w.drew = wd at hS0 hS ⊢
    clear hWd
    refine wpAnyH_take (i := 0) (oi := ⟨some 131, .move (.tmp 11), 39, "outright.go:433", #[], none⟩) (v := ?_) rfl (by kernel_rfl) (by kernel_rfl) (by kernel_rfl) (fun _ _ _ h => by cases h.1) (.inl ⟨by rfl, ?_⟩) (by assumption) ?_
    rotate_left
    · (intro w' hSw; (try dsimp only at hSw); skip; go_simp <;> with_reducible rfl)
    (try simp only [Act.put, aT, aZ, aS])
    refine wpAnyH_take (i := 1) (oi := ⟨some 132, .move (.tmp 13), 39, "outright.go:433", #[], none⟩) (v := ?_) rfl (by kernel_rfl) (by kernel_rfl) (by kernel_rfl) (fun _ _ _ h => by cases h.1) (.inl ⟨by rfl, ?_⟩) (by assumption) ?_
    rotate_left
    · (intro w' hSw; (try dsimp only at hSw); skip; go_simp <;> with_reducible rfl)
    (try simp only [Act.put, aT, aZ, aS])
    refine wpAnyH_take (i := 2) (oi := ⟨some 133, .binOp .neq 39 (.tmp 131) (.tmp 132) 39, 4, "outright.go:433", #[⟨0, .data⟩, ⟨1, .data⟩], none⟩) (v := ?_) rfl (by kernel_rfl) (by kernel_rfl) (by kernel_rfl) (fun _ _ _ h => by cases h.1) (.inl ⟨by rfl, ?_⟩) (by assumption) ?_
    rotate_left
    · (intro w' hSw; (try dsimp only at hSw); have hb_ : (ev != ev) = false := (by simp); go_simp <;> with_reducible rfl)
    (try simp only [Act.put, aT, aZ, aS])
    refine wpAnyH_take (i := 3) (oi := ⟨some 134, .move (.tmp 133), 4, "outright.go:433", #[⟨2, .data⟩], none⟩) (v := ?_) rfl (by kernel_rfl) (by kernel_rfl) (by kernel_rfl) (fun _ _ _ h => by cases h.1) (.inl ⟨by rfl, ?_⟩) (by assumption) ?_
    rotate_left
    · (intro w' hSw; (try dsimp only at hSw); skip; go_simp <;> with_reducible rfl)
    (try simp only [Act.put, aT, aZ, aS])
    refine wpAnyH_take (i := 4) (oi := ⟨some 135, .move (.tmp 11), 39, "outright.go:433", #[⟨3, .guard⟩], some (3, false)⟩) (v := ?_) rfl (by kernel_rfl) (by kernel_rfl) (by kernel_rfl) (fun _ _ _ h => by cases h.1) (.inl ⟨by rfl, ?_⟩) (by assumption) ?_
    rotate_left
    · (intro w' hSw; (try dsimp only at hSw); skip; go_simp <;> with_reducible rfl)
    (try simp only [Act.put, aT, aZ, aS])
    refine wpAnyH_take (i := 5) (oi := ⟨some 136, .binOp .eql 39 (.tmp 135) (.const (.int .i64 0)) 39, 4, "outright.go:433", #[⟨4, .data⟩, ⟨3, .guard⟩], some (3, false)⟩) (v := ?_) rfl (by kernel_rfl) (by kernel_rfl) (by kernel_rfl) (fun _ _ _ h => by cases h.1) (.inl ⟨by rfl, ?_⟩) (by assumption) ?_
    rotate_left
    · (intro w' hSw; (try dsimp only at hSw); skip; go_simp <;> with_reducible rfl)
    (try simp only [Act.put, aT, aZ, aS])
    refine wpAnyH_take (i := 6) (oi := ⟨some 137, .move (.tmp 136), 4, "outright.go:433", #[⟨5, .data⟩, ⟨3, .chain⟩, ⟨3, .guard⟩], some (3, false)⟩) (v := ?_) rfl (by kernel_rfl) (by kernel_rfl) (by kernel_rfl) (fun _ _ _ h => by cases h.1) (.inl ⟨by rfl, ?_⟩) (by assumption) ?_
    rotate_left
    · (intro w' hSw; (try dsimp only at hSw); skip; go_simp <;> with_reducible rfl)
    (try simp only [Act.put, aT, aZ, aS])
    refine wpAnyH_take (i := 7) (oi := ⟨some 138, .load 23 (.tmp 12), 23, "outright.go:433", #[⟨6, .guard⟩], some (6, true)⟩) (v := undef) rfl (by kernel_rfl) (by kernel_rfl) (by kernel_rfl) (fun _ _ _ h => by cases h.1) (.inr ⟨by rfl, rfl⟩) (by assumption) ?_
    (try simp only [Act.put, aT, aZ, aS])
    refine wpAnyH_take (i := 8) (oi := ⟨some 139, .fieldAddr 23 (.tmp 10) 1, 0, "outright.go:433", #[⟨6, .guard⟩], some (6, true)⟩) (v := undef) rfl (by kernel_rfl) (by kernel_rfl) (by kernel_rfl) (fun _ _ _ h => by cases h.1) (.inr ⟨by rfl, rfl⟩) (by assumption) ?_
    (try simp only [Act.put, aT, aZ, aS])
    refine wpAnyH_take (i := 9) (oi := ⟨some 140, .load 3 (.tmp 139), 3, "outright.go:433", #[⟨8, .data⟩, ⟨6, .guard⟩], some (6, true)⟩) (v := undef) rfl (by kernel_rfl) (by kernel_rfl) (by kernel_rfl) (fun _ _ _ h => by cases h.1) (.inr ⟨by rfl, rfl⟩) (by assumption) ?_
    (try simp only [Act.put, aT, aZ, aS])
    refine wpAnyH_take (i := 10) (oi := ⟨some 141, .unOp .neg 3 (.tmp 140), 3, "outright.go:433", #[⟨9, .data⟩, ⟨6, .guard⟩], some (6, true)⟩) (v := undef) rfl (by kernel_rfl) (by kernel_rfl) (by kernel_rfl) (fun _ _ _ h => by cases h.1) (.inr ⟨by rfl, rfl⟩) (by assumption) ?_
    (try simp only [Act.put, aT, aZ, aS])
    refine wpAnyH_take (i := 11) (oi := ⟨some 142, .fieldAddr 23 (.tmp 10) 0, 0, "outright.go:433", #[⟨6, .guard⟩], some (6, true)⟩) (v := undef) rfl (by kernel_rfl) (by kernel_rfl) (by kernel_rfl) (fun _ _ _ h => by cases h.1) (.inr ⟨by rfl, rfl⟩) (by assumption) ?_
    (try simp only [Act.put, aT, aZ, aS])
    refine wpAnyH_take (i := 12) (oi := ⟨some 143, .load 3 (.tmp 142), 3, "outright.go:433", #[⟨11, .data⟩, ⟨6, .guard⟩], some (6, true)⟩) (v := undef) rfl (by kernel_rfl) (by kernel_rfl) (by kernel_rfl) (fun _ _ _ h => by cases h.1) (.inr ⟨by rfl, rfl⟩) (by assumption) ?_
    (try simp only [Act.put, aT, aZ, aS])
    refine wpAnyH_take (i := 13) (oi := ⟨some 144, .unOp .neg 3 (.tmp 143), 3, "outright.go:433", #[⟨12, .data⟩, ⟨6, .guard⟩], some (6, true)⟩) (v := undef) rfl (by kernel_rfl) (by kernel_rfl) (by kernel_rfl) (fun _ _ _ h => by cases h.1) (.inr ⟨by rfl, rfl⟩) (by assumption) ?_
    (try simp only [Act.put, aT, aZ, aS])
    refine wpAnyH_take (i := 14) (oi := ⟨some 145, .call { callee := .value (.func 35), args := #[.tmp 141, .tmp 144], argTypes := #[3, 3] }, 23, "outright.go:433", #[⟨10, .data⟩, ⟨13, .data⟩, ⟨6, .chain⟩, ⟨6, .guard⟩], some (6, true)⟩) (v := undef) rfl (by kernel_rfl) (by kernel_rfl) (by kernel_rfl) (fun _ _ _ h => by cases h.1) (.inr ⟨by rfl, rfl⟩) (by assumption) ?_
    (try simp only [Act.put, aT, aZ, aS])
    refine wpAnyH_take (i := 15) (oi := ⟨some 146, .binOp .neq 23 (.tmp 138) (.tmp 145) 23, 4, "outright.go:433", #[⟨7, .data⟩, ⟨14, .data⟩, ⟨6, .guard⟩], some (6, true)⟩) (v := undef) rfl (by kernel_rfl) (by kernel_rfl) (by kernel_rfl) (fun _ _ _ h => by cases h.1) (.inr ⟨by rfl, rfl⟩) (by assumption) ?_
    (try simp only [Act.put, aT, aZ, aS])
    refine wpAnyH_take (i := 16) (oi := ⟨some 147, .pick (.tmp 137) (.tmp 146) (.const (.bool false)), 4, "outright.go:433", #[⟨6, .data⟩, ⟨15, .data⟩, ⟨3, .guard⟩], some (3, false)⟩) (v := ?_) rfl (by kernel_rfl) (by kernel_rfl) (by kernel_rfl) (fun _ _ _ h => by cases h.1) (.inl ⟨by rfl, ?_⟩) (by assumption) ?_
    rotate_left
    · (intro w' hSw; (try dsimp only at hSw); skip; go_simp <;> with_reducible rfl)
    (try simp only [Act.put, aT, aZ, aS])
    refine wpAnyH_take (i := 17) (oi := ⟨some 148, .pick (.tmp 134) (.const (.bool true)) (.tmp 147), 4, "outright.go:433", #[⟨3, .data⟩, ⟨16, .data⟩], none⟩) (v := ?_) rfl (by kernel_rfl) (by kernel_rfl) (by kernel_rfl) (fun _ _ _ h => by cases h.1) (.inl ⟨by rfl, ?_⟩) (by assumption) ?_
    rotate_left
    · (intro w' hSw; (try dsimp only at hSw); skip; go_simp <;> with_reducible rfl)
    (try simp only [Act.put, aT, aZ, aS])
    refine wpAnyH_done (by kernel_rfl) ?_ _
    exact ⟨rfl, _, _, _, _, _, _, _, _, _, _, _, _, _, _, _, _, _, rfl, hS.1⟩
set_option maxHeartbeats 4000000 in
set_option maxRecDepth 1000000 in
theorem mipart11 {w0 w : World} {g4 g5 : Nat} {K : Jb} {a oa la lb : Option Addr} {n c oc lc mc : Nat} {l : List Int} {g10 : Nat} {ev p q : Int} {u0 u1 u2 u3 u6 u9 A2 A3 A4 A5 A6 A7 A8 A9 Aa Ab Ac Ad Ae Af Ag Ah Ai Aj Ak Al Am An Ao Ap Aq Ar As At Au Av Aw Ax Ay Az C0 C1 C2 C3 C4 C5 C6 C7 C8 C9 Ca Cb Cc Cd Ce Cf Cg Ch Ci Cj Ck Cl Cm Cn Co Cp Cq Cr Cs Ct Cu Cv Cw Cx Cy Cz D0 D1 D2 D3 D4 D5 D6 D7 D8 D9 Da Db Dc Dd De Df Dg Dh Di Dj Dk Dl Dm Dn Do Dp Dq Dr Ds Dt Du Dv Dw Dx Dy Dz E0 E1 E2 E3 E4 E5 E6 E7 E8 E9 Ea Eb Ec Ed Ee Ef Eg Eh Ei Ej Ek El Em En Eo Ep Eq Er Es Et Eu Ev Ew Ex Ey Ez F0 F1 F2 F3 F4 F5 F6 F7 F8 F9 Fa Fb Fc Fd Fe Ff Fg Fh Fi Fj Fk Fl Fm Fn Fo Fp Fq Fr Fs Ft Fu Fv Fw Fx Fy Fz L0 L1 L2 L3 L4 L5 L6 L7 L8 L9 La Lb Lc Ld Le Lf Lg Lh Li Lj Lk Ll Lm Ln Lo Lp Lq Lr Ls Lt Lu Lv Lw Lx Ly Lz M0 M1 M2 M3 M4 M5 M6 M7 M8 M9 Ma Mb Mc Md Me Mf Mg Mh Mi Mj Mk Ml Mm Mn Mo Mp Mq Mr Ms Mt Mu Mv Mw Mx My Mz N0 N1 N2 N3 N4 N5 N6 N7 N8 N9 Na Nb Nc Nd Ne Nf Ng Nh Ni Nj Nk Nl Nm : Value} (htun : TunOK) (hshort : ShortOK) (hfine : FineOK) (hs : MS w0 g4 g5 K a n c oa oc la lb l w) (h10 : Bk w g10 23 #[.int .i64 p, .int .i64 q]) (hw : p = (windowI K).1.1 ∧ q = (windowI K).1.2 ∧ ev = (windowI K).2) : Code.wp Try.prog mirest11 (QMI w0) ⟨#[u0, u1, u2, u3, (.pointer (some ⟨g4, 0, none⟩)), (.pointer (some ⟨g5, 0, none⟩)), u6, (.slice la l.length lc), (.slice lb l.length mc), u9, (.pointer (some ⟨g10, 0, none⟩)), (.int .i64 ev), A2, A3, A4, A5, A6, A7, A8, A9, Aa, Ab, Ac, Ad, Ae, Af, Ag, Ah, Ai, Aj, Ak, Al, Am, An, Ao, Ap, Aq, Ar, As, At, Au, Av, Aw, Ax, Ay, Az, C0, C1, C2, C3, C4, C5, C6, C7, C8, C9, Ca, Cb, Cc, Cd, Ce, Cf, Cg, Ch, Ci, Cj, Ck, Cl, Cm, Cn, Co, Cp, Cq, Cr, Cs, Ct, Cu, Cv, Cw, Cx, Cy, Cz, D0, D1, D2, D3, D4, D5, D6, D7, D8, D9, Da, Db, Dc, Dd, De, Df, Dg, Dh, Di, Dj, Dk, Dl, Dm, Dn, Do, Dp, Dq, Dr, Ds, Dt, Du, Dv, Dw, Dx, Dy, Dz, E0, E1, E2, E3, E4, E5, E6, E7, E8, E9, Ea, Eb, Ec, Ed, Ee, Ef, Eg, Eh, Ei, Ej, Ek, El, Em, En, Eo, Ep, Eq, Er, Es, Et, Eu, Ev, Ew, Ex, Ey, Ez, F0, F1, F2, F3, F4, F5, F6, F7, F8, F9, Fa, Fb, Fc, Fd, Fe, Ff, Fg, Fh, Fi, Fj, Fk, Fl, Fm, Fn, Fo, Fp, Fq, Fr, Fs, Ft, Fu, Fv, Fw, Fx, Fy, Fz, L0, L1, L2, L3, L4, L5, L6, L7, L8, L9, La, Lb, Lc, Ld, Le, Lf, Lg, Lh, Li, Lj, Lk, Ll, Lm, Ln, Lo, Lp, Lq, Lr, Ls, Lt, Lu, Lv, Lw, Lx, Ly, Lz, M0, M1, M2, M3, M4, M5, M6, M7, M8, M9, Ma, Mb, Mc, Md, Me, Mf, Mg, Mh, Mi, Mj, Mk, Ml, Mm, Mn, Mo, Mp, Mq, Mr, Ms, Mt, Mu, Mv, Mw, Mx, My, Mz, N0, N1, N2, N3, N4, N5, N6, N7, N8, N9, Na, Nb, Nc, Nd, Ne, Nf, Ng, Nh, Ni, Nj, Nk, Nl, Nm], []⟩ w := by
  rw [mirest11_eq]
  have HS := hidMk hs
  have HT := hidMk htun
  have HSO := hidMk hshort
  clear hs htun hshort
  have hnm := HS.out.nm
  have HFO := hidMk hfine
  clear hfine
  have H10 := hidMk h10
  have HW := hidMk hw
  clear h10 hw
  go_wp2_with (refine wpList_load_row rfl 30 _ rfl g5 rfl _ (jobC (mirJ K) (.slice oa n oc)) _ _ HS.out.j5 Try.underlying30 rfl szJob ?_)
  refine (window_any (mirJ K) oa n oc _ HS.out.hn5 hnm HS.out.r5).mono ?_
  rintro e w2 ⟨he, hb2⟩
  obtain ⟨x, y, hxy⟩ : ∃ x y, (windowI (mirJ K)).1 = (x, y) := ⟨_, _, rfl⟩
  have hm := window_mir HS.out.ck
  have hwi := window_in HS.out.ck
  obtain ⟨ep, eq, ee⟩ := HW.out
  have ev2 : (windowI (mirJ K)).2 = ev := by rw [hm, ee]; split <;> simp_all
  have hx : ev = 0 → x = -q ∧ y = -p := by
    intro h0
    rw [hm, if_pos (by rw [← ee]; exact h0)] at hxy
    simp only [negR, Prod.mk.injEq] at hxy
    rw [ep, eq]
    exact ⟨hxy.1.symm, hxy.2.symm⟩
  rw [hxy, ev2] at he
  simp only at he
  subst he
  have HX := hidMk hx
  have HPQ : Hid (-1000 ≤ p ∧ p ≤ 1000 ∧ -1000 ≤ q ∧ q ≤ 1000) := hidMk (by rw [ep, eq]; exact hwi)
  have HS2 := hidMk (HS.out.next hb2)
  have k10 := H10.out.below hb2 H10.out.lt
  clear hb2 hxy hm hwi ep eq ee ev2 hx
  go_wp2_with fail
  have q_ : Below w2.heap.size w2 (w2.alloc (.cells #[.int .i64 x, .int .i64 y] 23)) := (Below.refl _ _).alloc (Nat.le_refl _) _
  exact mipart12 HT.out HSO.out HFO.out (HS2.out.next q_) (k10.below q_ k10.lt) (Bk.new _ _ _) HX.out HPQ.out
set_option maxHeartbeats 4000000 in
set_option maxRecDepth 1000000 in
theorem mipart10 {w0 w : World} {g4 g5 : Nat} {K : Jb} {a oa la lb : Option Addr} {n c oc lc mc : Nat} {l : List Int} {u0 u1 u2 u3 u6 u9 A0 A1 A2 A3 A4 A5 A6 A7 A8 A9 Aa Ab Ac Ad Ae Af Ag Ah Ai Aj Ak Al Am An Ao Ap Aq Ar As At Au Av Aw Ax Ay Az C0 C1 C2 C3 C4 C5 C6 C7 C8 C9 Ca Cb Cc Cd Ce Cf Cg Ch Ci Cj Ck Cl Cm Cn Co Cp Cq Cr Cs Ct Cu Cv Cw Cx Cy Cz D0 D1 D2 D3 D4 D5 D6 D7 D8 D9 Da Db Dc Dd De Df Dg Dh Di Dj Dk Dl Dm Dn Do Dp Dq Dr Ds Dt Du Dv Dw Dx Dy Dz E0 E1 E2 E3 E4 E5 E6 E7 E8 E9 Ea Eb Ec Ed Ee Ef Eg Eh Ei Ej Ek El Em En Eo Ep Eq Er Es Et Eu Ev Ew Ex Ey Ez F0 F1 F2 F3 F4 F5 F6 F7 F8 F9 Fa Fb Fc Fd Fe Ff Fg Fh Fi Fj Fk Fl Fm Fn Fo Fp Fq Fr Fs Ft Fu Fv Fw Fx Fy Fz L0 L1 L2 L3 L4 L5 L6 L7 L8 L9 La Lb Lc Ld Le Lf Lg Lh Li Lj Lk Ll Lm Ln Lo Lp Lq Lr Ls Lt Lu Lv Lw Lx Ly Lz M0 M1 M2 M3 M4 M5 M6 M7 M8 M9 Ma Mb Mc Md Me Mf Mg Mh Mi Mj Mk Ml Mm Mn Mo Mp Mq Mr Ms Mt Mu Mv Mw Mx My Mz N0 N1 N2 N3 N4 N5 N6 N7 N8 N9 Na Nb Nc Nd Ne Nf Ng Nh Ni Nj Nk Nl Nm : Value} (htun : TunOK) (hshort : ShortOK) (hfine : FineOK) (hs : MS w0 g4 g5 K a n c oa oc la lb l w) : Code.wp Try.prog mirest10 (QMI w0) ⟨#[u0, u1, u2, u3, (.pointer (some ⟨g4, 0, none⟩)), (.pointer (some ⟨g5, 0, none⟩)), u6, (.slice la l.length lc), (.slice lb l.length mc), u9, A0, A1, A2, A3, A4, A5, A6, A7, A8, A9, Aa, Ab, Ac, Ad, Ae, Af, Ag, Ah, Ai, Aj, Ak, Al, Am, An, Ao, Ap, Aq, Ar, As, At, Au, Av, Aw, Ax, Ay, Az, C0, C1, C2, C3, C4, C5, C6, C7, C8, C9, Ca, Cb, Cc, Cd, Ce, Cf, Cg, Ch, Ci, Cj, Ck, Cl, Cm, Cn, Co, Cp, Cq, Cr, Cs, Ct, Cu, Cv, Cw, Cx, Cy, Cz, D0, D1, D2, D3, D4, D5, D6, D7, D8, D9, Da, Db, Dc, Dd, De, Df, Dg, Dh, Di, Dj, Dk, Dl, Dm, Dn, Do, Dp, Dq, Dr, Ds, Dt, Du, Dv, Dw, Dx, Dy, Dz, E0, E1, E2, E3, E4, E5, E6, E7, E8, E9, Ea, Eb, Ec, Ed, Ee, Ef, Eg, Eh, Ei, Ej, Ek, El, Em, En, Eo, Ep, Eq, Er, Es, Et, Eu, Ev, Ew, Ex, Ey, Ez, F0, F1, F2, F3, F4, F5, F6, F7, F8, F9, Fa, Fb, Fc, Fd, Fe, Ff, Fg, Fh, Fi, Fj, Fk, Fl, Fm, Fn, Fo, Fp, Fq, Fr, Fs, Ft, Fu, Fv, Fw, Fx, Fy, Fz, L0, L1, L2, L3, L4, L5, L6, L7, L8, L9, La, Lb, Lc, Ld, Le, Lf, Lg, Lh, Li, Lj, Lk, Ll, Lm, Ln, Lo, Lp, Lq, Lr, Ls, Lt, Lu, Lv, Lw, Lx, Ly, Lz, M0, M1, M2, M3, M4, M5, M6, M7, M8, M9, Ma, Mb, Mc, Md, Me, Mf, Mg, Mh, Mi, Mj, Mk, Ml, Mm, Mn, Mo, Mp, Mq, Mr, Ms, Mt, Mu, Mv, Mw, Mx, My, Mz, N0, N1, N2, N3, N4, N5, N6, N7, N8, N9, Na, Nb, Nc, Nd, Ne, Nf, Ng, Nh, Ni, Nj, Nk, Nl, Nm], []⟩ w := by
  rw [mirest10_eq]
  have HS := hidMk hs
  have HT := hidMk htun
  have HSO := hidMk hshort
  clear hs htun hshort
  have hnm := HS.out.nm
  have HFO := hidMk hfine
  clear hfine
  go_wp2_with (refine wpList_load_row rfl 30 _ rfl g4 rfl _ (jobC K (.slice a n c)) _ _ HS.out.j4 Try.underlying30 rfl szJob ?_)
  refine (window_any K a n c _ HS.out.hn hnm HS.out.r4).mono ?_
  rintro e w2 ⟨he, hb2⟩
  obtain ⟨p, hp⟩ : ∃ p, p = (windowI K).1.1 := ⟨_, rfl⟩
  obtain ⟨q, hq⟩ : ∃ q, q = (windowI K).1.2 := ⟨_, rfl⟩
  obtain ⟨ev, hev⟩ : ∃ ev, ev = (windowI K).2 := ⟨_, rfl⟩
  rw [← hp, ← hq, ← hev] at he
  subst he
  have HW := hidMk (And.intro hp (And.intro hq hev))
  have HS2 := hidMk (HS.out.next hb2)
  clear hb2 hp hq hev
  go_wp2_with fail
  have q_ : Below w2.heap.size w2 (w2.alloc (.cells #[.int .i64 p, .int .i64 q] 23)) := (Below.refl _ _).alloc (Nat.le_refl _) _
  exact mipart11 HT.out HSO.out HFO.out (HS2.out.next q_) (Bk.new _ _ _) HW.out
end Go.Proofs.Ytbebofmpimfbgaa
/- Contract of StrokesOf. -/
namespace Go.Proofs.Ytbebofmpimfbgaa
set_option linter.all false
open Go.RowKit
theorem PB.grown {b : Nat} {w w' : World} (h : PB b w.heap.size w w') : w.grownBy w' (some b) := ⟨h.os, h.tape, h.output, h.size, fun k hk hb => h.heap k hk (fun e => hb (by rw [e]))⟩
theorem PB.grownTo {b B : Nat} {w w' w'' : World} {row : Option Nat} (h : PB b B w w') (hg : w'.grownBy w'' row) (hB : B ≤ w'.heap.size) (hr : ∀ g, row = some g → B ≤ g) : PB b B w w'' :=
  ⟨hg.os.trans h.os, hg.tape.trans h.tape, hg.output.trans h.output, Nat.le_trans h.size hg.size, fun k hk hb => (hg.block k (Nat.lt_of_lt_of_le hk hB) (fun e => by have := hr k e.symm; omega)).trans (h.heap k hk hb)⟩
theorem own_pb {b base e size n : Nat} {w w' : World} {v : Value} {xs : List Value} (h : w.ownsRow base e size v n xs) (hb : b < base) (hk : PB b w.heap.size w w') : w'.ownsRow base e size v n xs :=
  h.kept hk.grown (by
    cases hv : v.ownBlock with
    | none => exact .inl rfl
    | some g => exact .inr fun e => by have := (h.lt g hv).1; cases e; omega)
theorem infoInt : (Try.prog.info? 3).map (fun i => (i.zero, i.size, i.bytes)) = some (some (.int .i64 0), 1, 8) := by kernel_rfl
theorem news_one {W : World} {g : Nat} {t : TypeId} {x : Value} (h : Bk W g t #[x]) : ∀ j u, [x][j]? = some u → W.cell? ((⟨g, 0, none⟩ : Addr).add j) = some u := by
  intro j u hj
  have : (⟨g, 0, none⟩ : Addr).add j = ⟨g, j, none⟩ := by unfold Addr.add; split <;> simp_all
  rw [this]
  exact h.at_ j u (by simpa using hj)
theorem Is.of_own {w : World} {B e n : Nat} {v : Value} {l : List Int} (h : w.ownsRow B e 1 v n (l.map (Value.int .i64))) : ∃ a c, v = .slice a n c ∧ n = l.length ∧ Is w w.heap.size a l := by
  have hl := h.1
  simp only [List.length_map] at hl
  rcases h.2 with ⟨rfl, rfl⟩ | ⟨g, cap, cur, rfl, hb, hg, hnc, hcm, hcs, htk⟩
  · have e : l = [] := List.length_eq_zero_iff.1 (by omega)
    subst e
    exact ⟨none, 0, rfl, rfl, Is.nil _ _ _⟩
  · refine ⟨some ⟨g, 0, none⟩, cap, rfl, by omega, fun k x hk => ⟨g, 0, rfl, (Array.getElem?_eq_some_iff.1 hg).1, ?_⟩⟩
    have hkl := (List.getElem?_eq_some_iff.1 hk).1
    rw [cell_of_row w g (0 + k) cur e (0, 0) hg, Nat.zero_add, ← Array.getElem?_toList]
    have h1 : (cur.toList.take (n * 1))[k]? = some (.int .i64 x) := by rw [htk]; simp [hk]
    rw [List.getElem?_take_of_lt (by omega)] at h1
    exact h1
set_option maxHeartbeats 2000000 in
set_option maxRecDepth 100000 in
theorem strokesN_any (M : Int) (hM : 0 ≤ M ∧ M ≤ 6) (b : Nat) (w : World) (hp : Pt w b) :
    Calls Try.prog 26 #[.pointer (some ⟨b, 0, none⟩), .int .i64 M] w fun e w' => ∃ (a : Option Addr) (n c : Nat) (l : List Int), e = .returned (.slice a n c) ∧ n = l.length ∧ (n : Int) ≤ M ∧ (∀ x ∈ l, x = 1 ∨ x = 2) ∧ Is w' w'.heap.size a l ∧ PB b w.heap.size w w' ∧ Pt w' b := by
  have hlt := hp.lt
  obtain ⟨i0, hi, hz0, hz1, hz2⟩ := info_parts infoInt
  have Hi : Hid (Try.prog.info? 3 = some i0) := hi
  have Hz0 : Hid (i0.zero = some (.int .i64 0)) := hz0
  have Hz1 : Hid (i0.size = 1) := hz1
  have Hz2 : Hid (i0.bytes = 8) := hz2
  clear hi hz0 hz1 hz2
  go_enter Try.func26, Try.ntmps26
  go_wp2_with fail
  refine (uptoP b M _ hp (by omega)).mono ?_
  rintro e w1 ⟨m, rfl, ⟨hm1, hm2⟩, hk1, hp1⟩
  go_wp2_with fail
  have hz1 := hk1.size
  have hlt1 := hp1.lt
  go_loopw [5, 6] (fun v i wr => ∃ (k : Nat) (j : Int) (l : List Int), (j + k = m ∧ 0 ≤ j) ∧ i = .int .i64 j ∧ l.length = k ∧ (∀ x ∈ l, x = 1 ∨ x = 2) ∧ wr.ownsRow w1.heap.size 3 1 v k (l.map (Value.int .i64)) ∧ PB b w.heap.size w wr ∧ Pt wr b ∧ w1.heap.size ≤ wr.heap.size) (fun _ i _ => (intOf i).toNat)
  case atStart => exact ⟨0, m, [], ⟨by omega, hm1⟩, rfl, rfl, by simp, World.ownsRow_nil _ _ _ _, hk1, hp1, Nat.le_refl _⟩
  case round =>
    obtain ⟨k, j, l, ⟨hj1, hj2⟩, rfl, hlk, hl12, own, hPB, hpr, hzr⟩ := hrel
    have hltr := hpr.lt
    by_cases hlt : 0 < j
    · have Ho := hidMk own
      have Hl := hidMk hl12
      have Hlk := hidMk hlk
      clear own hl12 hlk
      go_wp2_with (first
        | (go_at_call 24; refine (of2P b wr.heap.size 1 2 _ _ (hpr.alloc _) (by omega) (Bk.new _ _ _)).mono ?_; rintro e w2 ⟨x, rfl, hx, hk2, hp2⟩; have hz2 := hk2.size; simp only [World.size_alloc] at hz2; have O2 := hidMk (own_pb (Ho.out.alloc _) (by omega) hk2); have K2 := hidMk ((hPB.alloc (by omega) _).trans hk2 (by simp; omega)))
        | (at_builtin; refine wpList_append_own_at _ rfl (.tmp 14) (.tmp 18) 31 rfl w1.heap.size 3 i0 (.int .i64 0) 1 8 Try.underlying31 Hi.out Hz0.out Hz1.out Hz2.out rfl (by decide) _ k _ rfl (O2.out.alloc _) ⟨w2.heap.size, 0, none⟩ 1 1 [.int .i64 x] rfl rfl (news_one (Bk.new _ _ _)) (by simp [Value.oneCell']) (by unfold maxLen; omega) (by omega) (by simp; omega) ?_; intro v' w3 own' hg _ at_; have hz3 := hg.size; simp only [World.size_alloc] at hz3; have O3 := hidMk own'; clear own'; have hr : ∀ g, Value.ownBlock _ = some g → w1.heap.size ≤ g := (fun g e => (O2.out.lt g e).1)))
      go_roundw
      case rel =>
        refine ⟨k + 1, j - 1, l ++ [x], ⟨by omega, by omega⟩, by go_num, by rw [List.length_append]; simp [Hlk.out], ?_, ?_, ?_, ?_, ?_⟩
        · intro y hy
          rcases List.mem_append.1 hy with hy | hy
          · exact Hl.out y hy
          · rw [List.mem_singleton.1 hy]; exact hx
        · rw [List.map_append]
          exact O3.out
        · exact (K2.out.alloc (by omega) _).grownTo hg (by simp; omega) (fun g e => by have := hr g e; omega)
        · exact (hp2.alloc _).grown hg (fun e => by have := hr b e.symm; omega)
        · omega
      case measure => simp [intOf]; omega
    · obtain rfl : j = 0 := by omega
      obtain ⟨a, c, rfl, hn, his⟩ := Is.of_own own
      clear own
      go_wp2_with fail
      go_ret
      exact ⟨a, k, c, l, rfl, hn, by omega, hl12, his, hPB, hpr⟩
end Go.Proofs.Ytbebofmpimfbgaa
/- The law ReedMirrored: the strokes. -/
namespace Go.Proofs.Ytbebofmpimfbgaa
set_option linter.all false
open Go.RowKit
theorem below_grownTo {B : Nat} {w0 w w' : World} {row : Option Nat} (h : Below B w0 w) (hg : w.grownBy w' row) (hB : B ≤ w.heap.size) (hr : ∀ g, row = some g → B ≤ g) : Below B w0 w' :=
  h.trans ⟨hg.os, hg.tape, hg.output, hg.size, fun i hi => hg.block i (Nat.lt_of_lt_of_le hi hB) (fun e => by have := hr i e.symm; omega)⟩
theorem own_below {w w' : World} {B e size n : Nat} {v : Value} {xs : List Value} (h : w.ownsRow B e size v n xs) (hb : Below w.heap.size w w') : w'.ownsRow B e size v n xs :=
  h.kept (grown_of_below hb none) (by
    cases hv : v.ownBlock with
    | none => exact .inl rfl
    | some g => exact .inr fun e => by cases e)
/-- What lies about while the second job is made. -/
structure US (w0 : World) (B g4 g5 b : Nat) (K X : Jb) (a : Option Addr) (n c : Nat) (oa : Option Addr) (oc : Nat) (L : List R2) (w : World) : Prop where
  b0 : Below w0.heap.size w0 w
  hb : w0.heap.size ≤ b ∧ w0.heap.size ≤ B
  pt : Pt w b
  j4 : Bk w g4 30 (jobC K (.slice a n c))
  r4 : Rg w B a K.sh
  j5 : Bk w g5 30 (jobC X (.slice oa n oc))
  own : w.ownsRow B 23 2 (.slice oa n oc) n (rgCells L)
  lt : b < B ∧ g4 < B ∧ B ≤ g5 ∧ B ≤ w.heap.size
  hn : n = K.sh.length
  ck : K.check = 0
  ln : L.length = n
section
variable {w0 w w' : World} {B g4 g5 b : Nat} {K X : Jb} {a oa : Option Addr} {n c oc : Nat} {L : List R2}
theorem US.next (h : US w0 B g4 g5 b K X a n c oa oc L w) (hq : Below w.heap.size w w') : US w0 B g4 g5 b K X a n c oa oc L w' := by
  obtain ⟨l1, l2, l3, l4⟩ := h.lt
  exact ⟨h.b0.trans (hq.mono h.b0.size), h.hb, h.pt.below hq h.pt.lt, h.j4.below hq h.j4.lt, h.r4.below (hq.mono l4), h.j5.below hq h.j5.lt, own_below h.own hq, ⟨l1, l2, l3, Nat.le_trans l4 hq.size⟩, h.hn, h.ck, h.ln⟩
end
theorem Is_x {l : List Int} {k : Nat} (h : k < l.length) : ∃ x, l[k]? = some x := ⟨_, List.getElem?_eq_getElem h⟩
theorem Pt.ne {w : World} {b g : Nat} {t : TypeId} {cs : Array Value} (hp : Pt w b) (h : Bk w g t cs) (hs : cs.size ≠ 1) : g ≠ b := by
  rintro rfl
  obtain ⟨t', s, hb⟩ := hp
  unfold Bk at h hb
  rw [h] at hb
  injection hb with hb
  injection hb with hb
  rw [hb] at hs
  exact hs rfl
set_option maxHeartbeats 4000000 in
set_option maxRecDepth 1000000 in
theorem mipart9 {w0 w : World} {g4 g5 : Nat} {K : Jb} {a oa la : Option Addr} {n c oc lc : Nat} {l : List Int} {u0 u1 u2 u3 u6 u9 A0 A1 A2 A3 A4 A5 A6 A7 A8 A9 Aa Ab Ac Ad Ae Af Ag Ah Ai Aj Ak Al Am An Ao Ap Aq Ar As At Au Av Aw Ax Ay Az C0 C1 C2 C3 C4 C5 C6 C7 C8 C9 Ca Cb Cc Cd Ce Cf Cg Ch Ci Cj Ck Cl Cm Cn Co Cp Cq Cr Cs Ct Cu Cv Cw Cx Cy Cz D0 D1 D2 D3 D4 D5 D6 D7 D8 D9 Da Db Dc Dd De Df Dg Dh Di Dj Dk Dl Dm Dn Do Dp Dq Dr Ds Dt Du Dv Dw Dx Dy Dz E0 E1 E2 E3 E4 E5 E6 E7 E8 E9 Ea Eb Ec Ed Ee Ef Eg Eh Ei Ej Ek El Em En Eo Ep Eq Er Es Et Eu Ev Ew Ex Ey Ez F0 F1 F2 F3 F4 F5 F6 F7 F8 F9 Fa Fb Fc Fd Fe Ff Fg Fh Fi Fj Fk Fl Fm Fn Fo Fp Fq Fr Fs Ft Fu Fv Fw Fx Fy Fz L0 L1 L2 L3 L4 L5 L6 L7 L8 L9 La Lb Lc Ld Le Lf Lg Lh Li Lj Lk Ll Lm Ln Lo Lp Lq Lr Ls Lt Lu Lv Lw Lx Ly Lz M0 M1 M2 M3 M4 M5 M6 M7 M8 M9 Ma Mb Mc Md Me Mf Mg Mh Mi Mj Mk Ml Mm Mn Mo Mp Mq Mr Ms Mt Mu Mv Mw Mx My Mz N0 N1 N2 N3 N4 N5 N6 N7 N8 N9 Na Nb Nc Nd Ne Nf Ng Nh Ni Nj Nk Nl Nm : Value} (htun : TunOK) (hshort : ShortOK) (hfine : FineOK) (b0 : Below w0.heap.size w0 w) (j4 : Bk w g4 30 (jobC K (.slice a n c))) (r4 : Rg w w.heap.size a K.sh) (j5 : Bk w g5 30 (jobC (mirJ K) (.slice oa n oc))) (r5 : Rg w w.heap.size oa (mirJ K).sh) (il : Is w w.heap.size la l) (ck : K.check = 0) (hn : n = K.sh.length) (l12 : ∀ x ∈ l, x = 1 ∨ x = 2) (l4 : l.length ≤ 4) : Code.wp Try.prog mirest9 (QMI w0) ⟨#[u0, u1, u2, u3, (.pointer (some ⟨g4, 0, none⟩)), (.pointer (some ⟨g5, 0, none⟩)), u6, (.slice la l.length lc), (.slice none 0 0), u9, A0, A1, A2, A3, A4, A5, A6, A7, A8, A9, Aa, Ab, Ac, Ad, Ae, Af, Ag, Ah, Ai, Aj, Ak, Al, Am, An, Ao, Ap, Aq, Ar, As, At, Au, Av, Aw, Ax, Ay, Az, C0, C1, C2, C3, C4, C5, C6, C7, C8, C9, Ca, Cb, Cc, Cd, Ce, Cf, Cg, Ch, Ci, Cj, Ck, Cl, Cm, Cn, Co, Cp, Cq, Cr, Cs, Ct, Cu, Cv, Cw, Cx, Cy, Cz, D0, D1, D2, D3, D4, D5, D6, D7, D8, D9, Da, Db, Dc, Dd, De, Df, Dg, Dh, Di, Dj, Dk, Dl, Dm, Dn, Do, Dp, Dq, Dr, Ds, Dt, Du, Dv, Dw, Dx, Dy, Dz, E0, E1, E2, E3, E4, E5, E6, E7, E8, E9, Ea, Eb, Ec, Ed, Ee, Ef, Eg, Eh, Ei, Ej, Ek, El, Em, En, Eo, Ep, Eq, Er, Es, Et, Eu, Ev, Ew, Ex, Ey, Ez, F0, F1, F2, F3, F4, F5, F6, F7, F8, F9, Fa, Fb, Fc, Fd, Fe, Ff, Fg, Fh, Fi, Fj, Fk, Fl, Fm, Fn, Fo, Fp, Fq, Fr, Fs, Ft, Fu, Fv, Fw, Fx, Fy, Fz, L0, L1, L2, L3, L4, L5, L6, L7, L8, L9, La, Lb, Lc, Ld, Le, Lf, Lg, Lh, Li, Lj, Lk, Ll, Lm, Ln, Lo, Lp, Lq, Lr, Ls, Lt, Lu, Lv, Lw, Lx, Ly, Lz, M0, M1, M2, M3, M4, M5, M6, M7, M8, M9, Ma, Mb, Mc, Md, Me, Mf, Mg, Mh, Mi, Mj, Mk, Ml, Mm, Mn, Mo, Mp, Mq, Mr, Ms, Mt, Mu, Mv, Mw, Mx, My, Mz, N0, N1, N2, N3, N4, N5, N6, N7, N8, N9, Na, Nb, Nc, Nd, Ne, Nf, Ng, Nh, Ni, Nj, Nk, Nl, Nm], []⟩ w := by
  rw [mirest9_eq]
  have Hb0 := hidMk b0
  have Hj4 := hidMk j4
  have Hr4 := hidMk r4
  have Hj5 := hidMk j5
  have Hr5 := hidMk r5
  have Hil := hidMk il
  have Hck := hidMk ck
  have Hhn := hidMk hn
  have Hl12 := hidMk l12
  have Hl4 := hidMk l4
  have HT := hidMk htun
  have HSO := hidMk hshort
  have HFO := hidMk hfine
  clear htun hshort hfine b0 j4 r4 j5 r5 il ck hn l12 l4
  obtain ⟨i0, hi, hz0, hz1, hz2⟩ := info_parts infoInt
  have Hi : Hid (Try.prog.info? 3 = some i0) := hi
  have Hz0 : Hid (i0.zero = some (.int .i64 0)) := hz0
  have Hz1 : Hid (i0.size = 1) := hz1
  have Hz2 : Hid (i0.bytes = 8) := hz2
  clear hi hz0 hz1 hz2
  obtain ⟨N, HN⟩ : ∃ N, Hid (N = l.length) := ⟨_, hidMk rfl⟩
  have hN4 : N ≤ 4 := by have := Hl4.out; have := HN.out; omega
  rw [show (Value.slice la l.length lc) = .slice la N lc from by rw [HN.out]]
  go_wp2_with fail
  go_loopw [8, 9] (fun v iv wr => ∃ k : Nat, k ≤ N ∧ iv = .int .i64 k ∧ wr.ownsRow w.heap.size 3 1 v k (((l.take k).map (3 - ·)).map (Value.int .i64)) ∧ Below w.heap.size w wr) (fun _ iv _ => N - (intOf iv).toNat)
  case atStart => exact ⟨0, Nat.zero_le _, rfl, World.ownsRow_nil _ _ _ _, Below.refl _ _⟩
  case round =>
    obtain ⟨k, hk, rfl, own, hB⟩ := hrel
    by_cases hlt : k < N
    · obtain ⟨x, hx⟩ := Is_x (l := l) (k := k) (by have := HN.out; omega)
      obtain ⟨bb, off, e, hbl, hcell⟩ := Hil.out k x hx
      subst e
      have hcw := (hB.cell (p := ⟨bb, off + k, none⟩) hbl).trans hcell
      have hx12 := Hl12.out x (List.mem_of_getElem? hx)
      have hw3 : IntKind.i64.wrap (3 - x) = 3 - x := IntWalk.i64_in _ (by omega)
      have hki : (0 : Int) ≤ (k : Int) := by omega
      have hki2 : (k : Int) < (N : Int) := by omega
      have O2 := hidMk own
      have HX := hidMk hx
      have HBB := hidMk hB
      have hzr := hB.size
      clear own hx hcell hx12 hB
      go_wp2_with (at_builtin; refine wpList_append_own_at _ rfl (.tmp 113) (.tmp 119) 31 rfl w.heap.size 3 i0 (.int .i64 0) 1 8 Try.underlying31 Hi.out Hz0.out Hz1.out Hz2.out rfl (by decide) _ k _ rfl (O2.out.alloc _) ⟨wr.heap.size, 0, none⟩ 1 1 [.int .i64 (3 - x)] rfl rfl (news_one (Bk.new _ _ _)) (by simp [Value.oneCell']) (by unfold maxLen; omega) (by omega) (by simp; omega) ?_; intro v' w3 own' hg _ at_; have hz3 := hg.size; simp only [World.size_alloc] at hz3; have O3 := hidMk own'; clear own'; have hr : ∀ g, Value.ownBlock _ = some g → w.heap.size ≤ g := (fun g e => (O2.out.lt g e).1))
      go_roundw
      case rel =>
        refine ⟨k + 1, by omega, by go_num, ?_, ?_⟩
        · have e : l.take (k + 1) = l.take k ++ [x] := by rw [List.take_add_one, HX.out]; rfl
          rw [e, List.map_append, List.map_append]
          exact O3.out
        · exact below_grownTo (HBB.out.alloc (by omega) _) hg (by simp; omega) hr
      case measure => simp [intOf]; omega
    · obtain rfl : k = N := by omega
      have htk : l.take k = l := by rw [HN.out, List.take_length]
      rw [htk] at own
      obtain ⟨lb, mc, rfl, hn5, his⟩ := Is.of_own own
      have HIS := hidMk his
      have HBB := hidMk hB
      clear own his htk
      go_wp2_with fail
      have hs : MS w0 g4 g5 K a n c oa oc la lb l wr := ⟨Hb0.out.trans (HBB.out.mono Hb0.out.size), Hj4.out.below HBB.out Hj4.out.lt, Hr4.out.up HBB.out, Hj5.out.below HBB.out Hj5.out.lt, Hr5.out.up HBB.out, Hil.out.up HBB.out, HIS.out, Hck.out, Hhn.out, Hl12.out, Hl4.out⟩
      have HS := hidMk hs
      clear hs hn5
      have HNN := HN.out
      subst HNN
      exact mipart10 HT.out HSO.out HFO.out HS.out
set_option maxHeartbeats 4000000 in
set_option maxRecDepth 1000000 in
theorem mipart8 {w0 w : World} {g4 g5 : Nat} {K : Jb} {a oa la : Option Addr} {n c oc lc : Nat} {l : List Int} {u0 u1 u2 u3 u6 u8 u9 A0 A1 A2 A3 A4 A5 A6 A7 A8 A9 Aa Ab Ac Ad Ae Af Ag Ah Ai Aj Ak Al Am An Ao Ap Aq Ar As At Au Av Aw Ax Ay Az C0 C1 C2 C3 C4 C5 C6 C7 C8 C9 Ca Cb Cc Cd Ce Cf Cg Ch Ci Cj Ck Cl Cm Cn Co Cp Cq Cr Cs Ct Cu Cv Cw Cx Cy Cz D0 D1 D2 D3 D4 D5 D6 D7 D8 D9 Da Db Dc Dd De Df Dg Dh Di Dj Dk Dl Dm Dn Do Dp Dq Dr Ds Dt Du Dv Dw Dx Dy Dz E0 E1 E2 E3 E4 E5 E6 E7 E8 E9 Ea Eb Ec Ed Ee Ef Eg Eh Ei Ej Ek El Em En Eo Ep Eq Er Es Et Eu Ev Ew Ex Ey Ez F0 F1 F2 F3 F4 F5 F6 F7 F8 F9 Fa Fb Fc Fd Fe Ff Fg Fh Fi Fj Fk Fl Fm Fn Fo Fp Fq Fr Fs Ft Fu Fv Fw Fx Fy Fz L0 L1 L2 L3 L4 L5 L6 L7 L8 L9 La Lb Lc Ld Le Lf Lg Lh Li Lj Lk Ll Lm Ln Lo Lp Lq Lr Ls Lt Lu Lv Lw Lx Ly Lz M0 M1 M2 M3 M4 M5 M6 M7 M8 M9 Ma Mb Mc Md Me Mf Mg Mh Mi Mj Mk Ml Mm Mn Mo Mp Mq Mr Ms Mt Mu Mv Mw Mx My Mz N0 N1 N2 N3 N4 N5 N6 N7 N8 N9 Na Nb Nc Nd Ne Nf Ng Nh Ni Nj Nk Nl Nm : Value} (htun : TunOK) (hshort : ShortOK) (hfine : FineOK) (b0 : Below w0.heap.size w0 w) (j4 : Bk w g4 30 (jobC K (.slice a n c))) (r4 : Rg w w.heap.size a K.sh) (j5 : Bk w g5 30 (jobC (mirJ K) (.slice oa n oc))) (r5 : Rg w w.heap.size oa (mirJ K).sh) (il : Is w w.heap.size la l) (ck : K.check = 0) (hn : n = K.sh.length) (l12 : ∀ x ∈ l, x = 1 ∨ x = 2) (l4 : l.length ≤ 4) : Code.wp Try.prog mirest8 (QMI w0) ⟨#[u0, u1, u2, u3, (.pointer (some ⟨g4, 0, none⟩)), (.pointer (some ⟨g5, 0, none⟩)), u6, (.slice la l.length lc), u8, u9, A0, A1, A2, A3, A4, A5, A6, A7, A8, A9, Aa, Ab, Ac, Ad, Ae, Af, Ag, Ah, Ai, Aj, Ak, Al, Am, An, Ao, Ap, Aq, Ar, As, At, Au, Av, Aw, Ax, Ay, Az, C0, C1, C2, C3, C4, C5, C6, C7, C8, C9, Ca, Cb, Cc, Cd, Ce, Cf, Cg, Ch, Ci, Cj, Ck, Cl, Cm, Cn, Co, Cp, Cq, Cr, Cs, Ct, Cu, Cv, Cw, Cx, Cy, Cz, D0, D1, D2, D3, D4, D5, D6, D7, D8, D9, Da, Db, Dc, Dd, De, Df, Dg, Dh, Di, Dj, Dk, Dl, Dm, Dn, Do, Dp, Dq, Dr, Ds, Dt, Du, Dv, Dw, Dx, Dy, Dz, E0, E1, E2, E3, E4, E5, E6, E7, E8, E9, Ea, Eb, Ec, Ed, Ee, Ef, Eg, Eh, Ei, Ej, Ek, El, Em, En, Eo, Ep, Eq, Er, Es, Et, Eu, Ev, Ew, Ex, Ey, Ez, F0, F1, F2, F3, F4, F5, F6, F7, F8, F9, Fa, Fb, Fc, Fd, Fe, Ff, Fg, Fh, Fi, Fj, Fk, Fl, Fm, Fn, Fo, Fp, Fq, Fr, Fs, Ft, Fu, Fv, Fw, Fx, Fy, Fz, L0, L1, L2, L3, L4, L5, L6, L7, L8, L9, La, Lb, Lc, Ld, Le, Lf, Lg, Lh, Li, Lj, Lk, Ll, Lm, Ln, Lo, Lp, Lq, Lr, Ls, Lt, Lu, Lv, Lw, Lx, Ly, Lz, M0, M1, M2, M3, M4, M5, M6, M7, M8, M9, Ma, Mb, Mc, Md, Me, Mf, Mg, Mh, Mi, Mj, Mk, Ml, Mm, Mn, Mo, Mp, Mq, Mr, Ms, Mt, Mu, Mv, Mw, Mx, My, Mz, N0, N1, N2, N3, N4, N5, N6, N7, N8, N9, Na, Nb, Nc, Nd, Ne, Nf, Ng, Nh, Ni, Nj, Nk, Nl, Nm], []⟩ w := by
  rw [mirest8_eq]
  go_wp2_with fail
  exact mipart9 htun hshort hfine b0 j4 r4 j5 r5 il ck hn l12 l4
set_option maxHeartbeats 4000000 in
set_option maxRecDepth 1000000 in
theorem mipart7 {w0 w : World} {B g4 g5 b : Nat} {K : Jb} {a oa : Option Addr} {n c oc : Nat} {u0 u1 u2 u6 u7 u8 u9 A0 A1 A2 A3 A4 A5 A6 A7 A8 A9 Aa Ab Ac Ad Ae Af Ag Ah Ai Aj Ak Al Am An Ao Ap Aq Ar As At Au Av Aw Ax Ay Az C0 C1 C2 C3 C4 C5 C6 C7 C8 C9 Ca Cb Cc Cd Ce Cf Cg Ch Ci Cj Ck Cl Cm Cn Co Cp Cq Cr Cs Ct Cu Cv Cw Cx Cy Cz D0 D1 D2 D3 D4 D5 D6 D7 D8 D9 Da Db Dc Dd De Df Dg Dh Di Dj Dk Dl Dm Dn Do Dp Dq Dr Ds Dt Du Dv Dw Dx Dy Dz E0 E1 E2 E3 E4 E5 E6 E7 E8 E9 Ea Eb Ec Ed Ee Ef Eg Eh Ei Ej Ek El Em En Eo Ep Eq Er Es Et Eu Ev Ew Ex Ey Ez F0 F1 F2 F3 F4 F5 F6 F7 F8 F9 Fa Fb Fc Fd Fe Ff Fg Fh Fi Fj Fk Fl Fm Fn Fo Fp Fq Fr Fs Ft Fu Fv Fw Fx Fy Fz L0 L1 L2 L3 L4 L5 L6 L7 L8 L9 La Lb Lc Ld Le Lf Lg Lh Li Lj Lk Ll Lm Ln Lo Lp Lq Lr Ls Lt Lu Lv Lw Lx Ly Lz M0 M1 M2 M3 M4 M5 M6 M7 M8 M9 Ma Mb Mc Md Me Mf Mg Mh Mi Mj Mk Ml Mm Mn Mo Mp Mq Mr Ms Mt Mu Mv Mw Mx My Mz N0 N1 N2 N3 N4 N5 N6 N7 N8 N9 Na Nb Nc Nd Ne Nf Ng Nh Ni Nj Nk Nl Nm : Value} (htun : TunOK) (hshort : ShortOK) (hfine : FineOK) (hs : US w0 B g4 g5 b K (mirJ K) a n c oa oc (mirJ K).sh w) : Code.wp Try.prog mirest7 (QMI w0) ⟨#[u0, u1, u2, (.pointer (some ⟨b, 0, none⟩)), (.pointer (some ⟨g4, 0, none⟩)), (.pointer (some ⟨g5, 0, none⟩)), u6, u7, u8, u9, A0, A1, A2, A3, A4, A5, A6, A7, A8, A9, Aa, Ab, Ac, Ad, Ae, Af, Ag, Ah, Ai, Aj, Ak, Al, Am, An, Ao, Ap, Aq, Ar, As, At, Au, Av, Aw, Ax, Ay, Az, C0, C1, C2, C3, C4, C5, C6, C7, C8, C9, Ca, Cb, Cc, Cd, Ce, Cf, Cg, Ch, Ci, Cj, Ck, Cl, Cm, Cn, Co, Cp, Cq, Cr, Cs, Ct, Cu, Cv, Cw, Cx, Cy, Cz, D0, D1, D2, D3, D4, D5, D6, D7, D8, D9, Da, Db, Dc, Dd, De, Df, Dg, Dh, Di, Dj, Dk, Dl, Dm, Dn, Do, Dp, Dq, Dr, Ds, Dt, Du, Dv, Dw, Dx, Dy, Dz, E0, E1, E2, E3, E4, E5, E6, E7, E8, E9, Ea, Eb, Ec, Ed, Ee, Ef, Eg, Eh, Ei, Ej, Ek, El, Em, En, Eo, Ep, Eq, Er, Es, Et, Eu, Ev, Ew, Ex, Ey, Ez, F0, F1, F2, F3, F4, F5, F6, F7, F8, F9, Fa, Fb, Fc, Fd, Fe, Ff, Fg, Fh, Fi, Fj, Fk, Fl, Fm, Fn, Fo, Fp, Fq, Fr, Fs, Ft, Fu, Fv, Fw, Fx, Fy, Fz, L0, L1, L2, L3, L4, L5, L6, L7, L8, L9, La, Lb, Lc, Ld, Le, Lf, Lg, Lh, Li, Lj, Lk, Ll, Lm, Ln, Lo, Lp, Lq, Lr, Ls, Lt, Lu, Lv, Lw, Lx, Ly, Lz, M0, M1, M2, M3, M4, M5, M6, M7, M8, M9, Ma, Mb, Mc, Md, Me, Mf, Mg, Mh, Mi, Mj, Mk, Ml, Mm, Mn, Mo, Mp, Mq, Mr, Ms, Mt, Mu, Mv, Mw, Mx, My, Mz, N0, N1, N2, N3, N4, N5, N6, N7, N8, N9, Na, Nb, Nc, Nd, Ne, Nf, Ng, Nh, Ni, Nj, Nk, Nl, Nm], []⟩ w := by
  rw [mirest7_eq]
  have HS := hidMk hs
  have HT := hidMk htun
  have HSO := hidMk hshort
  have HFO := hidMk hfine
  clear htun hshort hfine hs
  go_wp2_with fail
  refine (strokesN_any 4 (by decide) b _ HS.out.pt).mono ?_
  rintro e w2 ⟨la, ln, lc, l, rfl, hln, hl4, h12, his, hk, hp2⟩
  obtain ⟨l1, l2, l3, l4⟩ := HS.out.lt
  have hb2 : Below w0.heap.size w w2 := (hk.mono HS.out.b0.size).toBelow HS.out.hb.1
  obtain ⟨_, _, e5, -, hrg5⟩ := Rg.of_own HS.out.own
  cases e5
  have q4 : Bk w2 g4 30 (jobC K (.slice a n c)) := HS.out.j4.pb hk HS.out.j4.lt (HS.out.pt.ne HS.out.j4 (by simp [jobC]))
  have q5 : Bk w2 g5 30 (jobC (mirJ K) (.slice oa n oc)) := HS.out.j5.pb hk HS.out.j5.lt (HS.out.pt.ne HS.out.j5 (by simp [jobC]))
  have r4 : Rg w2 w2.heap.size a K.sh := (HS.out.r4.hi l4).pb HS.out.pt hk
  have r5 : Rg w2 w2.heap.size oa (mirJ K).sh := hrg5.pb HS.out.pt hk
  have H1 := hidMk (HS.out.b0.trans hb2)
  have H2 := hidMk his
  have H3 := hidMk h12
  have H4 := hidMk (show l.length ≤ 4 by omega)
  have H5 := hidMk q4
  have H6 := hidMk q5
  have H7 := hidMk r4
  have H8 := hidMk r5
  subst hln
  clear hb2 hk hp2 his h12 q4 q5 r4 r5 hrg5 hl4
  go_wp2_with fail
  exact mipart8 HT.out HSO.out HFO.out H1.out H5.out H7.out H6.out H8.out H2.out HS.out.ck HS.out.hn H3.out H4.out
end Go.Proofs.Ytbebofmpimfbgaa
/- The law ReedMirrored: the shifts. -/
namespace Go.Proofs.Ytbebofmpimfbgaa
set_option linter.all false
open Go.RowKit
theorem rgCells_set : ∀ (L : List R2) (k : Nat) (x y : Int), rgCells (L.set k (x, y)) = ((rgCells L).set (k * 2) (.int .i64 x)).set (k * 2 + 1) (.int .i64 y)
  | [], k, x, y => by simp [rgCells]
  | r :: L, 0, x, y => by simp [rgCells]
  | r :: L, k + 1, x, y => by
    have h := rgCells_set L k x y
    rw [List.set_cons_succ]
    simp only [rgCells]
    rw [h, show (k + 1) * 2 = k * 2 + 1 + 1 from by omega]
    simp only [List.set_cons_succ]
theorem own_at {w : World} {B e n c : Nat} {oa : Option Addr} {L : List R2} (h : w.ownsRow B e 2 (.slice oa n c) n (rgCells L)) (hL : L.length = n) {k : Nat} (hk : k < n) : ∃ q o r, oa = some ⟨q, o, none⟩ ∧ B ≤ q ∧ q < w.heap.size ∧ L[k]? = some r ∧ w.cell? ⟨q, o + k * 2, none⟩ = some (.int .i64 r.1) ∧ w.cell? ⟨q, o + k * 2 + 1, none⟩ = some (.int .i64 r.2) ∧ (∀ p : Nat, w.frozen? ⟨q, p, none⟩ = false) := by
  obtain ⟨_, _, e5, -, hrg⟩ := Rg.of_own h
  cases e5
  obtain ⟨q, o, e, hq, h1, h2⟩ := hrg k L[k] (List.getElem?_eq_getElem (by omega))
  refine ⟨q, o, L[k], e, ?_, hq, List.getElem?_eq_getElem (by omega), h1, h2, ?_⟩
  · rcases h.2 with ⟨e', h0⟩ | ⟨g, cap, cur, hv, hB, _⟩
    · omega
    · rw [e] at hv; cases hv; exact hB
  · intro p
    rcases h.2 with ⟨e', h0⟩ | ⟨g, cap, cur, hv, hB, hg, _⟩
    · omega
    · rw [e] at hv
      cases hv
      simp [World.frozen?, hg]
theorem own_set {w : World} {B e n c q o k : Nat} {L : List R2} (h : w.ownsRow B e 2 (.slice (some ⟨q, o, none⟩) n c) n (rgCells L)) (hL : L.length = n) (hk : k < n) (x y : Int) :
    ((w.setCell ⟨q, o + k * 2, none⟩ (.int .i64 x)).setCell ⟨q, o + k * 2 + 1, none⟩ (.int .i64 y)).ownsRow B e 2 (.slice (some ⟨q, o, none⟩) n c) n (rgCells (L.set k (x, y))) := by
  obtain ⟨hl, hh⟩ := h
  refine ⟨by rw [rgCells_len] at hl ⊢; simpa using hl, ?_⟩
  rcases hh with ⟨e', h0⟩ | ⟨g, cap, cur, hv, hB, hg, hnc, hcm, hcs, htk⟩
  · cases e'
  · cases hv
    have hb : Bk w q e cur := hg
    refine .inr ⟨q, c, _, rfl, hB, (hb.put (0 + k * 2) (.int .i64 x)).put (0 + k * 2 + 1) (.int .i64 y), hnc, hcm, by simpa using hcs, ?_⟩
    rw [rgCells_set, ← htk, Nat.zero_add]
    simp only [Array.toList_setIfInBounds, List.take_set]
def mirL (sh : List R2) (k : Nat) : List R2 := (sh.take k).map negR ++ sh.drop k
theorem mirL_len (sh : List R2) (k : Nat) : (mirL sh k).length = sh.length := by simp [mirL]; omega
theorem mirL_0 (sh : List R2) : mirL sh 0 = sh := by simp [mirL]
theorem mirL_end (sh : List R2) : mirL sh sh.length = sh.map negR := by simp [mirL]
theorem mirL_set (sh : List R2) (k : Nat) (r : R2) (h : sh[k]? = some r) : (mirL sh k).set k (negR r) = mirL sh (k + 1) := by
  have hk : k < sh.length := (List.getElem?_eq_some_iff.1 h).1
  have hr : sh[k] = r := (List.getElem?_eq_some_iff.1 h).2
  have hlen : ((sh.take k).map negR).length = k := by simp; omega
  unfold mirL
  rw [List.set_append_right _ _ (by omega), hlen, Nat.sub_self, List.drop_eq_getElem_cons hk, List.set_cons_zero, List.take_add_one, h]
  simp
theorem US.set2 {w0 w : World} {B g4 g5 b : Nat} {K X : Jb} {a oa : Option Addr} {n c oc q : Nat} {L L' : List R2} {v1 v2 : Value} (h : US w0 B g4 g5 b K X a n c oa oc L w) (i j : Nat) (hO : ((w.setCell ⟨q, i, none⟩ v1).setCell ⟨q, j, none⟩ v2).ownsRow B 23 2 (.slice oa n oc) n (rgCells L')) (h4 : Bk ((w.setCell ⟨q, i, none⟩ v1).setCell ⟨q, j, none⟩ v2) g4 30 (jobC K (.slice a n c))) (h5 : Bk ((w.setCell ⟨q, i, none⟩ v1).setCell ⟨q, j, none⟩ v2) g5 30 (jobC X (.slice oa n oc))) (hq : B ≤ q) (hL : L'.length = n) : US w0 B g4 g5 b K X a n c oa oc L' ((w.setCell ⟨q, i, none⟩ v1).setCell ⟨q, j, none⟩ v2) := by
  obtain ⟨l1, l2, l3, l4⟩ := h.lt
  have hb : Below B w ((w.setCell ⟨q, i, none⟩ v1).setCell ⟨q, j, none⟩ v2) := ((Below.refl _ _).setCell (p := ⟨q, i, none⟩) hq _).setCell (p := ⟨q, j, none⟩) hq _
  exact ⟨h.b0.trans (hb.mono h.hb.2), h.hb, h.pt.below hb l1, h4, h.r4.below hb, h5, hO, ⟨l1, l2, l3, Nat.le_trans l4 hb.size⟩, h.hn, h.ck, hL⟩
set_option maxHeartbeats 4000000 in
set_option maxRecDepth 1000000 in
theorem mipart6 {w0 w : World} {B g4 g5 b : Nat} {K : Jb} {a oa : Option Addr} {n c oc : Nat} {u0 u1 u2 u6 u7 u8 u9 A0 A1 A2 A3 A4 A5 A6 A7 A8 A9 Aa Ab Ac Ad Ae Af Ag Ah Ai Aj Ak Al Am An Ao Ap Aq Ar As At Au Av Aw Ax Ay Az C0 C1 C2 C3 C4 C5 C6 C7 C8 C9 Ca Cb Cc Cd Ce Cf Cg Ch Ci Cj Ck Cl Cm Cn Co Cp Cq Cr Cs Ct Cu Cv Cw Cx Cy Cz D0 D1 D2 D3 D4 D5 D6 D7 D8 D9 Da Db Dc Dd De Df Dg Dh Di Dj Dk Dl Dm Dn Do Dp Dq Dr Ds Dt Du Dv Dw Dx Dy Dz E0 E1 E2 E3 E4 E5 E6 E7 E8 E9 Ea Eb Ec Ed Ee Ef Eg Eh Ei Ej Ek El Em En Eo Ep Eq Er Es Et Eu Ev Ew Ex Ey Ez F0 F1 F2 F3 F4 F5 F6 F7 F8 F9 Fa Fb Fc Fd Fe Ff Fg Fh Fi Fj Fk Fl Fm Fn Fo Fp Fq Fr Fs Ft Fu Fv Fw Fx Fy Fz L0 L1 L2 L3 L4 L5 L6 L7 L8 L9 La Lb Lc Ld Le Lf Lg Lh Li Lj Lk Ll Lm Ln Lo Lp Lq Lr Ls Lt Lu Lv Lw Lx Ly Lz M0 M1 M2 M3 M4 M5 M6 M7 M8 M9 Ma Mb Mc Md Me Mf Mg Mh Mi Mj Mk Ml Mm Mn Mo Mp Mq Mr Ms Mt Mu Mv Mw Mx My Mz N0 N1 N2 N3 N4 N5 N6 N7 N8 N9 Na Nb Nc Nd Ne Nf Ng Nh Ni Nj Nk Nl Nm : Value} (htun : TunOK) (hshort : ShortOK) (hfine : FineOK) (hs : US w0 B g4 g5 b K (mirJ K) a n c oa oc K.sh w) : Code.wp Try.prog mirest6 (QMI w0) ⟨#[u0, u1, u2, (.pointer (some ⟨b, 0, none⟩)), (.pointer (some ⟨g4, 0, none⟩)), (.pointer (some ⟨g5, 0, none⟩)), u6, u7, u8, u9, A0, A1, A2, A3, A4, A5, A6, A7, A8, A9, Aa, Ab, Ac, Ad, Ae, Af, Ag, Ah, Ai, Aj, Ak, Al, Am, An, Ao, Ap, Aq, Ar, As, At, Au, Av, Aw, Ax, Ay, Az, C0, C1, C2, C3, C4, C5, C6, C7, C8, C9, Ca, Cb, Cc, Cd, Ce, Cf, Cg, Ch, Ci, Cj, Ck, Cl, Cm, Cn, Co, Cp, Cq, Cr, Cs, Ct, Cu, Cv, Cw, Cx, Cy, Cz, D0, D1, D2, D3, D4, D5, D6, D7, D8, D9, Da, Db, Dc, Dd, De, Df, Dg, Dh, Di, Dj, Dk, Dl, Dm, Dn, Do, Dp, Dq, Dr, Ds, Dt, Du, Dv, Dw, Dx, Dy, Dz, E0, E1, E2, E3, E4, E5, E6, E7, E8, E9, Ea, Eb, Ec, Ed, Ee, Ef, Eg, Eh, Ei, Ej, Ek, El, Em, En, Eo, Ep, Eq, Er, Es, Et, Eu, Ev, Ew, Ex, Ey, Ez, F0, F1, F2, F3, F4, F5, F6, F7, F8, F9, Fa, Fb, Fc, Fd, Fe, Ff, Fg, Fh, Fi, Fj, Fk, Fl, Fm, Fn, Fo, Fp, Fq, Fr, Fs, Ft, Fu, Fv, Fw, Fx, Fy, Fz, L0, L1, L2, L3, L4, L5, L6, L7, L8, L9, La, Lb, Lc, Ld, Le, Lf, Lg, Lh, Li, Lj, Lk, Ll, Lm, Ln, Lo, Lp, Lq, Lr, Ls, Lt, Lu, Lv, Lw, Lx, Ly, Lz, M0, M1, M2, M3, M4, M5, M6, M7, M8, M9, Ma, Mb, Mc, Md, Me, Mf, Mg, Mh, Mi, Mj, Mk, Ml, Mm, Mn, Mo, Mp, Mq, Mr, Ms, Mt, Mu, Mv, Mw, Mx, My, Mz, N0, N1, N2, N3, N4, N5, N6, N7, N8, N9, Na, Nb, Nc, Nd, Ne, Nf, Ng, Nh, Ni, Nj, Nk, Nl, Nm], []⟩ w := by
  rw [mirest6_eq]
  have HT := hidMk htun
  have HSO := hidMk hshort
  have HFO := hidMk hfine
  clear htun hshort hfine
  have HS := hidMk hs
  clear hs
  go_wp2_with fail
  go_loopw [6] (fun iv wr => ∃ k : Nat, k ≤ n ∧ iv = .int .i64 k ∧ US w0 B g4 g5 b K (mirJ K) a n c oa oc (mirL K.sh k) wr) (fun iv _ => n - (intOf iv).toNat)
  case atStart => exact ⟨0, Nat.zero_le _, rfl, by rw [mirL_0]; exact HS.out⟩
  case round =>
    obtain ⟨k, hk, rfl, hU⟩ := hrel
    have hln := hU.hn
    have hn4 : n ≤ 4 := by have h4 := (check_full hU.ck).len; omega
    by_cases hkn : k < n
    · obtain ⟨q, o, r', e5, hq1, hq2, hr', -, -, -⟩ := own_at hU.own (by rw [mirL_len]; exact hln.symm) hkn
      subst e5
      obtain ⟨r, hr⟩ : ∃ r, K.sh[k]? = some r := ⟨_, List.getElem?_eq_getElem (by omega)⟩
      obtain ⟨q1, o1, e4, hq1b, e1_, e2_⟩ := hU.r4 k r hr
      subst e4
      have hrb := (check_full hU.ck).sh r (List.mem_of_getElem? hr)
      have n1 : IntKind.i64.wrap (-r.1) = -r.1 := IntWalk.i64_in _ (by omega)
      have n2 : IntKind.i64.wrap (-r.2) = -r.2 := IntWalk.i64_in _ (by omega)
      have hki : (0 : Int) ≤ (k : Int) := by omega
      have hki2 : (k : Int) < (n : Int) := by omega
      have hq5 : q ≠ g5 := by
        rintro rfl
        have a1 := hU.j5
        rcases hU.own.2 with ⟨e', _⟩ | ⟨g, cap, cur, hv, _, hg, _⟩
        · cases e'
        · cases hv
          unfold Bk at a1
          rw [hg] at a1
          injection a1 with a1
          injection a1 with _ a2
          exact absurd a2 (by decide)
      have c15 := hU.j5.at_ 15 (.slice (some ⟨q, o, none⟩) n oc) rfl
      have HR := hidMk hr
      have HLN := hidMk hln
      have HSET := hidMk (mirL_set K.sh k r HR.out)
      have HLK := hidMk (show (mirL K.sh (k + 1)).length = n by rw [mirL_len]; exact hln.symm)
      clear hr' hr hq1 hq2 hrb hln
      go_wp2_with fail
      clear c15
      refine region_via (R := fun a_ e a' w' => e = .normal ∧ ∃ (v86 v87 v88 v89 v90 v91 v92 v93 v94 v95 v96 v97 v98 v99 v100 v101 v102 v103 v104 : Value), a' = (((((((((((((((((((a_.put (some 86) v86).put (some 87) v87).put (some 88) v88).put (some 89) v89).put (some 90) v90).put (some 91) v91).put (some 92) v92).put (some 93) v93).put (some 94) v94).put (some 95) v95).put (some 96) v96).put (some 97) v97).put (some 98) v98).put (some 99) v99).put (some 100) v100).put (some 101) v101).put (some 102) v102).put (some 103) v103).put (some 104) v104) ∧ US w0 B g4 g5 b K (mirJ K) (some ⟨q1, o1, none⟩) n c (some ⟨q, o, none⟩) oc (mirL K.sh (k + 1)) w') ?_ ?_
      rotate_left
      · rintro e a' w' ⟨rfl, v86, v87, v88, v89, v90, v91, v92, v93, v94, v95, v96, v97, v98, v99, v100, v101, v102, v103, v104, rfl, hs2⟩
        simp only [Act.put, aT, aZ, aS]
        have HS2 := hidMk hs2
        clear hs2 hU
        go_wp2_with fail
        go_roundw
        case rel => exact ⟨k + 1, by omega, by go_num, HS2.out⟩
        case measure => simp [intOf]; omega
      have hU0 := hU.next (Below.refl _ _).drew
      have hS : Bk wr.drew g4 30 (jobC K (.slice (some ⟨q1, o1, none⟩) n c)) ∧ Bk wr.drew g5 30 (jobC (mirJ K) (.slice (some ⟨q, o, none⟩) n oc)) ∧ Below B wr wr.drew := ⟨hU.j4, hU.j5, (Below.refl _ _).drew⟩
      have hO := hU0.own
      clear hU
      refine wp_region_held_drew (S := fun w' => Bk w' g4 30 (jobC K (.slice (some ⟨q1, o1, none⟩) n c)) ∧ Bk w' g5 30 (jobC (mirJ K) (.slice (some ⟨q, o, none⟩) n oc)) ∧ Below B wr w') (by kernel_rfl) hS (fun hS0 => ?_)
      clear hS0
      have hU := hU0
      clear hU0
      have hq1B : q1 < B := hq1b
      have e1 := e1_
      have e2 := e2_
      clear e1_ e2_
      generalize wr.drew = wd at hS hU hO ⊢

      refine wpAnyH_take (i := 0) (v := ?_) rfl (by kernel_rfl) (by kernel_rfl) (by kernel_rfl) (fun _ _ _ h => by cases h.1) (.inl ⟨by rfl, ?_⟩) (by assumption) ?_
      rotate_left
      · (intro w' hSw; (try dsimp only at hSw); skip; go_simp <;> with_reducible rfl)
      (try simp only [Act.put, aT, aZ, aS])
      refine wpAnyH_take (i := 1) (v := ?_) rfl (by kernel_rfl) (by kernel_rfl) (by kernel_rfl) (fun _ _ _ h => by cases h.1) (.inl ⟨by rfl, ?_⟩) (by assumption) ?_
      rotate_left
      · (intro w' hSw; (try dsimp only at hSw); (have t4 := hSw.1.at_ 15 (.slice (some ⟨q1, o1, none⟩) n c) rfl; have t5 := hSw.2.1.at_ 15 (.slice (some ⟨q, o, none⟩) n oc) rfl; have z1 := (hSw.2.2.cell (p := ⟨q1, o1 + k * 2, none⟩) (by show q1 < _; omega)).trans e1; have z2 := (hSw.2.2.cell (p := ⟨q1, o1 + k * 2 + 1, none⟩) (by show q1 < _; omega)).trans e2); go_simp <;> with_reducible rfl)
      (try simp only [Act.put, aT, aZ, aS])
      refine wpAnyH_take (i := 2) (v := ?_) rfl (by kernel_rfl) (by kernel_rfl) (by kernel_rfl) (fun _ _ _ h => by cases h.1) (.inl ⟨by rfl, ?_⟩) (by assumption) ?_
      rotate_left
      · (intro w' hSw; (try dsimp only at hSw); skip; go_simp <;> with_reducible rfl)
      (try simp only [Act.put, aT, aZ, aS])
      refine wpAnyH_take (i := 3) (v := ?_) rfl (by kernel_rfl) (by kernel_rfl) (by kernel_rfl) (fun _ _ _ h => by cases h.1) (.inl ⟨by rfl, ?_⟩) (by assumption) ?_
      rotate_left
      · (intro w' hSw; (try dsimp only at hSw); skip; go_simp <;> with_reducible rfl)
      (try simp only [Act.put, aT, aZ, aS])
      refine wpAnyH_take (i := 4) (v := ?_) rfl (by kernel_rfl) (by kernel_rfl) (by kernel_rfl) (fun _ _ _ h => by cases h.1) (.inl ⟨by rfl, ?_⟩) (by assumption) ?_
      rotate_left
      · (intro w' hSw; (try dsimp only at hSw); (have t4 := hSw.1.at_ 15 (.slice (some ⟨q1, o1, none⟩) n c) rfl; have t5 := hSw.2.1.at_ 15 (.slice (some ⟨q, o, none⟩) n oc) rfl; have z1 := (hSw.2.2.cell (p := ⟨q1, o1 + k * 2, none⟩) (by show q1 < _; omega)).trans e1; have z2 := (hSw.2.2.cell (p := ⟨q1, o1 + k * 2 + 1, none⟩) (by show q1 < _; omega)).trans e2); go_simp <;> with_reducible rfl)
      (try simp only [Act.put, aT, aZ, aS])
      refine wpAnyH_take (i := 5) (v := ?_) rfl (by kernel_rfl) (by kernel_rfl) (by kernel_rfl) (fun _ _ _ h => by cases h.1) (.inl ⟨by rfl, ?_⟩) (by assumption) ?_
      rotate_left
      · (intro w' hSw; (try dsimp only at hSw); skip; go_simp <;> with_reducible rfl)
      (try simp only [Act.put, aT, aZ, aS])
      refine wpAnyH_take (i := 6) (v := ?_) rfl (by kernel_rfl) (by kernel_rfl) (by kernel_rfl) (fun _ _ _ h => by cases h.1) (.inl ⟨by rfl, ?_⟩) (by assumption) ?_
      rotate_left
      · (intro w' hSw; (try dsimp only at hSw); skip; go_simp <;> with_reducible rfl)
      (try simp only [Act.put, aT, aZ, aS])
      refine wpAnyH_take (i := 7) (v := ?_) rfl (by kernel_rfl) (by kernel_rfl) (by kernel_rfl) (fun _ _ _ h => by cases h.1) (.inl ⟨by rfl, ?_⟩) (by assumption) ?_
      rotate_left
      · (intro w' hSw; (try dsimp only at hSw); skip; go_simp <;> with_reducible rfl)
      (try simp only [Act.put, aT, aZ, aS])
      refine wpAnyH_take (i := 8) (v := ?_) rfl (by kernel_rfl) (by kernel_rfl) (by kernel_rfl) (fun _ _ _ h => by cases h.1) (.inl ⟨by rfl, ?_⟩) (by assumption) ?_
      rotate_left
      · (intro w' hSw; (try dsimp only at hSw); (have t4 := hSw.1.at_ 15 (.slice (some ⟨q1, o1, none⟩) n c) rfl; have t5 := hSw.2.1.at_ 15 (.slice (some ⟨q, o, none⟩) n oc) rfl; have z1 := (hSw.2.2.cell (p := ⟨q1, o1 + k * 2, none⟩) (by show q1 < _; omega)).trans e1; have z2 := (hSw.2.2.cell (p := ⟨q1, o1 + k * 2 + 1, none⟩) (by show q1 < _; omega)).trans e2); go_simp <;> with_reducible rfl)
      (try simp only [Act.put, aT, aZ, aS])
      refine wpAnyH_take (i := 9) (v := ?_) rfl (by kernel_rfl) (by kernel_rfl) (by kernel_rfl) (fun _ _ _ h => by cases h.1) (.inl ⟨by rfl, ?_⟩) (by assumption) ?_
      rotate_left
      · (intro w' hSw; (try dsimp only at hSw); skip; go_simp <;> with_reducible rfl)
      (try simp only [Act.put, aT, aZ, aS])
      refine wpAnyH_take (i := 10) (v := ?_) rfl (by kernel_rfl) (by kernel_rfl) (by kernel_rfl) (fun _ _ _ h => by cases h.1) (.inl ⟨by rfl, ?_⟩) (by assumption) ?_
      rotate_left
      · (intro w' hSw; (try dsimp only at hSw); skip; go_simp <;> with_reducible rfl)
      (try simp only [Act.put, aT, aZ, aS])
      refine wpAnyH_take (i := 11) (v := ?_) rfl (by kernel_rfl) (by kernel_rfl) (by kernel_rfl) (fun _ _ _ h => by cases h.1) (.inl ⟨by rfl, ?_⟩) (by assumption) ?_
      rotate_left
      · (intro w' hSw; (try dsimp only at hSw); (have t4 := hSw.1.at_ 15 (.slice (some ⟨q1, o1, none⟩) n c) rfl; have t5 := hSw.2.1.at_ 15 (.slice (some ⟨q, o, none⟩) n oc) rfl; have z1 := (hSw.2.2.cell (p := ⟨q1, o1 + k * 2, none⟩) (by show q1 < _; omega)).trans e1; have z2 := (hSw.2.2.cell (p := ⟨q1, o1 + k * 2 + 1, none⟩) (by show q1 < _; omega)).trans e2); go_simp <;> with_reducible rfl)
      (try simp only [Act.put, aT, aZ, aS])
      refine wpAnyH_take (i := 12) (v := ?_) rfl (by kernel_rfl) (by kernel_rfl) (by kernel_rfl) (fun _ _ _ h => by cases h.1) (.inl ⟨by rfl, ?_⟩) (by assumption) ?_
      rotate_left
      · (intro w' hSw; (try dsimp only at hSw); skip; go_simp <;> with_reducible rfl)
      (try simp only [Act.put, aT, aZ, aS])
      refine wpAnyH_take (i := 13) (v := ?_) rfl (by kernel_rfl) (by kernel_rfl) (by kernel_rfl) (fun _ _ _ h => by cases h.1) (.inl ⟨by rfl, ?_⟩) (by assumption) ?_
      rotate_left
      · (intro w' hSw; (try dsimp only at hSw); skip; go_simp <;> with_reducible rfl)
      (try simp only [Act.put, aT, aZ, aS])
      refine wpAnyH_take (i := 14) (v := ?_) rfl (by kernel_rfl) (by kernel_rfl) (by kernel_rfl) (fun _ _ _ h => by cases h.1) (.inl ⟨by rfl, ?_⟩) (by assumption) ?_
      rotate_left
      · (intro w' hSw; (try dsimp only at hSw); skip; go_simp <;> with_reducible rfl)
      (try simp only [Act.put, aT, aZ, aS])
      refine wpAnyH_take (i := 15) (v := ?_) rfl (by kernel_rfl) (by kernel_rfl) (by kernel_rfl) (fun _ _ _ h => by cases h.1) (.inl ⟨by rfl, ?_⟩) (by assumption) ?_
      rotate_left
      · (intro w' hSw; (try dsimp only at hSw); (have t4 := hSw.1.at_ 15 (.slice (some ⟨q1, o1, none⟩) n c) rfl; have t5 := hSw.2.1.at_ 15 (.slice (some ⟨q, o, none⟩) n oc) rfl; have z1 := (hSw.2.2.cell (p := ⟨q1, o1 + k * 2, none⟩) (by show q1 < _; omega)).trans e1; have z2 := (hSw.2.2.cell (p := ⟨q1, o1 + k * 2 + 1, none⟩) (by show q1 < _; omega)).trans e2); go_simp <;> with_reducible rfl)
      (try simp only [Act.put, aT, aZ, aS])
      refine wpAnyH_take (i := 16) (v := ?_) rfl (by kernel_rfl) (by kernel_rfl) (by kernel_rfl) (fun _ _ _ h => by cases h.1) (.inl ⟨by rfl, ?_⟩) (by assumption) ?_
      rotate_left
      · (intro w' hSw; (try dsimp only at hSw); skip; go_simp <;> with_reducible rfl)
      (try simp only [Act.put, aT, aZ, aS])
      refine wpAnyH_ready (rs := [17]) (by kernel_rfl) (by simp) ?_
      refine AllReadyH.cons rfl (fun K hK => ?_) ?_
      · go_simp
        go_at_call 35
        refine (to_any _ _ _).mono ?_
        rintro e w5 ⟨rfl, hb5⟩
        have hz5 := hS.2.2.size
        have hz6 := hU.lt.2.2.2
        have hU_ := hU.next hb5
        have hO_ := own_below hO hb5
        have hS_ := And.intro (hS.1.below hb5 hS.1.lt) (And.intro (hS.2.1.below hb5 hS.2.1.lt) (hS.2.2.trans (hb5.mono (by omega))))
        clear hS hb5 hU hO hz5 hz6
        have hS := hS_
        have hU := hU_
        have hO := hO_
        clear hS_ hU_ hO_
        go_wp2_with fail
        refine hK.out _ _ hS (fun _ => ?_)
        clear hK K
        (try simp only [Act.put, aT, aZ, aS])
        refine wpAnyH_take (i := 18) (v := ?_) rfl (by kernel_rfl) (by kernel_rfl) (by kernel_rfl) (fun _ _ _ h => by cases h.1) (.inl ⟨by rfl, ?_⟩) (by assumption) ?_
        rotate_left
        · (intro w' hSw; (try dsimp only at hSw); skip; go_simp <;> with_reducible rfl)
        (try simp only [Act.put, aT, aZ, aS])
        refine wpAnyH_ready (rs := [19]) (by kernel_rfl) (by simp) ?_
        refine AllReadyH.cons rfl (fun K hK => ?_) ?_
        · obtain ⟨_, _, r', ee, hq1, hq2, hr', y1, y2, fz⟩ := own_at hO (by rw [mirL_len]; exact hU.hn.symm) hkn
          cases ee
          have y3 := fz (o + k * 2)
          have y4 := fz (o + k * 2 + 1)
          clear fz hr'
          go_simp
          have hO_ := own_set hO (by rw [mirL_len]; exact hU.hn.symm) hkn (-r.2) (-r.1)
          have hqg4 : g4 ≠ q := by have := hU.lt; omega
          have hS_ := And.intro ((hS.1.other (p := ⟨q, o + k * 2, none⟩) hqg4 (.int .i64 (-r.2))).other (p := ⟨q, o + k * 2 + 1, none⟩) hqg4 (.int .i64 (-r.1))) (And.intro ((hS.2.1.other (p := ⟨q, o + k * 2, none⟩) hq5.symm (.int .i64 (-r.2))).other (p := ⟨q, o + k * 2 + 1, none⟩) hq5.symm (.int .i64 (-r.1))) ((hS.2.2.setCell (p := ⟨q, o + k * 2, none⟩) hq1 (.int .i64 (-r.2))).setCell (p := ⟨q, o + k * 2 + 1, none⟩) hq1 (.int .i64 (-r.1))))
          have hU_ := hU.set2 (o + k * 2) (o + k * 2 + 1) (by rw [← HSET.out]; exact hO_) hS_.1 hS_.2.1 hq1 HLK.out
          clear y1 y2 y3 y4
          refine hK.out _ _ hS_ (fun _ => ?_)
          clear hS hU hO
          clear hK K
          (try simp only [Act.put, aT, aZ, aS])
          refine wpAnyH_done (by kernel_rfl) ?_ _
          exact ⟨rfl, _, _, _, _, _, _, _, _, _, _, _, _, _, _, _, _, _, _, _, rfl, hU_⟩
        exact AllReadyH.nil
      exact AllReadyH.nil
    · obtain rfl : k = n := by omega
      have c15 := hU.j5.at_ 15 (.slice oa k oc) rfl
      have hme : mirL K.sh k = (mirJ K).sh := by rw [hln, mirL_end]; rfl
      rw [hme] at hU
      have HU := hidMk hU
      clear hU hln hme
      go_wp2_with fail
      exact mipart7 HT.out HSO.out HFO.out HU.out
end Go.Proofs.Ytbebofmpimfbgaa
