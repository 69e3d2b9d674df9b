/- Part 17 of the proof: BeF. -/
import Derived.IntWalk
import Derived.Test.YtbebofmpimfbgaaB16
/- The law ReedBetter: the shifts. -/
namespace Go.Proofs.Ytbebofmpimfbgaa
set_option linter.all false
open Go.RowKit
/-- So far the shifts are known better. -/
def Gn (sh L : List R2) (k : Nat) : Prop := L.length = sh.length ∧ ∀ (i : Nat) r, sh[i]? = some r → ∃ s, L[i]? = some s ∧ (i < k → Nr r s) ∧ (k ≤ i → s = r)
theorem Gn.start (sh : List R2) : Gn sh sh 0 := ⟨rfl, fun i r h => ⟨r, h, fun h => by omega, fun _ => rfl⟩⟩
theorem Gn.set {sh L : List R2} {k : Nat} (h : Gn sh L k) {r x : R2} (hr : sh[k]? = some r) (hn : Nr r x) : Gn sh (L.set k x) (k + 1) := by
  refine ⟨by simpa using h.1, fun i q hq => ?_⟩
  obtain ⟨s, h1, h2, h3⟩ := h.2 i q hq
  have hk : k < sh.length := (List.getElem?_eq_some_iff.1 hr).1
  by_cases e : i = k
  · subst e
    rw [hr] at hq
    cases hq
    exact ⟨x, by rw [List.getElem?_set_self (by rw [h.1]; exact hk)], fun _ => hn, fun h => by omega⟩
  · exact ⟨s, by rw [List.getElem?_set_ne (by omega)]; exact h1, fun hlt => h2 (by omega), fun hle => h3 (by omega)⟩
theorem Gn.done {sh L : List R2} (h : Gn sh L sh.length) : NarL sh L := NarL.of _ _ h.1 fun k s s' h1 h2 => by
  obtain ⟨q, e1, e2, _⟩ := h.2 k s h1
  rw [h2] at e1
  cases e1
  exact e2 (List.getElem?_eq_some_iff.1 h1).1
theorem own_at2 {w : World} {B e n c q o k : Nat} {L : List R2} {r : R2} (h : w.ownsRow B e 2 (.slice (some ⟨q, o, none⟩) n c) n (rgCells L)) (hL : L.length = n) (hk : k < n) (hr : L[k]? = some r) : w.cell? ⟨q, o + k * 2, none⟩ = some (.int .i64 r.1) ∧ w.cell? ⟨q, o + k * 2 + 1, none⟩ = some (.int .i64 r.2) := by
  obtain ⟨q', o', r', e, _, _, hr', h1, h2, _⟩ := own_at h hL hk
  cases e
  rw [hr] at hr'
  cases hr'
  exact ⟨h1, h2⟩
set_option maxHeartbeats 4000000 in
set_option maxRecDepth 1000000 in
theorem bepart7 {w0 w : World} {B g4 g5 b : Nat} {K X : Jb} {a oa : Option Addr} {n c oc : Nat} {u0 u1 u2 u6 u7 u8 u9 A0 A1 A2 A3 A4 A5 A6 A7 A8 A9 Aa Ab Ac Ad Ae Af Ag Ah Ai Aj Ak Al Am An Ao Ap Aq Ar As At Au Av Aw Ax Ay Az C0 C1 C2 C3 C4 C5 C6 C7 C8 C9 Ca Cb Cc Cd Ce Cf Cg Ch Ci Cj Ck Cl Cm Cn Co Cp Cq Cr Cs Ct Cu Cv Cw Cx Cy Cz D0 D1 D2 D3 D4 D5 D6 D7 D8 D9 Da Db Dc Dd De Df Dg Dh Di Dj Dk Dl Dm Dn Do Dp Dq Dr Ds Dt Du Dv Dw Dx Dy Dz E0 E1 E2 E3 E4 E5 E6 E7 E8 E9 Ea Eb Ec Ed Ee Ef Eg Eh Ei Ej Ek El Em En Eo Ep Eq Er Es Et Eu Ev Ew Ex Ey Ez F0 F1 F2 F3 F4 F5 F6 F7 F8 F9 Fa Fb Fc Fd Fe Ff Fg Fh Fi Fj Fk Fl Fm Fn Fo Fp Fq Fr Fs Ft Fu Fv Fw Fx Fy Fz L0 L1 L2 L3 L4 L5 L6 L7 L8 L9 La Lb Lc Ld Le Lf Lg Lh Li Lj Lk Ll Lm Ln Lo Lp Lq Lr Ls Lt Lu Lv Lw Lx Ly Lz M0 M1 M2 M3 M4 M5 M6 M7 M8 M9 Ma Mb Mc Md Me Mf Mg Mh Mi Mj Mk Ml Mm Mn Mo Mp Mq Mr Ms Mt Mu Mv Mw Mx My Mz N0 : Value} (htun : TunOK) (hshort : ShortOK) (hfine : FineOK) (hs : US w0 B g4 g5 b K X a n c oa oc K.sh w) (hnx : NX K X) : Code.wp Try.prog berest7 (QBE w0) ⟨#[u0, u1, u2, (.pointer (some ⟨b, 0, none⟩)), (.pointer (some ⟨g4, 0, none⟩)), (.pointer (some ⟨g5, 0, none⟩)), u6, u7, u8, u9, A0, A1, A2, A3, A4, A5, A6, A7, A8, A9, Aa, Ab, Ac, Ad, Ae, Af, Ag, Ah, Ai, Aj, Ak, Al, Am, An, Ao, Ap, Aq, Ar, As, At, Au, Av, Aw, Ax, Ay, Az, C0, C1, C2, C3, C4, C5, C6, C7, C8, C9, Ca, Cb, Cc, Cd, Ce, Cf, Cg, Ch, Ci, Cj, Ck, Cl, Cm, Cn, Co, Cp, Cq, Cr, Cs, Ct, Cu, Cv, Cw, Cx, Cy, Cz, D0, D1, D2, D3, D4, D5, D6, D7, D8, D9, Da, Db, Dc, Dd, De, Df, Dg, Dh, Di, Dj, Dk, Dl, Dm, Dn, Do, Dp, Dq, Dr, Ds, Dt, Du, Dv, Dw, Dx, Dy, Dz, E0, E1, E2, E3, E4, E5, E6, E7, E8, E9, Ea, Eb, Ec, Ed, Ee, Ef, Eg, Eh, Ei, Ej, Ek, El, Em, En, Eo, Ep, Eq, Er, Es, Et, Eu, Ev, Ew, Ex, Ey, Ez, F0, F1, F2, F3, F4, F5, F6, F7, F8, F9, Fa, Fb, Fc, Fd, Fe, Ff, Fg, Fh, Fi, Fj, Fk, Fl, Fm, Fn, Fo, Fp, Fq, Fr, Fs, Ft, Fu, Fv, Fw, Fx, Fy, Fz, L0, L1, L2, L3, L4, L5, L6, L7, L8, L9, La, Lb, Lc, Ld, Le, Lf, Lg, Lh, Li, Lj, Lk, Ll, Lm, Ln, Lo, Lp, Lq, Lr, Ls, Lt, Lu, Lv, Lw, Lx, Ly, Lz, M0, M1, M2, M3, M4, M5, M6, M7, M8, M9, Ma, Mb, Mc, Md, Me, Mf, Mg, Mh, Mi, Mj, Mk, Ml, Mm, Mn, Mo, Mp, Mq, Mr, Ms, Mt, Mu, Mv, Mw, Mx, My, Mz, N0], []⟩ w := by
  rw [berest7_eq]
  have HT := hidMk htun
  have HSO := hidMk hshort
  have HFO := hidMk hfine
  clear htun hshort hfine
  have HS := hidMk hs
  have HNX := hidMk hnx
  clear hs hnx
  go_wp2_with fail
  go_loopw [6] (fun iv wr => ∃ (k : Nat) (L : List R2), k ≤ n ∧ iv = .int .i64 k ∧ Hid (Gn K.sh L k) ∧ US w0 B g4 g5 b K X a n c oa oc L wr) (fun iv _ => n - (intOf iv).toNat)
  case atStart => exact ⟨0, K.sh, Nat.zero_le _, rfl, hidMk (Gn.start _), HS.out⟩
  case round =>
    obtain ⟨k, L, hk, rfl, HG, hU⟩ := hrel
    have hln := hU.hn
    have hn4 : n ≤ 4 := by have h4 := (check_full hU.ck).len; omega
    by_cases hkn : k < n
    · obtain ⟨q, o, r', e5, hq1, hq2, hr', -, -, -⟩ := own_at hU.own hU.ln hkn
      subst e5
      obtain ⟨r, hr⟩ : ∃ r, K.sh[k]? = some r := ⟨_, List.getElem?_eq_getElem (by omega)⟩
      obtain ⟨s_, hs1, -, hs3⟩ := HG.out.2 k r hr
      have hLk : L[k]? = some r := by rw [← hs3 (Nat.le_refl _)]; exact hs1
      have hrb := (check_full hU.ck).sh r (List.mem_of_getElem? hr)
      have hki : (0 : Int) ≤ (k : Int) := by omega
      have hki2 : (k : Int) < (n : Int) := by omega
      have hq5 : q ≠ g5 := by
        rintro rfl
        have a1 := hU.j5
        rcases hU.own.2 with ⟨e', _⟩ | ⟨g, cap, cur, hv, _, hg, _⟩
        · cases e'
        · cases hv
          unfold Bk at a1
          rw [hg] at a1
          injection a1 with a1
          injection a1 with _ a2
          exact absurd a2 (by decide)
      have c15 := hU.j5.at_ 15 (.slice (some ⟨q, o, none⟩) n oc) rfl
      have HR := hidMk hr
      have HLN := hidMk hln
      clear hr' hr hq1 hq2 hln hs1 hs3
      go_wp2_with fail
      clear c15
      refine region_via (R := fun a_ e a' w' => e = .normal ∧ ∃ (v117 v118 v119 v120 v121 v122 v123 v124 v125 v126 v127 v128 v129 v130 v131 v132 v133 v134 : Value) (xx yy : Int), a' = ((((((((((((((((((a_.put (some 117) v117).put (some 118) v118).put (some 119) v119).put (some 120) v120).put (some 121) v121).put (some 122) v122).put (some 123) v123).put (some 124) v124).put (some 125) v125).put (some 126) v126).put (some 127) v127).put (some 128) v128).put (some 129) v129).put (some 130) v130).put (some 131) v131).put (some 132) v132).put (some 133) v133).put (some 134) v134) ∧ (r.1 ≤ xx ∧ xx ≤ yy ∧ yy ≤ r.2) ∧ US w0 B g4 g5 b K X a n c (some ⟨q, o, none⟩) oc (L.set k (xx, yy)) w') ?_ ?_
      rotate_left
      · rintro e a' w' ⟨rfl, v117, v118, v119, v120, v121, v122, v123, v124, v125, v126, v127, v128, v129, v130, v131, v132, v133, v134, xx, yy, rfl, hxy, hs2⟩
        simp only [Act.put, aT, aZ, aS]
        have HS2 := hidMk hs2
        have HG2 := hidMk (HG.out.set HR.out (x := (xx, yy)) hxy)
        clear hs2 hU
        go_wp2_with fail
        go_roundw
        case rel => exact ⟨k + 1, _, by omega, by go_num, HG2.out, HS2.out⟩
        case measure => simp [intOf]; omega
      have hU0 := hU.next (Below.refl _ _).drew
      have hS := hU0.j5
      clear hU
      refine wp_region_held_drew (S := fun w' => Bk w' g5 30 (jobC X (.slice (some ⟨q, o, none⟩) n oc))) (by kernel_rfl) hS (fun hS0 => ?_)
      clear hS0
      have hU := hU0
      clear hU0
      generalize wr.drew = wd at hS hU ⊢

      refine wpAnyH_take (i := 0) (oi := ⟨some 117, .fieldAddr 30 (.tmp 5) 2, 0, "outright.go:376", #[], none⟩) (v := ?_) rfl (by kernel_rfl) (by kernel_rfl) (by kernel_rfl) (fun _ _ _ h => by cases h.1) (.inl ⟨by rfl, ?_⟩) (by assumption) ?_
      rotate_left
      · (intro w' hSw; (try dsimp only at hSw); skip; go_simp <;> with_reducible rfl)
      (try simp only [Act.put, aT, aZ, aS])
      refine wpAnyH_take (i := 1) (oi := ⟨some 118, .load 28 (.tmp 117), 28, "outright.go:376", #[⟨0, .data⟩], none⟩) (v := ?_) rfl (by kernel_rfl) (by kernel_rfl) (by kernel_rfl) (fun _ _ _ h => by cases h.1) (.inl ⟨by rfl, ?_⟩) (by assumption) ?_
      rotate_left
      · (intro w' hSw; (try dsimp only at hSw); (have t5 := hSw.at_ 15 (.slice (some ⟨q, o, none⟩) n oc) rfl); go_simp <;> with_reducible rfl)
      (try simp only [Act.put, aT, aZ, aS])
      refine wpAnyH_take (i := 2) (oi := ⟨some 119, .move (.tmp 6), 3, "outright.go:376", #[], none⟩) (v := ?_) rfl (by kernel_rfl) (by kernel_rfl) (by kernel_rfl) (fun _ _ _ h => by cases h.1) (.inl ⟨by rfl, ?_⟩) (by assumption) ?_
      rotate_left
      · (intro w' hSw; (try dsimp only at hSw); skip; go_simp <;> with_reducible rfl)
      (try simp only [Act.put, aT, aZ, aS])
      refine wpAnyH_take (i := 3) (oi := ⟨some 120, .move (.tmp 3), 34, "outright.go:376", #[], none⟩) (v := ?_) rfl (by kernel_rfl) (by kernel_rfl) (by kernel_rfl) (fun _ _ _ h => by cases h.1) (.inl ⟨by rfl, ?_⟩) (by assumption) ?_
      rotate_left
      · (intro w' hSw; (try dsimp only at hSw); skip; go_simp <;> with_reducible rfl)
      (try simp only [Act.put, aT, aZ, aS])
      refine wpAnyH_take (i := 4) (oi := ⟨some 121, .fieldAddr 30 (.tmp 5) 2, 0, "outright.go:376", #[], none⟩) (v := ?_) rfl (by kernel_rfl) (by kernel_rfl) (by kernel_rfl) (fun _ _ _ h => by cases h.1) (.inl ⟨by rfl, ?_⟩) (by assumption) ?_
      rotate_left
      · (intro w' hSw; (try dsimp only at hSw); skip; go_simp <;> with_reducible rfl)
      (try simp only [Act.put, aT, aZ, aS])
      refine wpAnyH_take (i := 5) (oi := ⟨some 122, .load 28 (.tmp 121), 28, "outright.go:376", #[⟨4, .data⟩], none⟩) (v := ?_) rfl (by kernel_rfl) (by kernel_rfl) (by kernel_rfl) (fun _ _ _ h => by cases h.1) (.inl ⟨by rfl, ?_⟩) (by assumption) ?_
      rotate_left
      · (intro w' hSw; (try dsimp only at hSw); (have t5 := hSw.at_ 15 (.slice (some ⟨q, o, none⟩) n oc) rfl); go_simp <;> with_reducible rfl)
      (try simp only [Act.put, aT, aZ, aS])
      refine wpAnyH_take (i := 6) (oi := ⟨some 123, .move (.tmp 6), 3, "outright.go:376", #[], none⟩) (v := ?_) rfl (by kernel_rfl) (by kernel_rfl) (by kernel_rfl) (fun _ _ _ h => by cases h.1) (.inl ⟨by rfl, ?_⟩) (by assumption) ?_
      rotate_left
      · (intro w' hSw; (try dsimp only at hSw); skip; go_simp <;> with_reducible rfl)
      (try simp only [Act.put, aT, aZ, aS])
      refine wpAnyH_take (i := 7) (oi := ⟨some 124, .indexAddr 28 (.tmp 122) (.tmp 123), 0, "outright.go:376", #[⟨5, .data⟩, ⟨6, .data⟩], none⟩) (v := ?_) rfl (by kernel_rfl) (by kernel_rfl) (by kernel_rfl) (fun _ _ _ h => by cases h.1) (.inl ⟨by rfl, ?_⟩) (by assumption) ?_
      rotate_left
      · (intro w' hSw; (try dsimp only at hSw); skip; go_simp <;> with_reducible rfl)
      (try simp only [Act.put, aT, aZ, aS])
      refine wpAnyH_take (i := 9) (oi := ⟨some 126, .move (.tmp 3), 34, "outright.go:376", #[], none⟩) (v := ?_) rfl (by kernel_rfl) (by kernel_rfl) (by kernel_rfl) (fun _ _ _ h => by cases h.1) (.inl ⟨by rfl, ?_⟩) (by assumption) ?_
      rotate_left
      · (intro w' hSw; (try dsimp only at hSw); skip; go_simp <;> with_reducible rfl)
      (try simp only [Act.put, aT, aZ, aS])
      refine wpAnyH_take (i := 10) (oi := ⟨some 127, .fieldAddr 30 (.tmp 5) 2, 0, "outright.go:376", #[], none⟩) (v := ?_) rfl (by kernel_rfl) (by kernel_rfl) (by kernel_rfl) (fun _ _ _ h => by cases h.1) (.inl ⟨by rfl, ?_⟩) (by assumption) ?_
      rotate_left
      · (intro w' hSw; (try dsimp only at hSw); skip; go_simp <;> with_reducible rfl)
      (try simp only [Act.put, aT, aZ, aS])
      refine wpAnyH_take (i := 11) (oi := ⟨some 128, .load 28 (.tmp 127), 28, "outright.go:376", #[⟨10, .data⟩], none⟩) (v := ?_) rfl (by kernel_rfl) (by kernel_rfl) (by kernel_rfl) (fun _ _ _ h => by cases h.1) (.inl ⟨by rfl, ?_⟩) (by assumption) ?_
      rotate_left
      · (intro w' hSw; (try dsimp only at hSw); (have t5 := hSw.at_ 15 (.slice (some ⟨q, o, none⟩) n oc) rfl); go_simp <;> with_reducible rfl)
      (try simp only [Act.put, aT, aZ, aS])
      refine wpAnyH_take (i := 12) (oi := ⟨some 129, .move (.tmp 6), 3, "outright.go:376", #[], none⟩) (v := ?_) rfl (by kernel_rfl) (by kernel_rfl) (by kernel_rfl) (fun _ _ _ h => by cases h.1) (.inl ⟨by rfl, ?_⟩) (by assumption) ?_
      rotate_left
      · (intro w' hSw; (try dsimp only at hSw); skip; go_simp <;> with_reducible rfl)
      (try simp only [Act.put, aT, aZ, aS])
      refine wpAnyH_take (i := 13) (oi := ⟨some 130, .indexAddr 28 (.tmp 128) (.tmp 129), 0, "outright.go:376", #[⟨11, .data⟩, ⟨12, .data⟩], none⟩) (v := ?_) rfl (by kernel_rfl) (by kernel_rfl) (by kernel_rfl) (fun _ _ _ h => by cases h.1) (.inl ⟨by rfl, ?_⟩) (by assumption) ?_
      rotate_left
      · (intro w' hSw; (try dsimp only at hSw); skip; go_simp <;> with_reducible rfl)
      (try simp only [Act.put, aT, aZ, aS])
      refine wpAnyH_ready (rs := [8, 14]) (by kernel_rfl) (by simp) ?_
      refine AllReadyH.cons (o := ⟨some 125, .load 23 (.tmp 124), 23, "outright.go:376", #[⟨7, .data⟩], none⟩) rfl (fun K hK => ?_) ?_
      · have hC_ := own_at2 hU.own (by exact hU.ln) hkn hLk
        have y1 := hC_.1
        have y2 := hC_.2
        go_simp
        clear y1 y2 hC_
        refine hK.out _ _ hS (fun _ => ?_)
        clear hK K
        (try simp only [Act.put, aT, aZ, aS])
        refine wpAnyH_ready (rs := [14]) (by kernel_rfl) (by simp) ?_
        refine AllReadyH.cons (o := ⟨some 131, .load 23 (.tmp 130), 23, "outright.go:376", #[⟨13, .data⟩], none⟩) rfl (fun K hK => ?_) ?_
        · have hC_ := own_at2 hU.own (by exact hU.ln) hkn hLk
          have y1 := hC_.1
          have y2 := hC_.2
          go_simp
          clear y1 y2 hC_
          refine hK.out _ _ hS (fun _ => ?_)
          clear hK K
          (try simp only [Act.put, aT, aZ, aS])
          refine wpAnyH_ready (rs := [15]) (by kernel_rfl) (by simp) ?_
          refine AllReadyH.cons (o := ⟨some 132, .call { callee := .value (.func 43), args := #[.tmp 126, .tmp 131], argTypes := #[34, 23] }, 3, "outright.go:376", #[⟨9, .data⟩, ⟨14, .data⟩], none⟩) rfl (fun K hK => ?_) ?_
          · go_simp
            go_at_call 43
            refine (innerP b r.1 r.2 _ hU.pt (by omega)).mono ?_
            rintro e wI ⟨nn, rfl, hnn, hk, hp⟩
            have hU_ := hU.pot hk hp
            clear hS hU hk hp
            have hU := hU_
            clear hU_
            have hS := hU.j5
            go_wp2_with fail
            refine hK.out _ _ hS (fun _ => ?_)
            clear hK K
            (try simp only [Act.put, aT, aZ, aS])
            refine wpAnyH_ready (rs := [16]) (by kernel_rfl) (by simp) ?_
            refine AllReadyH.cons (o := ⟨some 133, .call { callee := .value (.func 42), args := #[.tmp 120, .tmp 125, .tmp 132], argTypes := #[34, 23, 3] }, 23, "outright.go:376", #[⟨3, .data⟩, ⟨8, .data⟩, ⟨15, .data⟩, ⟨15, .chain⟩], none⟩) rfl (fun K hK => ?_) ?_
            · go_simp
              go_at_call 42
              refine (narrowP b r.1 r.2 nn _ hU.pt (by omega)).mono ?_
              rintro e wN ⟨xx, yy, rfl, hxy, hk, hp⟩
              have hU_ := hU.pot hk hp
              clear hS hU hk hp
              have hU := hU_
              clear hU_
              have hS := hU.j5
              go_wp2_with fail
              refine hK.out _ _ hS (fun _ => ?_)
              clear hK K
              (try simp only [Act.put, aT, aZ, aS])
              refine wpAnyH_take (i := 17) (oi := ⟨some 134, .indexAddr 28 (.tmp 118) (.tmp 119), 0, "outright.go:376", #[⟨1, .data⟩, ⟨2, .data⟩, ⟨0, .phase⟩, ⟨1, .phase⟩, ⟨2, .phase⟩, ⟨3, .phase⟩, ⟨4, .phase⟩, ⟨5, .phase⟩, ⟨6, .phase⟩, ⟨7, .phase⟩, ⟨8, .phase⟩, ⟨9, .phase⟩, ⟨10, .phase⟩, ⟨11, .phase⟩, ⟨12, .phase⟩, ⟨13, .phase⟩, ⟨14, .phase⟩, ⟨15, .phase⟩, ⟨16, .phase⟩], none⟩) (v := ?_) rfl (by kernel_rfl) (by kernel_rfl) (by kernel_rfl) (fun _ _ _ h => by cases h.1) (.inl ⟨by rfl, ?_⟩) (by assumption) ?_
              rotate_left
              · (intro w' hSw; (try dsimp only at hSw); skip; go_simp <;> with_reducible rfl)
              (try simp only [Act.put, aT, aZ, aS])
              refine wpAnyH_ready (rs := [18]) (by kernel_rfl) (by simp) ?_
              refine AllReadyH.cons (o := ⟨none, .store 23 (.tmp 134) (.tmp 133), 0, "outright.go:376", #[⟨17, .data⟩, ⟨16, .data⟩, ⟨16, .chain⟩, ⟨0, .phase⟩, ⟨1, .phase⟩, ⟨2, .phase⟩, ⟨3, .phase⟩, ⟨4, .phase⟩, ⟨5, .phase⟩, ⟨6, .phase⟩, ⟨7, .phase⟩, ⟨8, .phase⟩, ⟨9, .phase⟩, ⟨10, .phase⟩, ⟨11, .phase⟩, ⟨12, .phase⟩, ⟨13, .phase⟩, ⟨14, .phase⟩, ⟨15, .phase⟩, ⟨16, .phase⟩], none⟩) rfl (fun K hK => ?_) ?_
              · obtain ⟨_, _, r', ee, hq1, hq2, hr', y1, y2, fz⟩ := own_at hU.own (by exact hU.ln) hkn
                cases ee
                have y3 := fz (o + k * 2)
                have y4 := fz (o + k * 2 + 1)
                clear fz hr'
                go_simp
                have hO_ := own_set hU.own (by exact hU.ln) hkn xx yy
                have hqg4 : g4 ≠ q := by have := hU.lt; omega
                have h4_ := ((hU.j4.other (p := ⟨q, o + k * 2, none⟩) hqg4 (.int .i64 xx)).other (p := ⟨q, o + k * 2 + 1, none⟩) hqg4 (.int .i64 yy))
                have h5_ := ((hU.j5.other (p := ⟨q, o + k * 2, none⟩) hq5.symm (.int .i64 xx)).other (p := ⟨q, o + k * 2 + 1, none⟩) hq5.symm (.int .i64 yy))
                have hU_ := hU.set2 (o + k * 2) (o + k * 2 + 1) hO_ h4_ h5_ hq1 (by rw [List.length_set]; exact hU.ln)
                clear y1 y2 y3 y4
                refine hK.out _ _ h5_ (fun _ => ?_)
                clear hS hU h4_ h5_
                clear hK K
                (try simp only [Act.put, aT, aZ, aS])
                refine wpAnyH_done (by kernel_rfl) ?_ _
                exact ⟨rfl, _, _, _, _, _, _, _, _, _, _, _, _, _, _, _, _, _, _, xx, yy, rfl, (by omega), hU_⟩
              exact AllReadyH.nil
            exact AllReadyH.nil
          exact AllReadyH.nil
        exact AllReadyH.nil
      refine AllReadyH.cons (o := ⟨some 131, .load 23 (.tmp 130), 23, "outright.go:376", #[⟨13, .data⟩], none⟩) rfl (fun K hK => ?_) ?_
      · have hC_ := own_at2 hU.own (by exact hU.ln) hkn hLk
        have y1 := hC_.1
        have y2 := hC_.2
        go_simp
        clear y1 y2 hC_
        refine hK.out _ _ hS (fun _ => ?_)
        clear hK K
        (try simp only [Act.put, aT, aZ, aS])
        refine wpAnyH_ready (rs := [8, 15]) (by kernel_rfl) (by simp) ?_
        refine AllReadyH.cons (o := ⟨some 125, .load 23 (.tmp 124), 23, "outright.go:376", #[⟨7, .data⟩], none⟩) rfl (fun K hK => ?_) ?_
        · have hC_ := own_at2 hU.own (by exact hU.ln) hkn hLk
          have y1 := hC_.1
          have y2 := hC_.2
          go_simp
          clear y1 y2 hC_
          refine hK.out _ _ hS (fun _ => ?_)
          clear hK K
          (try simp only [Act.put, aT, aZ, aS])
          refine wpAnyH_ready (rs := [15]) (by kernel_rfl) (by simp) ?_
          refine AllReadyH.cons (o := ⟨some 132, .call { callee := .value (.func 43), args := #[.tmp 126, .tmp 131], argTypes := #[34, 23] }, 3, "outright.go:376", #[⟨9, .data⟩, ⟨14, .data⟩], none⟩) rfl (fun K hK => ?_) ?_
          · go_simp
            go_at_call 43
            refine (innerP b r.1 r.2 _ hU.pt (by omega)).mono ?_
            rintro e wI ⟨nn, rfl, hnn, hk, hp⟩
            have hU_ := hU.pot hk hp
            clear hS hU hk hp
            have hU := hU_
            clear hU_
            have hS := hU.j5
            go_wp2_with fail
            refine hK.out _ _ hS (fun _ => ?_)
            clear hK K
            (try simp only [Act.put, aT, aZ, aS])
            refine wpAnyH_ready (rs := [16]) (by kernel_rfl) (by simp) ?_
            refine AllReadyH.cons (o := ⟨some 133, .call { callee := .value (.func 42), args := #[.tmp 120, .tmp 125, .tmp 132], argTypes := #[34, 23, 3] }, 23, "outright.go:376", #[⟨3, .data⟩, ⟨8, .data⟩, ⟨15, .data⟩, ⟨15, .chain⟩], none⟩) rfl (fun K hK => ?_) ?_
            · go_simp
              go_at_call 42
              refine (narrowP b r.1 r.2 nn _ hU.pt (by omega)).mono ?_
              rintro e wN ⟨xx, yy, rfl, hxy, hk, hp⟩
              have hU_ := hU.pot hk hp
              clear hS hU hk hp
              have hU := hU_
              clear hU_
              have hS := hU.j5
              go_wp2_with fail
              refine hK.out _ _ hS (fun _ => ?_)
              clear hK K
              (try simp only [Act.put, aT, aZ, aS])
              refine wpAnyH_take (i := 17) (oi := ⟨some 134, .indexAddr 28 (.tmp 118) (.tmp 119), 0, "outright.go:376", #[⟨1, .data⟩, ⟨2, .data⟩, ⟨0, .phase⟩, ⟨1, .phase⟩, ⟨2, .phase⟩, ⟨3, .phase⟩, ⟨4, .phase⟩, ⟨5, .phase⟩, ⟨6, .phase⟩, ⟨7, .phase⟩, ⟨8, .phase⟩, ⟨9, .phase⟩, ⟨10, .phase⟩, ⟨11, .phase⟩, ⟨12, .phase⟩, ⟨13, .phase⟩, ⟨14, .phase⟩, ⟨15, .phase⟩, ⟨16, .phase⟩], none⟩) (v := ?_) rfl (by kernel_rfl) (by kernel_rfl) (by kernel_rfl) (fun _ _ _ h => by cases h.1) (.inl ⟨by rfl, ?_⟩) (by assumption) ?_
              rotate_left
              · (intro w' hSw; (try dsimp only at hSw); skip; go_simp <;> with_reducible rfl)
              (try simp only [Act.put, aT, aZ, aS])
              refine wpAnyH_ready (rs := [18]) (by kernel_rfl) (by simp) ?_
              refine AllReadyH.cons (o := ⟨none, .store 23 (.tmp 134) (.tmp 133), 0, "outright.go:376", #[⟨17, .data⟩, ⟨16, .data⟩, ⟨16, .chain⟩, ⟨0, .phase⟩, ⟨1, .phase⟩, ⟨2, .phase⟩, ⟨3, .phase⟩, ⟨4, .phase⟩, ⟨5, .phase⟩, ⟨6, .phase⟩, ⟨7, .phase⟩, ⟨8, .phase⟩, ⟨9, .phase⟩, ⟨10, .phase⟩, ⟨11, .phase⟩, ⟨12, .phase⟩, ⟨13, .phase⟩, ⟨14, .phase⟩, ⟨15, .phase⟩, ⟨16, .phase⟩], none⟩) rfl (fun K hK => ?_) ?_
              · obtain ⟨_, _, r', ee, hq1, hq2, hr', y1, y2, fz⟩ := own_at hU.own (by exact hU.ln) hkn
                cases ee
                have y3 := fz (o + k * 2)
                have y4 := fz (o + k * 2 + 1)
                clear fz hr'
                go_simp
                have hO_ := own_set hU.own (by exact hU.ln) hkn xx yy
                have hqg4 : g4 ≠ q := by have := hU.lt; omega
                have h4_ := ((hU.j4.other (p := ⟨q, o + k * 2, none⟩) hqg4 (.int .i64 xx)).other (p := ⟨q, o + k * 2 + 1, none⟩) hqg4 (.int .i64 yy))
                have h5_ := ((hU.j5.other (p := ⟨q, o + k * 2, none⟩) hq5.symm (.int .i64 xx)).other (p := ⟨q, o + k * 2 + 1, none⟩) hq5.symm (.int .i64 yy))
                have hU_ := hU.set2 (o + k * 2) (o + k * 2 + 1) hO_ h4_ h5_ hq1 (by rw [List.length_set]; exact hU.ln)
                clear y1 y2 y3 y4
                refine hK.out _ _ h5_ (fun _ => ?_)
                clear hS hU h4_ h5_
                clear hK K
                (try simp only [Act.put, aT, aZ, aS])
                refine wpAnyH_done (by kernel_rfl) ?_ _
                exact ⟨rfl, _, _, _, _, _, _, _, _, _, _, _, _, _, _, _, _, _, _, xx, yy, rfl, (by omega), hU_⟩
              exact AllReadyH.nil
            exact AllReadyH.nil
          exact AllReadyH.nil
        refine AllReadyH.cons (o := ⟨some 132, .call { callee := .value (.func 43), args := #[.tmp 126, .tmp 131], argTypes := #[34, 23] }, 3, "outright.go:376", #[⟨9, .data⟩, ⟨14, .data⟩], none⟩) rfl (fun K hK => ?_) ?_
        · go_simp
          go_at_call 43
          refine (innerP b r.1 r.2 _ hU.pt (by omega)).mono ?_
          rintro e wI ⟨nn, rfl, hnn, hk, hp⟩
          have hU_ := hU.pot hk hp
          clear hS hU hk hp
          have hU := hU_
          clear hU_
          have hS := hU.j5
          go_wp2_with fail
          refine hK.out _ _ hS (fun _ => ?_)
          clear hK K
          (try simp only [Act.put, aT, aZ, aS])
          refine wpAnyH_ready (rs := [8]) (by kernel_rfl) (by simp) ?_
          refine AllReadyH.cons (o := ⟨some 125, .load 23 (.tmp 124), 23, "outright.go:376", #[⟨7, .data⟩], none⟩) rfl (fun K hK => ?_) ?_
          · have hC_ := own_at2 hU.own (by exact hU.ln) hkn hLk
            have y1 := hC_.1
            have y2 := hC_.2
            go_simp
            clear y1 y2 hC_
            refine hK.out _ _ hS (fun _ => ?_)
            clear hK K
            (try simp only [Act.put, aT, aZ, aS])
            refine wpAnyH_ready (rs := [16]) (by kernel_rfl) (by simp) ?_
            refine AllReadyH.cons (o := ⟨some 133, .call { callee := .value (.func 42), args := #[.tmp 120, .tmp 125, .tmp 132], argTypes := #[34, 23, 3] }, 23, "outright.go:376", #[⟨3, .data⟩, ⟨8, .data⟩, ⟨15, .data⟩, ⟨15, .chain⟩], none⟩) rfl (fun K hK => ?_) ?_
            · go_simp
              go_at_call 42
              refine (narrowP b r.1 r.2 nn _ hU.pt (by omega)).mono ?_
              rintro e wN ⟨xx, yy, rfl, hxy, hk, hp⟩
              have hU_ := hU.pot hk hp
              clear hS hU hk hp
              have hU := hU_
              clear hU_
              have hS := hU.j5
              go_wp2_with fail
              refine hK.out _ _ hS (fun _ => ?_)
              clear hK K
              (try simp only [Act.put, aT, aZ, aS])
              refine wpAnyH_take (i := 17) (oi := ⟨some 134, .indexAddr 28 (.tmp 118) (.tmp 119), 0, "outright.go:376", #[⟨1, .data⟩, ⟨2, .data⟩, ⟨0, .phase⟩, ⟨1, .phase⟩, ⟨2, .phase⟩, ⟨3, .phase⟩, ⟨4, .phase⟩, ⟨5, .phase⟩, ⟨6, .phase⟩, ⟨7, .phase⟩, ⟨8, .phase⟩, ⟨9, .phase⟩, ⟨10, .phase⟩, ⟨11, .phase⟩, ⟨12, .phase⟩, ⟨13, .phase⟩, ⟨14, .phase⟩, ⟨15, .phase⟩, ⟨16, .phase⟩], none⟩) (v := ?_) rfl (by kernel_rfl) (by kernel_rfl) (by kernel_rfl) (fun _ _ _ h => by cases h.1) (.inl ⟨by rfl, ?_⟩) (by assumption) ?_
              rotate_left
              · (intro w' hSw; (try dsimp only at hSw); skip; go_simp <;> with_reducible rfl)
              (try simp only [Act.put, aT, aZ, aS])
              refine wpAnyH_ready (rs := [18]) (by kernel_rfl) (by simp) ?_
              refine AllReadyH.cons (o := ⟨none, .store 23 (.tmp 134) (.tmp 133), 0, "outright.go:376", #[⟨17, .data⟩, ⟨16, .data⟩, ⟨16, .chain⟩, ⟨0, .phase⟩, ⟨1, .phase⟩, ⟨2, .phase⟩, ⟨3, .phase⟩, ⟨4, .phase⟩, ⟨5, .phase⟩, ⟨6, .phase⟩, ⟨7, .phase⟩, ⟨8, .phase⟩, ⟨9, .phase⟩, ⟨10, .phase⟩, ⟨11, .phase⟩, ⟨12, .phase⟩, ⟨13, .phase⟩, ⟨14, .phase⟩, ⟨15, .phase⟩, ⟨16, .phase⟩], none⟩) rfl (fun K hK => ?_) ?_
              · obtain ⟨_, _, r', ee, hq1, hq2, hr', y1, y2, fz⟩ := own_at hU.own (by exact hU.ln) hkn
                cases ee
                have y3 := fz (o + k * 2)
                have y4 := fz (o + k * 2 + 1)
                clear fz hr'
                go_simp
                have hO_ := own_set hU.own (by exact hU.ln) hkn xx yy
                have hqg4 : g4 ≠ q := by have := hU.lt; omega
                have h4_ := ((hU.j4.other (p := ⟨q, o + k * 2, none⟩) hqg4 (.int .i64 xx)).other (p := ⟨q, o + k * 2 + 1, none⟩) hqg4 (.int .i64 yy))
                have h5_ := ((hU.j5.other (p := ⟨q, o + k * 2, none⟩) hq5.symm (.int .i64 xx)).other (p := ⟨q, o + k * 2 + 1, none⟩) hq5.symm (.int .i64 yy))
                have hU_ := hU.set2 (o + k * 2) (o + k * 2 + 1) hO_ h4_ h5_ hq1 (by rw [List.length_set]; exact hU.ln)
                clear y1 y2 y3 y4
                refine hK.out _ _ h5_ (fun _ => ?_)
                clear hS hU h4_ h5_
                clear hK K
                (try simp only [Act.put, aT, aZ, aS])
                refine wpAnyH_done (by kernel_rfl) ?_ _
                exact ⟨rfl, _, _, _, _, _, _, _, _, _, _, _, _, _, _, _, _, _, _, xx, yy, rfl, (by omega), hU_⟩
              exact AllReadyH.nil
            exact AllReadyH.nil
          exact AllReadyH.nil
        exact AllReadyH.nil
      exact AllReadyH.nil
    · obtain rfl : k = n := by omega
      have c15 := hU.j5.at_ 15 (.slice oa k oc) rfl
      have HL := hidMk (Gn.done (by rw [← hln]; exact HG.out))
      have HU := hidMk hU
      clear hU hln
      go_wp2_with fail
      exact bepart8 HT.out HSO.out HFO.out HU.out HNX.out HL.out
end Go.Proofs.Ytbebofmpimfbgaa
