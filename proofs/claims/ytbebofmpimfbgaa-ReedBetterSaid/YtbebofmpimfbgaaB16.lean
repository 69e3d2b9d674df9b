/- Part 16 of the proof: BeE. -/
import Derived.IntWalk
import Derived.Test.YtbebofmpimfbgaaB14
import Derived.Test.YtbebofmpimfbgaaB15
/- The law ReedBetter: the meter. -/
namespace Go.Proofs.Ytbebofmpimfbgaa
set_option linter.all false
open Go.RowKit
theorem own_below {w w' : World} {B e size n : Nat} {v : Value} {xs : List Value} (h : w.ownsRow B e size v n xs) (hb : Below w.heap.size w w') : w'.ownsRow B e size v n xs :=
  h.kept (grown_of_below hb none) (by
    cases hv : v.ownBlock with
    | none => exact .inl rfl
    | some g => exact .inr fun e => by cases e)
/-- What lies about while the second job is made. -/
structure US (w0 : World) (B g4 g5 b : Nat) (K X : Jb) (a : Option Addr) (n c : Nat) (oa : Option Addr) (oc : Nat) (L : List R2) (w : World) : Prop where
  b0 : Below w0.heap.size w0 w
  hb : w0.heap.size ≤ b ∧ w0.heap.size ≤ B
  pt : Pt w b
  j4 : Bk w g4 30 (jobC K (.slice a n c))
  r4 : Rg w B a K.sh
  j5 : Bk w g5 30 (jobC X (.slice oa n oc))
  own : w.ownsRow B 23 2 (.slice oa n oc) n (rgCells L)
  lt : b < B ∧ g4 < B ∧ B ≤ g5 ∧ B ≤ w.heap.size
  hn : n = K.sh.length
  ck : K.check = 0
  ln : L.length = n
section
variable {w0 w w' : World} {B g4 g5 b : Nat} {K X : Jb} {a oa : Option Addr} {n c oc : Nat} {L : List R2}
theorem US.next (h : US w0 B g4 g5 b K X a n c oa oc L w) (hq : Below w.heap.size w w') : US w0 B g4 g5 b K X a n c oa oc L w' := by
  obtain ⟨l1, l2, l3, l4⟩ := h.lt
  exact ⟨h.b0.trans (hq.mono h.b0.size), h.hb, h.pt.below hq h.pt.lt, h.j4.below hq h.j4.lt, h.r4.below (hq.mono l4), h.j5.below hq h.j5.lt, own_below h.own hq, ⟨l1, l2, l3, Nat.le_trans l4 hq.size⟩, h.hn, h.ck, h.ln⟩
end
theorem rgCells_set : ∀ (L : List R2) (k : Nat) (x y : Int), rgCells (L.set k (x, y)) = ((rgCells L).set (k * 2) (.int .i64 x)).set (k * 2 + 1) (.int .i64 y)
  | [], k, x, y => by simp [rgCells]
  | r :: L, 0, x, y => by simp [rgCells]
  | r :: L, k + 1, x, y => by
    have h := rgCells_set L k x y
    rw [List.set_cons_succ]
    simp only [rgCells]
    rw [h, show (k + 1) * 2 = k * 2 + 1 + 1 from by omega]
    simp only [List.set_cons_succ]
theorem own_at {w : World} {B e n c : Nat} {oa : Option Addr} {L : List R2} (h : w.ownsRow B e 2 (.slice oa n c) n (rgCells L)) (hL : L.length = n) {k : Nat} (hk : k < n) : ∃ q o r, oa = some ⟨q, o, none⟩ ∧ B ≤ q ∧ q < w.heap.size ∧ L[k]? = some r ∧ w.cell? ⟨q, o + k * 2, none⟩ = some (.int .i64 r.1) ∧ w.cell? ⟨q, o + k * 2 + 1, none⟩ = some (.int .i64 r.2) ∧ (∀ p : Nat, w.frozen? ⟨q, p, none⟩ = false) := by
  obtain ⟨_, _, e5, -, hrg⟩ := Rg.of_own h
  cases e5
  obtain ⟨q, o, e, hq, h1, h2⟩ := hrg k L[k] (List.getElem?_eq_getElem (by omega))
  refine ⟨q, o, L[k], e, ?_, hq, List.getElem?_eq_getElem (by omega), h1, h2, ?_⟩
  · rcases h.2 with ⟨e', h0⟩ | ⟨g, cap, cur, hv, hB, _⟩
    · omega
    · rw [e] at hv; cases hv; exact hB
  · intro p
    rcases h.2 with ⟨e', h0⟩ | ⟨g, cap, cur, hv, hB, hg, _⟩
    · omega
    · rw [e] at hv
      cases hv
      simp [World.frozen?, hg]
theorem own_set {w : World} {B e n c q o k : Nat} {L : List R2} (h : w.ownsRow B e 2 (.slice (some ⟨q, o, none⟩) n c) n (rgCells L)) (hL : L.length = n) (hk : k < n) (x y : Int) :
    ((w.setCell ⟨q, o + k * 2, none⟩ (.int .i64 x)).setCell ⟨q, o + k * 2 + 1, none⟩ (.int .i64 y)).ownsRow B e 2 (.slice (some ⟨q, o, none⟩) n c) n (rgCells (L.set k (x, y))) := by
  obtain ⟨hl, hh⟩ := h
  refine ⟨by rw [rgCells_len] at hl ⊢; simpa using hl, ?_⟩
  rcases hh with ⟨e', h0⟩ | ⟨g, cap, cur, hv, hB, hg, hnc, hcm, hcs, htk⟩
  · cases e'
  · cases hv
    have hb : Bk w q e cur := hg
    refine .inr ⟨q, c, _, rfl, hB, (hb.put (0 + k * 2) (.int .i64 x)).put (0 + k * 2 + 1) (.int .i64 y), hnc, hcm, by simpa using hcs, ?_⟩
    rw [rgCells_set, ← htk, Nat.zero_add]
    simp only [Array.toList_setIfInBounds, List.take_set]
theorem US.set2 {w0 w : World} {B g4 g5 b : Nat} {K X : Jb} {a oa : Option Addr} {n c oc q : Nat} {L L' : List R2} {v1 v2 : Value} (h : US w0 B g4 g5 b K X a n c oa oc L w) (i j : Nat) (hO : ((w.setCell ⟨q, i, none⟩ v1).setCell ⟨q, j, none⟩ v2).ownsRow B 23 2 (.slice oa n oc) n (rgCells L')) (h4 : Bk ((w.setCell ⟨q, i, none⟩ v1).setCell ⟨q, j, none⟩ v2) g4 30 (jobC K (.slice a n c))) (h5 : Bk ((w.setCell ⟨q, i, none⟩ v1).setCell ⟨q, j, none⟩ v2) g5 30 (jobC X (.slice oa n oc))) (hq : B ≤ q) (hL : L'.length = n) : US w0 B g4 g5 b K X a n c oa oc L' ((w.setCell ⟨q, i, none⟩ v1).setCell ⟨q, j, none⟩ v2) := by
  obtain ⟨l1, l2, l3, l4⟩ := h.lt
  have hb : Below B w ((w.setCell ⟨q, i, none⟩ v1).setCell ⟨q, j, none⟩ v2) := ((Below.refl _ _).setCell (p := ⟨q, i, none⟩) hq _).setCell (p := ⟨q, j, none⟩) hq _
  exact ⟨h.b0.trans (hb.mono h.hb.2), h.hb, h.pt.below hb l1, h4, h.r4.below hb, h5, hO, ⟨l1, l2, l3, Nat.le_trans l4 hb.size⟩, h.hn, h.ck, hL⟩
theorem US.set5 {w0 w : World} {B g4 g5 b : Nat} {K X : Jb} {a oa : Option Addr} {n c oc : Nat} {L : List R2} (h : US w0 B g4 g5 b K X a n c oa oc L w) (i : Nat) (v : Value) (X' : Jb) (hx : (jobC X (.slice oa n oc)).setIfInBounds i v = (jobC X' (.slice oa n oc))) : US w0 B g4 g5 b K X' a n c oa oc L (w.setCell ⟨g5, i, none⟩ v) := by
  obtain ⟨l1, l2, l3, l4⟩ := h.lt
  have hb : Below B w (w.setCell ⟨g5, i, none⟩ v) := (Below.refl _ _).setCell (p := ⟨g5, i, none⟩) l3 _
  refine ⟨h.b0.trans (hb.mono h.hb.2), h.hb, h.pt.below hb l1, h.j4.below hb l2, h.r4.below hb, by rw [← hx]; exact h.j5.put i v, ?_, ⟨l1, l2, l3, Nat.le_trans l4 hb.size⟩, h.hn, h.ck, h.ln⟩
  refine h.own.kept (grownBy_setCellA w g5 i v) ?_
  rcases h.own.2 with ⟨e', _⟩ | ⟨g, cap, cur, hv, _, hg, _⟩
  · rw [e']; exact .inl rfl
  · rw [hv]
    refine .inr fun e => ?_
    injection e with e
    have e2 : g = g5 := e
    subst e2
    have a1 := h.j5
    unfold Bk at a1
    rw [hg] at a1
    injection a1 with a1
    injection a1 with _ a2
    exact absurd a2 (by decide)
theorem Pt.ne {w : World} {b g : Nat} {t : TypeId} {cs : Array Value} (hp : Pt w b) (h : Bk w g t cs) (hs : cs.size ≠ 1) : g ≠ b := by
  rintro rfl
  obtain ⟨t', s, hb⟩ := hp
  unfold Bk at h hb
  rw [h] at hb
  injection hb with hb
  injection hb with hb
  rw [hb] at hs
  exact hs rfl
theorem Rg.pbB {w w' : World} {b B : Nat} {a : Option Addr} {l : List R2} (h : Rg w B a l) (hB : B ≤ w.heap.size) (hp : Pt w b) (hk : PB b w.heap.size w w') : Rg w' B a l := fun k r hr => by
  obtain ⟨q, off, e, hb, h1, h2⟩ := h k r hr
  have hne : q ≠ b := by
    rintro rfl
    obtain ⟨t', s, hb'⟩ := hp
    have e0 : w.cell? ⟨q, off + k * 2, none⟩ = (#[Value.int .u64 s])[off + k * 2]? := cell_of_row w q _ _ _ _ hb'
    rw [e0] at h1
    cases hq : off + k * 2 with
    | zero => rw [hq] at h1; simp at h1
    | succ m => rw [hq] at h1; simp at h1
  have e2 : w'.heap[q]? = w.heap[q]? := hk.heap q (by omega) hne
  exact ⟨q, off, e, hb, (World.cell?_of_block (a := ⟨q, off + k * 2, none⟩) e2).trans h1, (World.cell?_of_block (a := ⟨q, off + k * 2 + 1, none⟩) e2).trans h2⟩
theorem US.pot {w0 w w' : World} {B g4 g5 b : Nat} {K X : Jb} {a oa : Option Addr} {n c oc : Nat} {L : List R2} (h : US w0 B g4 g5 b K X a n c oa oc L w) (hk : PB b w.heap.size w w') (hp : Pt w' b) : US w0 B g4 g5 b K X a n c oa oc L w' := by
  obtain ⟨l1, l2, l3, l4⟩ := h.lt
  have hb : Below w0.heap.size w w' := (hk.mono h.b0.size).toBelow h.hb.1
  exact ⟨h.b0.trans hb, h.hb, hp, h.j4.pb hk h.j4.lt (h.pt.ne h.j4 (by simp [jobC])), h.r4.pbB l4 h.pt hk, h.j5.pb hk h.j5.lt (h.pt.ne h.j5 (by simp [jobC])), own_pb h.own l1 hk, ⟨l1, l2, l3, Nat.le_trans l4 hk.size⟩, h.hn, h.ck, h.ln⟩
/-- Numbers that are known better. -/
structure NX (K X : Jb) : Prop where
  p : Nr (K.p1, K.p2) (X.p1, X.p2)
  t : Nr (K.t1, K.t2) (X.t1, X.t2)
  r : Nr (K.r1, K.r2) (X.r1, X.r2)
  u : Nr (K.u1, K.u2) (X.u1, X.u2)
  d : Nr (K.d1, K.d2) (X.d1, X.d2)
  x : Nr (K.x1, K.x2) (X.x1, X.x2)
  y : Nr (K.y1, K.y2) (X.y1, X.y2)
  le : X.le = K.le
  wi : X.wi = K.wi
set_option maxHeartbeats 4000000 in
set_option maxRecDepth 1000000 in
theorem bepart9 {w0 w : World} {B g4 g5 b : Nat} {K X : Jb} {a oa : Option Addr} {n c oc : Nat} {u0 u1 u2 u6 u7 u8 u9 A0 A1 A2 A3 A4 A5 A6 A7 A8 A9 Aa Ab Ac Ad Ae Af Ag Ah Ai Aj Ak Al Am An Ao Ap Aq Ar As At Au Av Aw Ax Ay Az C0 C1 C2 C3 C4 C5 C6 C7 C8 C9 Ca Cb Cc Cd Ce Cf Cg Ch Ci Cj Ck Cl Cm Cn Co Cp Cq Cr Cs Ct Cu Cv Cw Cx Cy Cz D0 D1 D2 D3 D4 D5 D6 D7 D8 D9 Da Db Dc Dd De Df Dg Dh Di Dj Dk Dl Dm Dn Do Dp Dq Dr Ds Dt Du Dv Dw Dx Dy Dz E0 E1 E2 E3 E4 E5 E6 E7 E8 E9 Ea Eb Ec Ed Ee Ef Eg Eh Ei Ej Ek El Em En Eo Ep Eq Er Es Et Eu Ev Ew Ex Ey Ez F0 F1 F2 F3 F4 F5 F6 F7 F8 F9 Fa Fb Fc Fd Fe Ff Fg Fh Fi Fj Fk Fl Fm Fn Fo Fp Fq Fr Fs Ft Fu Fv Fw Fx Fy Fz L0 L1 L2 L3 L4 L5 L6 L7 L8 L9 La Lb Lc Ld Le Lf Lg Lh Li Lj Lk Ll Lm Ln Lo Lp Lq Lr Ls Lt Lu Lv Lw Lx Ly Lz M0 M1 M2 M3 M4 M5 M6 M7 M8 M9 Ma Mb Mc Md Me Mf Mg Mh Mi Mj Mk Ml Mm Mn Mo Mp Mq Mr Ms Mt Mu Mv Mw Mx My Mz N0 : Value} (htun : TunOK) (hshort : ShortOK) (hfine : FineOK) (hs : US w0 B g4 g5 b K X a n c oa oc X.sh w) (hna : Nar K X) : Code.wp Try.prog berest9 (QBE w0) ⟨#[u0, u1, u2, (.pointer (some ⟨b, 0, none⟩)), (.pointer (some ⟨g4, 0, none⟩)), (.pointer (some ⟨g5, 0, none⟩)), u6, u7, u8, u9, A0, A1, A2, A3, A4, A5, A6, A7, A8, A9, Aa, Ab, Ac, Ad, Ae, Af, Ag, Ah, Ai, Aj, Ak, Al, Am, An, Ao, Ap, Aq, Ar, As, At, Au, Av, Aw, Ax, Ay, Az, C0, C1, C2, C3, C4, C5, C6, C7, C8, C9, Ca, Cb, Cc, Cd, Ce, Cf, Cg, Ch, Ci, Cj, Ck, Cl, Cm, Cn, Co, Cp, Cq, Cr, Cs, Ct, Cu, Cv, Cw, Cx, Cy, Cz, D0, D1, D2, D3, D4, D5, D6, D7, D8, D9, Da, Db, Dc, Dd, De, Df, Dg, Dh, Di, Dj, Dk, Dl, Dm, Dn, Do, Dp, Dq, Dr, Ds, Dt, Du, Dv, Dw, Dx, Dy, Dz, E0, E1, E2, E3, E4, E5, E6, E7, E8, E9, Ea, Eb, Ec, Ed, Ee, Ef, Eg, Eh, Ei, Ej, Ek, El, Em, En, Eo, Ep, Eq, Er, Es, Et, Eu, Ev, Ew, Ex, Ey, Ez, F0, F1, F2, F3, F4, F5, F6, F7, F8, F9, Fa, Fb, Fc, Fd, Fe, Ff, Fg, Fh, Fi, Fj, Fk, Fl, Fm, Fn, Fo, Fp, Fq, Fr, Fs, Ft, Fu, Fv, Fw, Fx, Fy, Fz, L0, L1, L2, L3, L4, L5, L6, L7, L8, L9, La, Lb, Lc, Ld, Le, Lf, Lg, Lh, Li, Lj, Lk, Ll, Lm, Ln, Lo, Lp, Lq, Lr, Ls, Lt, Lu, Lv, Lw, Lx, Ly, Lz, M0, M1, M2, M3, M4, M5, M6, M7, M8, M9, Ma, Mb, Mc, Md, Me, Mf, Mg, Mh, Mi, Mj, Mk, Ml, Mm, Mn, Mo, Mp, Mq, Mr, Ms, Mt, Mu, Mv, Mw, Mx, My, Mz, N0], []⟩ w := by
  rw [berest9_eq]
  have HT := hidMk htun
  have HSO := hidMk hshort
  have HFO := hidMk hfine
  clear htun hshort hfine
  have HS := hidMk hs
  have HNA := hidMk hna
  clear hs hna
  go_wp2_with fail
  refine (strokesN_any 3 (by decide) b _ HS.out.pt).mono ?_
  rintro e w2 ⟨la, ln, lc, l, rfl, hln, hl3, h12, his, hk, hp2⟩
  have hu := HS.out.pot hk hp2
  obtain ⟨l1, l2, l3, l4⟩ := hu.lt
  obtain ⟨_, _, e5, -, hrg5⟩ := Rg.of_own hu.own
  cases e5
  have HU := hidMk hu
  have HI := hidMk his
  have H12 := hidMk h12
  have HG := hidMk hrg5
  have H4 := hidMk (show l.length ≤ 4 by omega)
  subst hln
  clear hu hk hp2 his h12 hrg5 hl3
  go_wp2_with fail
  exact bepart10 HT.out HSO.out HFO.out ⟨HU.out.b0, HU.out.j4, HU.out.r4.hi l4, HU.out.j5, HG.out, HI.out, HU.out.ck, HNA.out, HU.out.hn, H12.out, H4.out⟩
set_option maxHeartbeats 4000000 in
set_option maxRecDepth 1000000 in
theorem bepart8 {w0 w : World} {B g4 g5 b : Nat} {K X : Jb} {a oa : Option Addr} {n c oc : Nat} {L : List R2} {u0 u1 u2 u6 u7 u8 u9 A0 A1 A2 A3 A4 A5 A6 A7 A8 A9 Aa Ab Ac Ad Ae Af Ag Ah Ai Aj Ak Al Am An Ao Ap Aq Ar As At Au Av Aw Ax Ay Az C0 C1 C2 C3 C4 C5 C6 C7 C8 C9 Ca Cb Cc Cd Ce Cf Cg Ch Ci Cj Ck Cl Cm Cn Co Cp Cq Cr Cs Ct Cu Cv Cw Cx Cy Cz D0 D1 D2 D3 D4 D5 D6 D7 D8 D9 Da Db Dc Dd De Df Dg Dh Di Dj Dk Dl Dm Dn Do Dp Dq Dr Ds Dt Du Dv Dw Dx Dy Dz E0 E1 E2 E3 E4 E5 E6 E7 E8 E9 Ea Eb Ec Ed Ee Ef Eg Eh Ei Ej Ek El Em En Eo Ep Eq Er Es Et Eu Ev Ew Ex Ey Ez F0 F1 F2 F3 F4 F5 F6 F7 F8 F9 Fa Fb Fc Fd Fe Ff Fg Fh Fi Fj Fk Fl Fm Fn Fo Fp Fq Fr Fs Ft Fu Fv Fw Fx Fy Fz L0 L1 L2 L3 L4 L5 L6 L7 L8 L9 La Lb Lc Ld Le Lf Lg Lh Li Lj Lk Ll Lm Ln Lo Lp Lq Lr Ls Lt Lu Lv Lw Lx Ly Lz M0 M1 M2 M3 M4 M5 M6 M7 M8 M9 Ma Mb Mc Md Me Mf Mg Mh Mi Mj Mk Ml Mm Mn Mo Mp Mq Mr Ms Mt Mu Mv Mw Mx My Mz N0 : Value} (htun : TunOK) (hshort : ShortOK) (hfine : FineOK) (hs : US w0 B g4 g5 b K X a n c oa oc L w) (hnx : NX K X) (hnl : NarL K.sh L) : Code.wp Try.prog berest8 (QBE w0) ⟨#[u0, u1, u2, (.pointer (some ⟨b, 0, none⟩)), (.pointer (some ⟨g4, 0, none⟩)), (.pointer (some ⟨g5, 0, none⟩)), u6, u7, u8, u9, A0, A1, A2, A3, A4, A5, A6, A7, A8, A9, Aa, Ab, Ac, Ad, Ae, Af, Ag, Ah, Ai, Aj, Ak, Al, Am, An, Ao, Ap, Aq, Ar, As, At, Au, Av, Aw, Ax, Ay, Az, C0, C1, C2, C3, C4, C5, C6, C7, C8, C9, Ca, Cb, Cc, Cd, Ce, Cf, Cg, Ch, Ci, Cj, Ck, Cl, Cm, Cn, Co, Cp, Cq, Cr, Cs, Ct, Cu, Cv, Cw, Cx, Cy, Cz, D0, D1, D2, D3, D4, D5, D6, D7, D8, D9, Da, Db, Dc, Dd, De, Df, Dg, Dh, Di, Dj, Dk, Dl, Dm, Dn, Do, Dp, Dq, Dr, Ds, Dt, Du, Dv, Dw, Dx, Dy, Dz, E0, E1, E2, E3, E4, E5, E6, E7, E8, E9, Ea, Eb, Ec, Ed, Ee, Ef, Eg, Eh, Ei, Ej, Ek, El, Em, En, Eo, Ep, Eq, Er, Es, Et, Eu, Ev, Ew, Ex, Ey, Ez, F0, F1, F2, F3, F4, F5, F6, F7, F8, F9, Fa, Fb, Fc, Fd, Fe, Ff, Fg, Fh, Fi, Fj, Fk, Fl, Fm, Fn, Fo, Fp, Fq, Fr, Fs, Ft, Fu, Fv, Fw, Fx, Fy, Fz, L0, L1, L2, L3, L4, L5, L6, L7, L8, L9, La, Lb, Lc, Ld, Le, Lf, Lg, Lh, Li, Lj, Lk, Ll, Lm, Ln, Lo, Lp, Lq, Lr, Ls, Lt, Lu, Lv, Lw, Lx, Ly, Lz, M0, M1, M2, M3, M4, M5, M6, M7, M8, M9, Ma, Mb, Mc, Md, Me, Mf, Mg, Mh, Mi, Mj, Mk, Ml, Mm, Mn, Mo, Mp, Mq, Mr, Ms, Mt, Mu, Mv, Mw, Mx, My, Mz, N0], []⟩ w := by
  rw [berest8_eq]
  have HT := hidMk htun
  have HSO := hidMk hshort
  have HFO := hidMk hfine
  clear htun hshort hfine
  have hme := (check_full hs.ck).me
  have c17 := hs.j4.at_ 17 (.int .i64 K.me) rfl
  have HS := hidMk hs
  have HNX := hidMk hnx
  have HNL := hidMk hnl
  clear hs hnx hnl
  go_wp2_with fail
  refine (uptoP b K.me _ HS.out.pt (by omega)).mono ?_
  rintro e w2 ⟨v, rfl, hv, hk, hp2⟩
  have hu := HS.out.pot hk hp2
  have z := hu.j5.at_ 17 (.int .i64 X.me) rfl
  have fz := hu.j5.free 17
  have HU := hidMk hu
  have HV := hidMk hv
  clear hu hk hp2 hv
  go_wp2_with fail
  have hu2 := HU.out.set5 17 (.int .i64 v) { X with me := v } rfl
  refine bepart9 HT.out HSO.out HFO.out (X := { X with me := v, sh := L }) ⟨hu2.b0, hu2.hb, hu2.pt, hu2.j4, hu2.r4, hu2.j5, hu2.own, hu2.lt, hu2.hn, hu2.ck, hu2.ln⟩ ?_
  obtain ⟨q1, q2, q3, q4, q5, q6, q7, q8, q9⟩ := HNX.out
  exact ⟨q1, q2, q3, q4, q5, q6, q7, q8, q9, HV.out, HNL.out⟩
end Go.Proofs.Ytbebofmpimfbgaa
