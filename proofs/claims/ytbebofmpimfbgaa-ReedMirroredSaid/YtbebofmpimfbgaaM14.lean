/- Part 14 of the proof: MiB, MiC. -/
import Derived.IntWalk
import Derived.Deep.WholeRow
import Derived.Test.YtbebofmpimfbgaaM13
/- The law ReedMirrored: what strokes do. -/
namespace Go.Proofs.Ytbebofmpimfbgaa
set_option linter.all false
open Go.RowKit
theorem bk_two {w : World} {g : Nat} {t : TypeId} {cs : Array Value} (h : Bk w g t cs) (o : Nat) {x y : Value} (h0 : cs[o]? = some x) (h1 : cs[o + 1]? = some y) : w.rangeAt g o (#[x, y] : Array Value).toList := fun j v hv => by
  match j with
  | 0 => simp at hv; subst hv; exact h.at_ o _ h0
  | 1 => simp at hv; subst hv; exact h.at_ (o + 1) _ h1
  | j + 2 => simp at hv
set_option maxRecDepth 100000 in
theorem neqR (a0 a1 : Int) (w : World) : (binOp .neq 23 (.agg #[.int .i64 a0, .int .i64 a1]) (.agg #[.int .i64 a0, .int .i64 a1])).run Try.prog w = .ok (.bool false) w := by
  rw [run_neq_struct]
  simp [go_sem]
set_option maxHeartbeats 4000000 in
set_option maxRecDepth 1000000 in
theorem mipart17 {w0 w : World} {g4 g5 : Nat} {K : Jb} {a oa la lb : Option Addr} {n c oc lc mc : Nat} {l : List Int} {g14 g15 : Nat} {T : Tg} {fv : Int} {u0 u1 u2 u3 u6 u9 A0 A2 Aa Ab Ac Ad Ae Af Ag Ah Ai Aj Ak Al Am An Ao Ap Aq Ar As At Au Av Aw Ax Ay Az C0 C1 C2 C3 C4 C5 C6 C7 C8 C9 Ca Cb Cc Cd Ce Cf Cg Ch Ci Cj Ck Cl Cm Cn Co Cp Cq Cr Cs Ct Cu Cv Cw Cx Cy Cz D0 D1 D2 D3 D4 D5 D6 D7 D8 D9 Da Db Dc Dd De Df Dg Dh Di Dj Dk Dl Dm Dn Do Dp Dq Dr Ds Dt Du Dv Dw Dx Dy Dz E0 E1 E2 E3 E4 E5 E6 E7 E8 E9 Ea Eb Ec Ed Ee Ef Eg Eh Ei Ej Ek El Em En Eo Ep Eq Er Es Et Eu Ev Ew Ex Ey Ez F0 F1 F2 F3 F4 F5 F6 F7 F8 F9 Fa Fb Fc Fd Fe Ff Fg Fh Fi Fj Fk Fl Fm Fn Fo Fp Fq Fr Fs Ft Fu Fv Fw Fx Fy Fz L0 L1 L2 L3 L4 L5 L6 L7 L8 L9 La Lb Lc Ld Le Lf Lg Lh Li Lj Lk Ll Lm Ln Lo Lp Lq Lr Ls Lt Lu Lv Lw Lx Ly Lz M0 M1 M2 M3 M4 M5 M6 M7 M8 M9 Ma Mb Mc Md Me Mf Mg Mh Mi Mj Mk Ml Mm Mn Mo Mp Mq Mr Ms Mt Mu Mv Mw Mx My Mz N0 N1 N2 N3 N4 N5 N6 N7 N8 N9 Na Nb Nc Nd Ne Nf Ng Nh Ni Nj Nk Nl Nm : Value} (htun : TunOK) (hshort : ShortOK) (hs : MS w0 g4 g5 K a n c oa oc la lb l w) (gt : Bk w g14 25 #[.int .i64 T.p1, .int .i64 T.p2, .int .i64 T.t1, .int .i64 T.t2, .int .i64 T.r1, .int .i64 T.r2]) (gu : Bk w g15 25 #[.int .i64 (-T.p2), .int .i64 (-T.p1), .int .i64 T.r1, .int .i64 T.r2, .int .i64 T.t1, .int .i64 T.t2]) (hT : T.In 1000) : Code.wp Try.prog mirest17 (QMI w0) ⟨#[u0, u1, u2, u3, (.pointer (some ⟨g4, 0, none⟩)), (.pointer (some ⟨g5, 0, none⟩)), u6, (.slice la l.length lc), (.slice lb l.length mc), u9, A0, (.int .i64 0), A2, (.int .i64 0), (.pointer (some ⟨g14, 0, none⟩)), (.pointer (some ⟨g15, 0, none⟩)), (.int .i64 fv), (.int .i64 0), (.int .i64 fv), (.int .i64 0), Aa, Ab, Ac, Ad, Ae, Af, Ag, Ah, Ai, Aj, Ak, Al, Am, An, Ao, Ap, Aq, Ar, As, At, Au, Av, Aw, Ax, Ay, Az, C0, C1, C2, C3, C4, C5, C6, C7, C8, C9, Ca, Cb, Cc, Cd, Ce, Cf, Cg, Ch, Ci, Cj, Ck, Cl, Cm, Cn, Co, Cp, Cq, Cr, Cs, Ct, Cu, Cv, Cw, Cx, Cy, Cz, D0, D1, D2, D3, D4, D5, D6, D7, D8, D9, Da, Db, Dc, Dd, De, Df, Dg, Dh, Di, Dj, Dk, Dl, Dm, Dn, Do, Dp, Dq, Dr, Ds, Dt, Du, Dv, Dw, Dx, Dy, Dz, E0, E1, E2, E3, E4, E5, E6, E7, E8, E9, Ea, Eb, Ec, Ed, Ee, Ef, Eg, Eh, Ei, Ej, Ek, El, Em, En, Eo, Ep, Eq, Er, Es, Et, Eu, Ev, Ew, Ex, Ey, Ez, F0, F1, F2, F3, F4, F5, F6, F7, F8, F9, Fa, Fb, Fc, Fd, Fe, Ff, Fg, Fh, Fi, Fj, Fk, Fl, Fm, Fn, Fo, Fp, Fq, Fr, Fs, Ft, Fu, Fv, Fw, Fx, Fy, Fz, L0, L1, L2, L3, L4, L5, L6, L7, L8, L9, La, Lb, Lc, Ld, Le, Lf, Lg, Lh, Li, Lj, Lk, Ll, Lm, Ln, Lo, Lp, Lq, Lr, Ls, Lt, Lu, Lv, Lw, Lx, Ly, Lz, M0, M1, M2, M3, M4, M5, M6, M7, M8, M9, Ma, Mb, Mc, Md, Me, Mf, Mg, Mh, Mi, Mj, Mk, Ml, Mm, Mn, Mo, Mp, Mq, Mr, Ms, Mt, Mu, Mv, Mw, Mx, My, Mz, N0, N1, N2, N3, N4, N5, N6, N7, N8, N9, Na, Nb, Nc, Nd, Ne, Nf, Ng, Nh, Ni, Nj, Nk, Nl, Nm], []⟩ w := by
  rw [mirest17_eq]
  have HT := hidMk htun
  have HSO := hidMk hshort
  have n1 : IntKind.i64.wrap (-T.p1) = -T.p1 := IntWalk.i64_in _ (by simp only [Tg.In] at hT; omega)
  have n2 : IntKind.i64.wrap (-T.p2) = -T.p2 := IntWalk.i64_in _ (by simp only [Tg.In] at hT; omega)
  clear htun hshort hT
  refine wp_seq_k fun K0 hKK => ?_
  refine wp_seq_k fun K1 hK1 => ?_
  refine region_via (R := fun a_ e a' w' => e = .normal ∧ ∃ (v173 v174 v175 v176 v177 v178 v179 v180 v181 v182 v183 v184 v185 v186 v187 v188 v189 v190 v191 v192 v193 v194 v195 v196 v197 v198 v199 v200 v201 v202 v203 v204 v205 v206 v207 v208 v209 v210 v211 v212 v213 v214 v215 v216 v217 v218 : Value), a' = (((((((((((((((((((((((((((((((((((((((((((((((a_.put (some 173) v173).put (some 174) v174).put (some 175) v175).put (some 176) v176).put (some 177) v177).put (some 178) v178).put (some 179) v179).put (some 180) v180).put (some 181) v181).put (some 182) v182).put (some 183) v183).put (some 184) v184).put (some 185) v185).put (some 186) v186).put (some 187) v187).put (some 188) v188).put (some 189) v189).put (some 190) v190).put (some 191) v191).put (some 192) v192).put (some 193) v193).put (some 194) v194).put (some 195) v195).put (some 196) v196).put (some 197) v197).put (some 198) v198).put (some 199) v199).put (some 200) v200).put (some 201) v201).put (some 202) v202).put (some 203) v203).put (some 204) v204).put (some 205) v205).put (some 206) v206).put (some 207) v207).put (some 208) v208).put (some 209) v209).put (some 210) v210).put (some 211) v211).put (some 212) v212).put (some 213) v213).put (some 214) v214).put (some 215) v215).put (some 216) v216).put (some 217) v217).put (some 218) v218).put (some 219) (.bool false)) ∧ MS w0 g4 g5 K a n c oa oc la lb l w') ?_ ?_
  rotate_left
  · rintro e a' w' ⟨rfl, v173, v174, v175, v176, v177, v178, v179, v180, v181, v182, v183, v184, v185, v186, v187, v188, v189, v190, v191, v192, v193, v194, v195, v196, v197, v198, v199, v200, v201, v202, v203, v204, v205, v206, v207, v208, v209, v210, v211, v212, v213, v214, v215, v216, v217, v218, rfl, hs2⟩
    refine hK1 _ _ ?_
    simp only [Act.put, aT, aZ, aS]
    have HS := hidMk hs2
    clear hs2
    go_wp2_with fail
    exact mipart18 HT.out HSO.out HS.out
  have hS : MS w0 g4 g5 K a n c oa oc la lb l w.drew ∧ Bk w.drew g14 25 #[.int .i64 T.p1, .int .i64 T.p2, .int .i64 T.t1, .int .i64 T.t2, .int .i64 T.r1, .int .i64 T.r2] ∧ Bk w.drew g15 25 #[.int .i64 (-T.p2), .int .i64 (-T.p1), .int .i64 T.r1, .int .i64 T.r2, .int .i64 T.t1, .int .i64 T.t2] := ⟨hs.next (Below.refl _ _).drew, gt, gu⟩
  clear hs gt gu
  refine wp_region_held_drew (S := fun w' => MS w0 g4 g5 K a n c oa oc la lb l w' ∧ Bk w' g14 25 #[.int .i64 T.p1, .int .i64 T.p2, .int .i64 T.t1, .int .i64 T.t2, .int .i64 T.r1, .int .i64 T.r2] ∧ Bk w' g15 25 #[.int .i64 (-T.p2), .int .i64 (-T.p1), .int .i64 T.r1, .int .i64 T.r2, .int .i64 T.t1, .int .i64 T.t2]) (by kernel_rfl) hS (fun hS0 => ?_)
  generalize hWd : w.drew = wd at hS0 hS ⊢
  clear hWd
  refine wpAnyH_take (i := 0) (oi := ⟨some 173, .move (.tmp 11), 39, "outright.go:440", #[], none⟩) (v := ?_) rfl (by kernel_rfl) (by kernel_rfl) (by kernel_rfl) (fun _ _ _ h => by cases h.1) (.inl ⟨by rfl, ?_⟩) (by assumption) ?_
  rotate_left
  · (intro w' hSw; (try dsimp only at hSw); skip; go_simp <;> with_reducible rfl)
  (try simp only [Act.put, aT, aZ, aS])
  refine wpAnyH_take (i := 1) (oi := ⟨some 174, .binOp .neq 39 (.tmp 173) (.const (.int .i64 0)) 39, 4, "outright.go:440", #[⟨0, .data⟩], none⟩) (v := ?_) rfl (by kernel_rfl) (by kernel_rfl) (by kernel_rfl) (fun _ _ _ h => by cases h.1) (.inl ⟨by rfl, ?_⟩) (by assumption) ?_
  rotate_left
  · (intro w' hSw; (try dsimp only at hSw); skip; go_simp <;> with_reducible rfl)
  (try simp only [Act.put, aT, aZ, aS])
  refine wpAnyH_take (i := 2) (oi := ⟨some 175, .move (.tmp 174), 4, "outright.go:440", #[⟨1, .data⟩], none⟩) (v := ?_) rfl (by kernel_rfl) (by kernel_rfl) (by kernel_rfl) (fun _ _ _ h => by cases h.1) (.inl ⟨by rfl, ?_⟩) (by assumption) ?_
  rotate_left
  · (intro w' hSw; (try dsimp only at hSw); skip; go_simp <;> with_reducible rfl)
  (try simp only [Act.put, aT, aZ, aS])
  refine wpAnyH_take (i := 3) (oi := ⟨some 176, .move (.tmp 13), 39, "outright.go:440", #[⟨2, .guard⟩], some (2, false)⟩) (v := ?_) rfl (by kernel_rfl) (by kernel_rfl) (by kernel_rfl) (fun _ _ _ h => by cases h.1) (.inl ⟨by rfl, ?_⟩) (by assumption) ?_
  rotate_left
  · (intro w' hSw; (try dsimp only at hSw); skip; go_simp <;> with_reducible rfl)
  (try simp only [Act.put, aT, aZ, aS])
  refine wpAnyH_take (i := 4) (oi := ⟨some 177, .binOp .neq 39 (.tmp 176) (.const (.int .i64 0)) 39, 4, "outright.go:440", #[⟨3, .data⟩, ⟨2, .guard⟩], some (2, false)⟩) (v := ?_) rfl (by kernel_rfl) (by kernel_rfl) (by kernel_rfl) (fun _ _ _ h => by cases h.1) (.inl ⟨by rfl, ?_⟩) (by assumption) ?_
  rotate_left
  · (intro w' hSw; (try dsimp only at hSw); skip; go_simp <;> with_reducible rfl)
  (try simp only [Act.put, aT, aZ, aS])
  refine wpAnyH_take (i := 5) (oi := ⟨some 178, .pick (.tmp 175) (.const (.bool true)) (.tmp 177), 4, "outright.go:440", #[⟨2, .data⟩, ⟨4, .data⟩], none⟩) (v := ?_) rfl (by kernel_rfl) (by kernel_rfl) (by kernel_rfl) (fun _ _ _ h => by cases h.1) (.inl ⟨by rfl, ?_⟩) (by assumption) ?_
  rotate_left
  · (intro w' hSw; (try dsimp only at hSw); skip; go_simp <;> with_reducible rfl)
  (try simp only [Act.put, aT, aZ, aS])
  refine wpAnyH_take (i := 6) (oi := ⟨some 179, .move (.tmp 178), 4, "outright.go:440", #[⟨5, .data⟩, ⟨2, .chain⟩], none⟩) (v := ?_) rfl (by kernel_rfl) (by kernel_rfl) (by kernel_rfl) (fun _ _ _ h => by cases h.1) (.inl ⟨by rfl, ?_⟩) (by assumption) ?_
  rotate_left
  · (intro w' hSw; (try dsimp only at hSw); skip; go_simp <;> with_reducible rfl)
  (try simp only [Act.put, aT, aZ, aS])
  refine wpAnyH_take (i := 7) (oi := ⟨some 180, .move (.tmp 17), 39, "outright.go:440", #[⟨6, .guard⟩], some (6, false)⟩) (v := ?_) rfl (by kernel_rfl) (by kernel_rfl) (by kernel_rfl) (fun _ _ _ h => by cases h.1) (.inl ⟨by rfl, ?_⟩) (by assumption) ?_
  rotate_left
  · (intro w' hSw; (try dsimp only at hSw); skip; go_simp <;> with_reducible rfl)
  (try simp only [Act.put, aT, aZ, aS])
  refine wpAnyH_take (i := 8) (oi := ⟨some 181, .binOp .neq 39 (.tmp 180) (.const (.int .i64 0)) 39, 4, "outright.go:440", #[⟨7, .data⟩, ⟨6, .guard⟩], some (6, false)⟩) (v := ?_) rfl (by kernel_rfl) (by kernel_rfl) (by kernel_rfl) (fun _ _ _ h => by cases h.1) (.inl ⟨by rfl, ?_⟩) (by assumption) ?_
  rotate_left
  · (intro w' hSw; (try dsimp only at hSw); skip; go_simp <;> with_reducible rfl)
  (try simp only [Act.put, aT, aZ, aS])
  refine wpAnyH_take (i := 9) (oi := ⟨some 182, .pick (.tmp 179) (.const (.bool true)) (.tmp 181), 4, "outright.go:440", #[⟨6, .data⟩, ⟨8, .data⟩], none⟩) (v := ?_) rfl (by kernel_rfl) (by kernel_rfl) (by kernel_rfl) (fun _ _ _ h => by cases h.1) (.inl ⟨by rfl, ?_⟩) (by assumption) ?_
  rotate_left
  · (intro w' hSw; (try dsimp only at hSw); skip; go_simp <;> with_reducible rfl)
  (try simp only [Act.put, aT, aZ, aS])
  refine wpAnyH_take (i := 10) (oi := ⟨some 183, .move (.tmp 182), 4, "outright.go:440", #[⟨9, .data⟩, ⟨6, .chain⟩], none⟩) (v := ?_) rfl (by kernel_rfl) (by kernel_rfl) (by kernel_rfl) (fun _ _ _ h => by cases h.1) (.inl ⟨by rfl, ?_⟩) (by assumption) ?_
  rotate_left
  · (intro w' hSw; (try dsimp only at hSw); skip; go_simp <;> with_reducible rfl)
  (try simp only [Act.put, aT, aZ, aS])
  refine wpAnyH_take (i := 11) (oi := ⟨some 184, .move (.tmp 19), 39, "outright.go:440", #[⟨10, .guard⟩], some (10, false)⟩) (v := ?_) rfl (by kernel_rfl) (by kernel_rfl) (by kernel_rfl) (fun _ _ _ h => by cases h.1) (.inl ⟨by rfl, ?_⟩) (by assumption) ?_
  rotate_left
  · (intro w' hSw; (try dsimp only at hSw); skip; go_simp <;> with_reducible rfl)
  (try simp only [Act.put, aT, aZ, aS])
  refine wpAnyH_take (i := 12) (oi := ⟨some 185, .binOp .neq 39 (.tmp 184) (.const (.int .i64 0)) 39, 4, "outright.go:440", #[⟨11, .data⟩, ⟨10, .guard⟩], some (10, false)⟩) (v := ?_) rfl (by kernel_rfl) (by kernel_rfl) (by kernel_rfl) (fun _ _ _ h => by cases h.1) (.inl ⟨by rfl, ?_⟩) (by assumption) ?_
  rotate_left
  · (intro w' hSw; (try dsimp only at hSw); skip; go_simp <;> with_reducible rfl)
  (try simp only [Act.put, aT, aZ, aS])
  refine wpAnyH_take (i := 13) (oi := ⟨some 186, .pick (.tmp 183) (.const (.bool true)) (.tmp 185), 4, "outright.go:440", #[⟨10, .data⟩, ⟨12, .data⟩], none⟩) (v := ?_) rfl (by kernel_rfl) (by kernel_rfl) (by kernel_rfl) (fun _ _ _ h => by cases h.1) (.inl ⟨by rfl, ?_⟩) (by assumption) ?_
  rotate_left
  · (intro w' hSw; (try dsimp only at hSw); skip; go_simp <;> with_reducible rfl)
  (try simp only [Act.put, aT, aZ, aS])
  refine wpAnyH_take (i := 14) (oi := ⟨some 187, .move (.tmp 186), 4, "outright.go:440", #[⟨13, .data⟩, ⟨10, .chain⟩], none⟩) (v := ?_) rfl (by kernel_rfl) (by kernel_rfl) (by kernel_rfl) (fun _ _ _ h => by cases h.1) (.inl ⟨by rfl, ?_⟩) (by assumption) ?_
  rotate_left
  · (intro w' hSw; (try dsimp only at hSw); skip; go_simp <;> with_reducible rfl)
  (try simp only [Act.put, aT, aZ, aS])
  refine wpAnyH_take (i := 15) (oi := ⟨some 188, .move (.tmp 16), 3, "outright.go:440", #[⟨14, .guard⟩], some (14, false)⟩) (v := ?_) rfl (by kernel_rfl) (by kernel_rfl) (by kernel_rfl) (fun _ _ _ h => by cases h.1) (.inl ⟨by rfl, ?_⟩) (by assumption) ?_
  rotate_left
  · (intro w' hSw; (try dsimp only at hSw); skip; go_simp <;> with_reducible rfl)
  (try simp only [Act.put, aT, aZ, aS])
  refine wpAnyH_take (i := 16) (oi := ⟨some 189, .move (.tmp 18), 3, "outright.go:440", #[⟨14, .guard⟩], some (14, false)⟩) (v := ?_) rfl (by kernel_rfl) (by kernel_rfl) (by kernel_rfl) (fun _ _ _ h => by cases h.1) (.inl ⟨by rfl, ?_⟩) (by assumption) ?_
  rotate_left
  · (intro w' hSw; (try dsimp only at hSw); skip; go_simp <;> with_reducible rfl)
  (try simp only [Act.put, aT, aZ, aS])
  refine wpAnyH_take (i := 17) (oi := ⟨some 190, .binOp .neq 3 (.tmp 188) (.tmp 189) 3, 4, "outright.go:440", #[⟨15, .data⟩, ⟨16, .data⟩, ⟨14, .guard⟩], some (14, false)⟩) (v := ?_) rfl (by kernel_rfl) (by kernel_rfl) (by kernel_rfl) (fun _ _ _ h => by cases h.1) (.inl ⟨by rfl, ?_⟩) (by assumption) ?_
  rotate_left
  · (intro w' hSw; (try dsimp only at hSw); skip; go_simp <;> with_reducible rfl)
  (try simp only [Act.put, aT, aZ, aS])
  refine wpAnyH_take (i := 18) (oi := ⟨some 191, .pick (.tmp 187) (.const (.bool true)) (.tmp 190), 4, "outright.go:440", #[⟨14, .data⟩, ⟨17, .data⟩], none⟩) (v := ?_) rfl (by kernel_rfl) (by kernel_rfl) (by kernel_rfl) (fun _ _ _ h => by cases h.1) (.inl ⟨by rfl, ?_⟩) (by assumption) ?_
  rotate_left
  · (intro w' hSw; (try dsimp only at hSw); skip; go_simp <;> with_reducible rfl)
  (try simp only [Act.put, aT, aZ, aS])
  refine wpAnyH_take (i := 19) (oi := ⟨some 192, .move (.tmp 191), 4, "outright.go:440", #[⟨18, .data⟩, ⟨14, .chain⟩], none⟩) (v := ?_) rfl (by kernel_rfl) (by kernel_rfl) (by kernel_rfl) (fun _ _ _ h => by cases h.1) (.inl ⟨by rfl, ?_⟩) (by assumption) ?_
  rotate_left
  · (intro w' hSw; (try dsimp only at hSw); skip; go_simp <;> with_reducible rfl)
  (try simp only [Act.put, aT, aZ, aS])
  refine wpAnyH_take (i := 20) (oi := ⟨some 193, .fieldAddr 25 (.tmp 15) 0, 0, "outright.go:440", #[⟨19, .guard⟩], some (19, false)⟩) (v := ?_) rfl (by kernel_rfl) (by kernel_rfl) (by kernel_rfl) (fun _ _ _ h => by cases h.1) (.inl ⟨by rfl, ?_⟩) (by assumption) ?_
  rotate_left
  · (intro w' hSw; (try dsimp only at hSw); skip; go_simp <;> with_reducible rfl)
  (try simp only [Act.put, aT, aZ, aS])
  refine wpAnyH_take (i := 21) (oi := ⟨some 194, .load 23 (.tmp 193), 23, "outright.go:440", #[⟨20, .data⟩, ⟨19, .guard⟩], some (19, false)⟩) rfl (by kernel_rfl) (by kernel_rfl) (by kernel_rfl) (fun _ _ _ h => by cases h.1) (yields_midB (by rfl) 23 _ rfl g15 0 rfl #[.int .i64 (-T.p2), .int .i64 (-T.p1)] _ (fun w hw => bk_two hw.2.2 0 rfl rfl) Try.underlying23 rfl szRange) (by assumption) ?_
  (try simp only [Act.put, aT, aZ, aS])
  refine wpAnyH_take (i := 22) (oi := ⟨some 195, .fieldAddr 25 (.tmp 14) 0, 0, "outright.go:440", #[⟨19, .guard⟩], some (19, false)⟩) (v := ?_) rfl (by kernel_rfl) (by kernel_rfl) (by kernel_rfl) (fun _ _ _ h => by cases h.1) (.inl ⟨by rfl, ?_⟩) (by assumption) ?_
  rotate_left
  · (intro w' hSw; (try dsimp only at hSw); skip; go_simp <;> with_reducible rfl)
  (try simp only [Act.put, aT, aZ, aS])
  refine wpAnyH_take (i := 23) (oi := ⟨some 196, .fieldAddr 23 (.tmp 195) 1, 0, "outright.go:440", #[⟨22, .data⟩, ⟨19, .guard⟩], some (19, false)⟩) (v := ?_) rfl (by kernel_rfl) (by kernel_rfl) (by kernel_rfl) (fun _ _ _ h => by cases h.1) (.inl ⟨by rfl, ?_⟩) (by assumption) ?_
  rotate_left
  · (intro w' hSw; (try dsimp only at hSw); skip; go_simp <;> with_reducible rfl)
  (try simp only [Act.put, aT, aZ, aS])
  refine wpAnyH_take (i := 24) (oi := ⟨some 197, .load 3 (.tmp 196), 3, "outright.go:440", #[⟨23, .data⟩, ⟨19, .guard⟩], some (19, false)⟩) (v := ?_) rfl (by kernel_rfl) (by kernel_rfl) (by kernel_rfl) (fun _ _ _ h => by cases h.1) (.inl ⟨by rfl, ?_⟩) (by assumption) ?_
  rotate_left
  · (intro w' hSw; (try dsimp only at hSw); have q := hSw.2.1.at_ 1 (.int .i64 (T.p2)) rfl; go_simp <;> with_reducible rfl)
  (try simp only [Act.put, aT, aZ, aS])
  refine wpAnyH_take (i := 25) (oi := ⟨some 198, .unOp .neg 3 (.tmp 197), 3, "outright.go:440", #[⟨24, .data⟩, ⟨19, .guard⟩], some (19, false)⟩) (v := ?_) rfl (by kernel_rfl) (by kernel_rfl) (by kernel_rfl) (fun _ _ _ h => by cases h.1) (.inl ⟨by rfl, ?_⟩) (by assumption) ?_
  rotate_left
  · (intro w' hSw; (try dsimp only at hSw); skip; go_simp <;> with_reducible rfl)
  (try simp only [Act.put, aT, aZ, aS])
  refine wpAnyH_take (i := 26) (oi := ⟨some 199, .fieldAddr 25 (.tmp 14) 0, 0, "outright.go:440", #[⟨19, .guard⟩], some (19, false)⟩) (v := ?_) rfl (by kernel_rfl) (by kernel_rfl) (by kernel_rfl) (fun _ _ _ h => by cases h.1) (.inl ⟨by rfl, ?_⟩) (by assumption) ?_
  rotate_left
  · (intro w' hSw; (try dsimp only at hSw); skip; go_simp <;> with_reducible rfl)
  (try simp only [Act.put, aT, aZ, aS])
  refine wpAnyH_take (i := 27) (oi := ⟨some 200, .fieldAddr 23 (.tmp 199) 0, 0, "outright.go:440", #[⟨26, .data⟩, ⟨19, .guard⟩], some (19, false)⟩) (v := ?_) rfl (by kernel_rfl) (by kernel_rfl) (by kernel_rfl) (fun _ _ _ h => by cases h.1) (.inl ⟨by rfl, ?_⟩) (by assumption) ?_
  rotate_left
  · (intro w' hSw; (try dsimp only at hSw); skip; go_simp <;> with_reducible rfl)
  (try simp only [Act.put, aT, aZ, aS])
  refine wpAnyH_take (i := 28) (oi := ⟨some 201, .load 3 (.tmp 200), 3, "outright.go:440", #[⟨27, .data⟩, ⟨19, .guard⟩], some (19, false)⟩) (v := ?_) rfl (by kernel_rfl) (by kernel_rfl) (by kernel_rfl) (fun _ _ _ h => by cases h.1) (.inl ⟨by rfl, ?_⟩) (by assumption) ?_
  rotate_left
  · (intro w' hSw; (try dsimp only at hSw); have q := hSw.2.1.at_ 0 (.int .i64 (T.p1)) rfl; go_simp <;> with_reducible rfl)
  (try simp only [Act.put, aT, aZ, aS])
  refine wpAnyH_take (i := 29) (oi := ⟨some 202, .unOp .neg 3 (.tmp 201), 3, "outright.go:440", #[⟨28, .data⟩, ⟨19, .guard⟩], some (19, false)⟩) (v := ?_) rfl (by kernel_rfl) (by kernel_rfl) (by kernel_rfl) (fun _ _ _ h => by cases h.1) (.inl ⟨by rfl, ?_⟩) (by assumption) ?_
  rotate_left
  · (intro w' hSw; (try dsimp only at hSw); skip; go_simp <;> with_reducible rfl)
  (try simp only [Act.put, aT, aZ, aS])
  refine wpAnyH_ready (rs := [30]) (by kernel_rfl) (by simp) ?_
  refine AllReadyH.cons (o := ⟨some 203, .call { callee := .value (.func 35), args := #[.tmp 198, .tmp 202], argTypes := #[3, 3] }, 23, "outright.go:440", #[⟨25, .data⟩, ⟨29, .data⟩, ⟨19, .chain⟩, ⟨19, .guard⟩], some (19, false)⟩) rfl (fun K hK => ?_) ?_
  · go_simp
    go_at_call 35
    refine (to_any _ _ _).mono ?_
    rintro e w5 ⟨rfl, hb5⟩
    have hS_ := And.intro (hS.1.next hb5) (And.intro (hS.2.1.below hb5 hS.2.1.lt) (hS.2.2.below hb5 hS.2.2.lt))
    clear hS hb5
    have hS := hS_
    clear hS_
    go_wp2_with fail
    refine hK.out _ _ hS (fun _ => ?_)
    clear hK K
    (try simp only [Act.put, aT, aZ, aS])
    refine wpAnyH_take (i := 31) (oi := ⟨some 204, .binOp .neq 23 (.tmp 194) (.tmp 203) 23, 4, "outright.go:440", #[⟨21, .data⟩, ⟨30, .data⟩, ⟨19, .guard⟩], some (19, false)⟩) (v := ?_) rfl (by kernel_rfl) (by kernel_rfl) (by kernel_rfl) (fun _ _ _ h => by cases h.1) (.inl ⟨by rfl, ?_⟩) (by assumption) ?_
    rotate_left
    · (intro w' hSw; (try dsimp only at hSw); have q := neqR (-T.p2) (-T.p1); go_simp <;> with_reducible rfl)
    (try simp only [Act.put, aT, aZ, aS])
    refine wpAnyH_take (i := 32) (oi := ⟨some 205, .pick (.tmp 192) (.const (.bool true)) (.tmp 204), 4, "outright.go:440", #[⟨19, .data⟩, ⟨31, .data⟩], none⟩) (v := ?_) rfl (by kernel_rfl) (by kernel_rfl) (by kernel_rfl) (fun _ _ _ h => by cases h.1) (.inl ⟨by rfl, ?_⟩) (by assumption) ?_
    rotate_left
    · (intro w' hSw; (try dsimp only at hSw); skip; go_simp <;> with_reducible rfl)
    (try simp only [Act.put, aT, aZ, aS])
    refine wpAnyH_take (i := 33) (oi := ⟨some 206, .move (.tmp 205), 4, "outright.go:440", #[⟨32, .data⟩, ⟨30, .chain⟩], none⟩) (v := ?_) rfl (by kernel_rfl) (by kernel_rfl) (by kernel_rfl) (fun _ _ _ h => by cases h.1) (.inl ⟨by rfl, ?_⟩) (by assumption) ?_
    rotate_left
    · (intro w' hSw; (try dsimp only at hSw); skip; go_simp <;> with_reducible rfl)
    (try simp only [Act.put, aT, aZ, aS])
    refine wpAnyH_take (i := 34) (oi := ⟨some 207, .fieldAddr 25 (.tmp 15) 1, 0, "outright.go:440", #[⟨33, .guard⟩], some (33, false)⟩) (v := ?_) rfl (by kernel_rfl) (by kernel_rfl) (by kernel_rfl) (fun _ _ _ h => by cases h.1) (.inl ⟨by rfl, ?_⟩) (by assumption) ?_
    rotate_left
    · (intro w' hSw; (try dsimp only at hSw); skip; go_simp <;> with_reducible rfl)
    (try simp only [Act.put, aT, aZ, aS])
    refine wpAnyH_take (i := 35) (oi := ⟨some 208, .load 23 (.tmp 207), 23, "outright.go:440", #[⟨34, .data⟩, ⟨33, .guard⟩], some (33, false)⟩) rfl (by kernel_rfl) (by kernel_rfl) (by kernel_rfl) (fun _ _ _ h => by cases h.1) (yields_midB (by rfl) 23 _ rfl g15 2 rfl #[.int .i64 (T.r1), .int .i64 (T.r2)] _ (fun w hw => bk_two hw.2.2 2 rfl rfl) Try.underlying23 rfl szRange) (by assumption) ?_
    (try simp only [Act.put, aT, aZ, aS])
    refine wpAnyH_take (i := 36) (oi := ⟨some 209, .fieldAddr 25 (.tmp 14) 2, 0, "outright.go:440", #[⟨33, .guard⟩], some (33, false)⟩) (v := ?_) rfl (by kernel_rfl) (by kernel_rfl) (by kernel_rfl) (fun _ _ _ h => by cases h.1) (.inl ⟨by rfl, ?_⟩) (by assumption) ?_
    rotate_left
    · (intro w' hSw; (try dsimp only at hSw); skip; go_simp <;> with_reducible rfl)
    (try simp only [Act.put, aT, aZ, aS])
    refine wpAnyH_take (i := 37) (oi := ⟨some 210, .load 23 (.tmp 209), 23, "outright.go:440", #[⟨36, .data⟩, ⟨33, .guard⟩], some (33, false)⟩) rfl (by kernel_rfl) (by kernel_rfl) (by kernel_rfl) (fun _ _ _ h => by cases h.1) (yields_midB (by rfl) 23 _ rfl g14 4 rfl #[.int .i64 (T.r1), .int .i64 (T.r2)] _ (fun w hw => bk_two hw.2.1 4 rfl rfl) Try.underlying23 rfl szRange) (by assumption) ?_
    (try simp only [Act.put, aT, aZ, aS])
    refine wpAnyH_take (i := 38) (oi := ⟨some 211, .binOp .neq 23 (.tmp 208) (.tmp 210) 23, 4, "outright.go:440", #[⟨35, .data⟩, ⟨37, .data⟩, ⟨33, .guard⟩], some (33, false)⟩) (v := ?_) rfl (by kernel_rfl) (by kernel_rfl) (by kernel_rfl) (fun _ _ _ h => by cases h.1) (.inl ⟨by rfl, ?_⟩) (by assumption) ?_
    rotate_left
    · (intro w' hSw; (try dsimp only at hSw); have q := neqR T.r1 T.r2; go_simp <;> with_reducible rfl)
    (try simp only [Act.put, aT, aZ, aS])
    refine wpAnyH_take (i := 39) (oi := ⟨some 212, .pick (.tmp 206) (.const (.bool true)) (.tmp 211), 4, "outright.go:440", #[⟨33, .data⟩, ⟨38, .data⟩], none⟩) (v := ?_) rfl (by kernel_rfl) (by kernel_rfl) (by kernel_rfl) (fun _ _ _ h => by cases h.1) (.inl ⟨by rfl, ?_⟩) (by assumption) ?_
    rotate_left
    · (intro w' hSw; (try dsimp only at hSw); skip; go_simp <;> with_reducible rfl)
    (try simp only [Act.put, aT, aZ, aS])
    refine wpAnyH_take (i := 40) (oi := ⟨some 213, .move (.tmp 212), 4, "outright.go:440", #[⟨39, .data⟩, ⟨33, .chain⟩], none⟩) (v := ?_) rfl (by kernel_rfl) (by kernel_rfl) (by kernel_rfl) (fun _ _ _ h => by cases h.1) (.inl ⟨by rfl, ?_⟩) (by assumption) ?_
    rotate_left
    · (intro w' hSw; (try dsimp only at hSw); skip; go_simp <;> with_reducible rfl)
    (try simp only [Act.put, aT, aZ, aS])
    refine wpAnyH_take (i := 41) (oi := ⟨some 214, .fieldAddr 25 (.tmp 15) 2, 0, "outright.go:440", #[⟨40, .guard⟩], some (40, false)⟩) (v := ?_) rfl (by kernel_rfl) (by kernel_rfl) (by kernel_rfl) (fun _ _ _ h => by cases h.1) (.inl ⟨by rfl, ?_⟩) (by assumption) ?_
    rotate_left
    · (intro w' hSw; (try dsimp only at hSw); skip; go_simp <;> with_reducible rfl)
    (try simp only [Act.put, aT, aZ, aS])
    refine wpAnyH_take (i := 42) (oi := ⟨some 215, .load 23 (.tmp 214), 23, "outright.go:440", #[⟨41, .data⟩, ⟨40, .guard⟩], some (40, false)⟩) rfl (by kernel_rfl) (by kernel_rfl) (by kernel_rfl) (fun _ _ _ h => by cases h.1) (yields_midB (by rfl) 23 _ rfl g15 4 rfl #[.int .i64 (T.t1), .int .i64 (T.t2)] _ (fun w hw => bk_two hw.2.2 4 rfl rfl) Try.underlying23 rfl szRange) (by assumption) ?_
    (try simp only [Act.put, aT, aZ, aS])
    refine wpAnyH_take (i := 43) (oi := ⟨some 216, .fieldAddr 25 (.tmp 14) 1, 0, "outright.go:440", #[⟨40, .guard⟩], some (40, false)⟩) (v := ?_) rfl (by kernel_rfl) (by kernel_rfl) (by kernel_rfl) (fun _ _ _ h => by cases h.1) (.inl ⟨by rfl, ?_⟩) (by assumption) ?_
    rotate_left
    · (intro w' hSw; (try dsimp only at hSw); skip; go_simp <;> with_reducible rfl)
    (try simp only [Act.put, aT, aZ, aS])
    refine wpAnyH_take (i := 44) (oi := ⟨some 217, .load 23 (.tmp 216), 23, "outright.go:440", #[⟨43, .data⟩, ⟨40, .guard⟩], some (40, false)⟩) rfl (by kernel_rfl) (by kernel_rfl) (by kernel_rfl) (fun _ _ _ h => by cases h.1) (yields_midB (by rfl) 23 _ rfl g14 2 rfl #[.int .i64 (T.t1), .int .i64 (T.t2)] _ (fun w hw => bk_two hw.2.1 2 rfl rfl) Try.underlying23 rfl szRange) (by assumption) ?_
    (try simp only [Act.put, aT, aZ, aS])
    refine wpAnyH_take (i := 45) (oi := ⟨some 218, .binOp .neq 23 (.tmp 215) (.tmp 217) 23, 4, "outright.go:440", #[⟨42, .data⟩, ⟨44, .data⟩, ⟨40, .guard⟩], some (40, false)⟩) (v := ?_) rfl (by kernel_rfl) (by kernel_rfl) (by kernel_rfl) (fun _ _ _ h => by cases h.1) (.inl ⟨by rfl, ?_⟩) (by assumption) ?_
    rotate_left
    · (intro w' hSw; (try dsimp only at hSw); have q := neqR T.t1 T.t2; go_simp <;> with_reducible rfl)
    (try simp only [Act.put, aT, aZ, aS])
    refine wpAnyH_take (i := 46) (oi := ⟨some 219, .pick (.tmp 213) (.const (.bool true)) (.tmp 218), 4, "outright.go:440", #[⟨40, .data⟩, ⟨45, .data⟩], none⟩) (v := ?_) rfl (by kernel_rfl) (by kernel_rfl) (by kernel_rfl) (fun _ _ _ h => by cases h.1) (.inl ⟨by rfl, ?_⟩) (by assumption) ?_
    rotate_left
    · (intro w' hSw; (try dsimp only at hSw); skip; go_simp <;> with_reducible rfl)
    (try simp only [Act.put, aT, aZ, aS])
    refine wpAnyH_done (by kernel_rfl) ?_ _
    exact ⟨rfl, _, _, _, _, _, _, _, _, _, _, _, _, _, _, _, _, _, _, _, _, _, _, _, _, _, _, _, _, _, _, _, _, _, _, _, _, _, _, _, _, _, _, _, _, _, _, rfl, hS.1⟩
  exact AllReadyH.nil
end Go.Proofs.Ytbebofmpimfbgaa
/- The law ReedMirrored: what strokes do, first. -/
namespace Go.Proofs.Ytbebofmpimfbgaa
set_option linter.all false
open Go.RowKit
theorem window_mir {K : Jb} (h : K.check = 0) : windowI (mirJ K) = if (windowI K).2 = 0 then (negR (windowI K).1, 0) else windowI K := by
  have hc := (mir_full (check_full h)).check
  have e : win (mirJ K).wi (mirJ K).sh = negR (win K.wi K.sh) := win_mir K.wi K.sh
  have w0 : ∀ K : Jb, K.check = 0 → windowI K = if (win K.wi K.sh).2 < (win K.wi K.sh).1 then ((0, 0), 11) else (win K.wi K.sh, 0) := by
    intro K h
    unfold windowI
    rw [if_neg (by rw [h]; simp)]
  rw [w0 K h, w0 (mirJ K) hc, e]
  by_cases hw : (win K.wi K.sh).2 < (win K.wi K.sh).1
  · rw [if_pos hw, if_pos (by show -(win K.wi K.sh).1 < -(win K.wi K.sh).2; omega)]
    simp
  · rw [if_neg hw, if_neg (by show ¬ (-(win K.wi K.sh).1 < -(win K.wi K.sh).2); omega)]
    simp
theorem window_in {K : Jb} (h : K.check = 0) : -1000 ≤ (windowI K).1.1 ∧ (windowI K).1.1 ≤ 1000 ∧ -1000 ≤ (windowI K).1.2 ∧ (windowI K).1.2 ≤ 1000 := by
  have hf := check_full h
  have hwi := hf.wi
  have key : ∀ (l : List R2) (r : R2), (∀ s ∈ l, -200 ≤ s.1 ∧ s.1 ≤ 200 ∧ -200 ≤ s.2 ∧ s.2 ≤ 200) → (-200 ≤ r.1 ∧ r.1 ≤ 200 ∧ -200 ≤ r.2 ∧ r.2 ≤ 200) → (-200 ≤ (meetL r l).1 ∧ (meetL r l).1 ≤ 200 ∧ -200 ≤ (meetL r l).2 ∧ (meetL r l).2 ≤ 200) := by
    intro l
    induction l with
    | nil => intro r _ hr; exact hr
    | cons x l ih =>
      intro r hl hr
      refine ih (meet2 r x) (fun s hs => hl s (List.mem_cons_of_mem _ hs)) ?_
      have := hl x List.mem_cons_self
      unfold meet2
      simp only
      refine ⟨?_, ?_, ?_, ?_⟩ <;> split <;> omega
  have hall : ∀ s ∈ (conds K.sh).map (sureOf K.wi), -200 ≤ s.1 ∧ s.1 ≤ 200 ∧ -200 ≤ s.2 ∧ s.2 ≤ 200 := by
    intro s hs
    obtain ⟨q, hq, rfl⟩ := List.mem_map.1 hs
    have hq2 : -60 ≤ q.1 ∧ q.1 ≤ q.2 ∧ q.2 ≤ 60 := by
      unfold conds at hq
      split at hq
      · simp at hq; subst hq; decide
      · exact hf.sh q hq
    simp only [sureOf]
    omega
  have hw : -200 ≤ (win K.wi K.sh).1 ∧ (win K.wi K.sh).1 ≤ 200 ∧ -200 ≤ (win K.wi K.sh).2 ∧ (win K.wi K.sh).2 ≤ 200 := by
    unfold win
    cases hc : (conds K.sh).map (sureOf K.wi) with
    | nil => simp [meetAll]
    | cons r l =>
      rw [hc] at hall
      exact key l r (fun s hs => hall s (List.mem_cons_of_mem _ hs)) (hall r List.mem_cons_self)
  unfold windowI
  split
  · simp
  · split
    · simp
    · simp only; omega
theorem fine_0 {K : Jb} {l : List Int} (h : filedE K l = 0) : fineX K l = (fineI K (afterS K K.tg l), 0) := by unfold fineX; rw [if_pos h]
set_option maxHeartbeats 4000000 in
set_option maxRecDepth 1000000 in
theorem mipart16 {w0 w : World} {g4 g5 : Nat} {K : Jb} {a oa la lb : Option Addr} {n c oc lc mc : Nat} {l : List Int} {g14 g15 : Nat} {T : Tg} {fv : Int} {u0 u1 u2 u3 u6 u9 A0 A2 A8 A9 Aa Ab Ac Ad Ae Af Ag Ah Ai Aj Ak Al Am An Ao Ap Aq Ar As At Au Av Aw Ax Ay Az C0 C1 C2 C3 C4 C5 C6 C7 C8 C9 Ca Cb Cc Cd Ce Cf Cg Ch Ci Cj Ck Cl Cm Cn Co Cp Cq Cr Cs Ct Cu Cv Cw Cx Cy Cz D0 D1 D2 D3 D4 D5 D6 D7 D8 D9 Da Db Dc Dd De Df Dg Dh Di Dj Dk Dl Dm Dn Do Dp Dq Dr Ds Dt Du Dv Dw Dx Dy Dz E0 E1 E2 E3 E4 E5 E6 E7 E8 E9 Ea Eb Ec Ed Ee Ef Eg Eh Ei Ej Ek El Em En Eo Ep Eq Er Es Et Eu Ev Ew Ex Ey Ez F0 F1 F2 F3 F4 F5 F6 F7 F8 F9 Fa Fb Fc Fd Fe Ff Fg Fh Fi Fj Fk Fl Fm Fn Fo Fp Fq Fr Fs Ft Fu Fv Fw Fx Fy Fz L0 L1 L2 L3 L4 L5 L6 L7 L8 L9 La Lb Lc Ld Le Lf Lg Lh Li Lj Lk Ll Lm Ln Lo Lp Lq Lr Ls Lt Lu Lv Lw Lx Ly Lz M0 M1 M2 M3 M4 M5 M6 M7 M8 M9 Ma Mb Mc Md Me Mf Mg Mh Mi Mj Mk Ml Mm Mn Mo Mp Mq Mr Ms Mt Mu Mv Mw Mx My Mz N0 N1 N2 N3 N4 N5 N6 N7 N8 N9 Na Nb Nc Nd Ne Nf Ng Nh Ni Nj Nk Nl Nm : Value} (htun : TunOK) (hshort : ShortOK) (hfine : FineOK) (hs : MS w0 g4 g5 K a n c oa oc la lb l w) (gt : Bk w g14 25 #[.int .i64 T.p1, .int .i64 T.p2, .int .i64 T.t1, .int .i64 T.t2, .int .i64 T.r1, .int .i64 T.r2]) (gu : Bk w g15 25 #[.int .i64 (-T.p2), .int .i64 (-T.p1), .int .i64 T.r1, .int .i64 T.r2, .int .i64 T.t1, .int .i64 T.t2]) (hT : T.In 1000) (hk : fv = fineI K (afterS K K.tg l)) : Code.wp Try.prog mirest16 (QMI w0) ⟨#[u0, u1, u2, u3, (.pointer (some ⟨g4, 0, none⟩)), (.pointer (some ⟨g5, 0, none⟩)), u6, (.slice la l.length lc), (.slice lb l.length mc), u9, A0, (.int .i64 0), A2, (.int .i64 0), (.pointer (some ⟨g14, 0, none⟩)), (.pointer (some ⟨g15, 0, none⟩)), (.int .i64 fv), (.int .i64 0), A8, A9, Aa, Ab, Ac, Ad, Ae, Af, Ag, Ah, Ai, Aj, Ak, Al, Am, An, Ao, Ap, Aq, Ar, As, At, Au, Av, Aw, Ax, Ay, Az, C0, C1, C2, C3, C4, C5, C6, C7, C8, C9, Ca, Cb, Cc, Cd, Ce, Cf, Cg, Ch, Ci, Cj, Ck, Cl, Cm, Cn, Co, Cp, Cq, Cr, Cs, Ct, Cu, Cv, Cw, Cx, Cy, Cz, D0, D1, D2, D3, D4, D5, D6, D7, D8, D9, Da, Db, Dc, Dd, De, Df, Dg, Dh, Di, Dj, Dk, Dl, Dm, Dn, Do, Dp, Dq, Dr, Ds, Dt, Du, Dv, Dw, Dx, Dy, Dz, E0, E1, E2, E3, E4, E5, E6, E7, E8, E9, Ea, Eb, Ec, Ed, Ee, Ef, Eg, Eh, Ei, Ej, Ek, El, Em, En, Eo, Ep, Eq, Er, Es, Et, Eu, Ev, Ew, Ex, Ey, Ez, F0, F1, F2, F3, F4, F5, F6, F7, F8, F9, Fa, Fb, Fc, Fd, Fe, Ff, Fg, Fh, Fi, Fj, Fk, Fl, Fm, Fn, Fo, Fp, Fq, Fr, Fs, Ft, Fu, Fv, Fw, Fx, Fy, Fz, L0, L1, L2, L3, L4, L5, L6, L7, L8, L9, La, Lb, Lc, Ld, Le, Lf, Lg, Lh, Li, Lj, Lk, Ll, Lm, Ln, Lo, Lp, Lq, Lr, Ls, Lt, Lu, Lv, Lw, Lx, Ly, Lz, M0, M1, M2, M3, M4, M5, M6, M7, M8, M9, Ma, Mb, Mc, Md, Me, Mf, Mg, Mh, Mi, Mj, Mk, Ml, Mm, Mn, Mo, Mp, Mq, Mr, Ms, Mt, Mu, Mv, Mw, Mx, My, Mz, N0, N1, N2, N3, N4, N5, N6, N7, N8, N9, Na, Nb, Nc, Nd, Ne, Nf, Ng, Nh, Ni, Nj, Nk, Nl, Nm], []⟩ w := by
  rw [mirest16_eq]
  have HS := hidMk hs
  have HT := hidMk htun
  have HSO := hidMk hshort
  clear hs htun hshort
  have hnm := HS.out.nm
  have HFO := hidMk hfine
  clear hfine
  have HGT := hidMk gt
  have HGU := hidMk gu
  have HTT := hidMk hT
  have HK := hidMk hk
  clear gt gu hT hk
  go_wp2_with (refine wpList_load_row rfl 30 _ rfl g5 rfl _ (jobC (mirJ K) (.slice oa n oc)) _ _ HS.out.j5 Try.underlying30 rfl szJob ?_)
  refine (fineF_any HFO.out (mirJ K) oa n oc lb l.length mc (l.map (3 - ·)) _ HS.out.hn5 hnm HS.out.r5 (by simp) (by have := HS.out.l4; omega) HS.out.im).mono ?_
  rintro e w2 ⟨rfl, hb2⟩
  have HS2 := hidMk (HS.out.next hb2)
  have k1 := HGT.out.below hb2 HGT.out.lt
  have k2 := HGU.out.below hb2 HGU.out.lt
  have ef : fineX (mirJ K) (l.map (3 - ·)) = (fv, 0) := by
    have := fineS_mir K HS.out.l12
    unfold fineS at this
    rw [fine_0 HS.out.fl5, this, HK.out]
  rw [ef]
  clear hb2 ef
  go_wp2_with fail
  exact mipart17 HT.out HSO.out HS2.out k1 k2 HTT.out
set_option maxHeartbeats 4000000 in
set_option maxRecDepth 1000000 in
theorem mipart15 {w0 w : World} {g4 g5 : Nat} {K : Jb} {a oa la lb : Option Addr} {n c oc lc mc : Nat} {l : List Int} {g14 g15 : Nat} {T : Tg} {u0 u1 u2 u3 u6 u9 A0 A2 A6 A7 A8 A9 Aa Ab Ac Ad Ae Af Ag Ah Ai Aj Ak Al Am An Ao Ap Aq Ar As At Au Av Aw Ax Ay Az C0 C1 C2 C3 C4 C5 C6 C7 C8 C9 Ca Cb Cc Cd Ce Cf Cg Ch Ci Cj Ck Cl Cm Cn Co Cp Cq Cr Cs Ct Cu Cv Cw Cx Cy Cz D0 D1 D2 D3 D4 D5 D6 D7 D8 D9 Da Db Dc Dd De Df Dg Dh Di Dj Dk Dl Dm Dn Do Dp Dq Dr Ds Dt Du Dv Dw Dx Dy Dz E0 E1 E2 E3 E4 E5 E6 E7 E8 E9 Ea Eb Ec Ed Ee Ef Eg Eh Ei Ej Ek El Em En Eo Ep Eq Er Es Et Eu Ev Ew Ex Ey Ez F0 F1 F2 F3 F4 F5 F6 F7 F8 F9 Fa Fb Fc Fd Fe Ff Fg Fh Fi Fj Fk Fl Fm Fn Fo Fp Fq Fr Fs Ft Fu Fv Fw Fx Fy Fz L0 L1 L2 L3 L4 L5 L6 L7 L8 L9 La Lb Lc Ld Le Lf Lg Lh Li Lj Lk Ll Lm Ln Lo Lp Lq Lr Ls Lt Lu Lv Lw Lx Ly Lz M0 M1 M2 M3 M4 M5 M6 M7 M8 M9 Ma Mb Mc Md Me Mf Mg Mh Mi Mj Mk Ml Mm Mn Mo Mp Mq Mr Ms Mt Mu Mv Mw Mx My Mz N0 N1 N2 N3 N4 N5 N6 N7 N8 N9 Na Nb Nc Nd Ne Nf Ng Nh Ni Nj Nk Nl Nm : Value} (htun : TunOK) (hshort : ShortOK) (hfine : FineOK) (hs : MS w0 g4 g5 K a n c oa oc la lb l w) (gt : Bk w g14 25 #[.int .i64 T.p1, .int .i64 T.p2, .int .i64 T.t1, .int .i64 T.t2, .int .i64 T.r1, .int .i64 T.r2]) (gu : Bk w g15 25 #[.int .i64 (-T.p2), .int .i64 (-T.p1), .int .i64 T.r1, .int .i64 T.r2, .int .i64 T.t1, .int .i64 T.t2]) (hT : T.In 1000) : Code.wp Try.prog mirest15 (QMI w0) ⟨#[u0, u1, u2, u3, (.pointer (some ⟨g4, 0, none⟩)), (.pointer (some ⟨g5, 0, none⟩)), u6, (.slice la l.length lc), (.slice lb l.length mc), u9, A0, (.int .i64 0), A2, (.int .i64 0), (.pointer (some ⟨g14, 0, none⟩)), (.pointer (some ⟨g15, 0, none⟩)), A6, A7, A8, A9, Aa, Ab, Ac, Ad, Ae, Af, Ag, Ah, Ai, Aj, Ak, Al, Am, An, Ao, Ap, Aq, Ar, As, At, Au, Av, Aw, Ax, Ay, Az, C0, C1, C2, C3, C4, C5, C6, C7, C8, C9, Ca, Cb, Cc, Cd, Ce, Cf, Cg, Ch, Ci, Cj, Ck, Cl, Cm, Cn, Co, Cp, Cq, Cr, Cs, Ct, Cu, Cv, Cw, Cx, Cy, Cz, D0, D1, D2, D3, D4, D5, D6, D7, D8, D9, Da, Db, Dc, Dd, De, Df, Dg, Dh, Di, Dj, Dk, Dl, Dm, Dn, Do, Dp, Dq, Dr, Ds, Dt, Du, Dv, Dw, Dx, Dy, Dz, E0, E1, E2, E3, E4, E5, E6, E7, E8, E9, Ea, Eb, Ec, Ed, Ee, Ef, Eg, Eh, Ei, Ej, Ek, El, Em, En, Eo, Ep, Eq, Er, Es, Et, Eu, Ev, Ew, Ex, Ey, Ez, F0, F1, F2, F3, F4, F5, F6, F7, F8, F9, Fa, Fb, Fc, Fd, Fe, Ff, Fg, Fh, Fi, Fj, Fk, Fl, Fm, Fn, Fo, Fp, Fq, Fr, Fs, Ft, Fu, Fv, Fw, Fx, Fy, Fz, L0, L1, L2, L3, L4, L5, L6, L7, L8, L9, La, Lb, Lc, Ld, Le, Lf, Lg, Lh, Li, Lj, Lk, Ll, Lm, Ln, Lo, Lp, Lq, Lr, Ls, Lt, Lu, Lv, Lw, Lx, Ly, Lz, M0, M1, M2, M3, M4, M5, M6, M7, M8, M9, Ma, Mb, Mc, Md, Me, Mf, Mg, Mh, Mi, Mj, Mk, Ml, Mm, Mn, Mo, Mp, Mq, Mr, Ms, Mt, Mu, Mv, Mw, Mx, My, Mz, N0, N1, N2, N3, N4, N5, N6, N7, N8, N9, Na, Nb, Nc, Nd, Ne, Nf, Ng, Nh, Ni, Nj, Nk, Nl, Nm], []⟩ w := by
  rw [mirest15_eq]
  have HS := hidMk hs
  have HT := hidMk htun
  have HSO := hidMk hshort
  clear hs htun hshort
  have hnm := HS.out.nm
  have HFO := hidMk hfine
  clear hfine
  have HGT := hidMk gt
  have HGU := hidMk gu
  have HTT := hidMk hT
  clear gt gu hT
  go_wp2_with (refine wpList_load_row rfl 30 _ rfl g4 rfl _ (jobC K (.slice a n c)) _ _ HS.out.j4 Try.underlying30 rfl szJob ?_)
  refine (fineF_any HFO.out K a n c la l.length lc l _ HS.out.hn hnm HS.out.r4 (by simp) (by have := HS.out.l4; omega) HS.out.il).mono ?_
  rintro e w2 ⟨rfl, hb2⟩
  have HS2 := hidMk (HS.out.next hb2)
  have k1 := HGT.out.below hb2 HGT.out.lt
  have k2 := HGU.out.below hb2 HGU.out.lt
  rw [fine_0 HS.out.fl]
  clear hb2
  go_wp2_with fail
  exact mipart16 HT.out HSO.out HFO.out HS2.out k1 k2 HTT.out rfl
set_option maxHeartbeats 4000000 in
set_option maxRecDepth 1000000 in
theorem mipart14 {w0 w : World} {g4 g5 : Nat} {K : Jb} {a oa la lb : Option Addr} {n c oc lc mc : Nat} {l : List Int} {g14 : Nat} {T : Tg} {u0 u1 u2 u3 u6 u9 A0 A2 A3 A5 A6 A7 A8 A9 Aa Ab Ac Ad Ae Af Ag Ah Ai Aj Ak Al Am An Ao Ap Aq Ar As At Au Av Aw Ax Ay Az C0 C1 C2 C3 C4 C5 C6 C7 C8 C9 Ca Cb Cc Cd Ce Cf Cg Ch Ci Cj Ck Cl Cm Cn Co Cp Cq Cr Cs Ct Cu Cv Cw Cx Cy Cz D0 D1 D2 D3 D4 D5 D6 D7 D8 D9 Da Db Dc Dd De Df Dg Dh Di Dj Dk Dl Dm Dn Do Dp Dq Dr Ds Dt Du Dv Dw Dx Dy Dz E0 E1 E2 E3 E4 E5 E6 E7 E8 E9 Ea Eb Ec Ed Ee Ef Eg Eh Ei Ej Ek El Em En Eo Ep Eq Er Es Et Eu Ev Ew Ex Ey Ez F0 F1 F2 F3 F4 F5 F6 F7 F8 F9 Fa Fb Fc Fd Fe Ff Fg Fh Fi Fj Fk Fl Fm Fn Fo Fp Fq Fr Fs Ft Fu Fv Fw Fx Fy Fz L0 L1 L2 L3 L4 L5 L6 L7 L8 L9 La Lb Lc Ld Le Lf Lg Lh Li Lj Lk Ll Lm Ln Lo Lp Lq Lr Ls Lt Lu Lv Lw Lx Ly Lz M0 M1 M2 M3 M4 M5 M6 M7 M8 M9 Ma Mb Mc Md Me Mf Mg Mh Mi Mj Mk Ml Mm Mn Mo Mp Mq Mr Ms Mt Mu Mv Mw Mx My Mz N0 N1 N2 N3 N4 N5 N6 N7 N8 N9 Na Nb Nc Nd Ne Nf Ng Nh Ni Nj Nk Nl Nm : Value} (htun : TunOK) (hshort : ShortOK) (hfine : FineOK) (hs : MS w0 g4 g5 K a n c oa oc la lb l w) (gt : Bk w g14 25 #[.int .i64 T.p1, .int .i64 T.p2, .int .i64 T.t1, .int .i64 T.t2, .int .i64 T.r1, .int .i64 T.r2]) (hT : T.In 1000) (hk : T = afterS K K.tg l) : Code.wp Try.prog mirest14 (QMI w0) ⟨#[u0, u1, u2, u3, (.pointer (some ⟨g4, 0, none⟩)), (.pointer (some ⟨g5, 0, none⟩)), u6, (.slice la l.length lc), (.slice lb l.length mc), u9, A0, (.int .i64 0), A2, A3, (.pointer (some ⟨g14, 0, none⟩)), A5, A6, A7, A8, A9, Aa, Ab, Ac, Ad, Ae, Af, Ag, Ah, Ai, Aj, Ak, Al, Am, An, Ao, Ap, Aq, Ar, As, At, Au, Av, Aw, Ax, Ay, Az, C0, C1, C2, C3, C4, C5, C6, C7, C8, C9, Ca, Cb, Cc, Cd, Ce, Cf, Cg, Ch, Ci, Cj, Ck, Cl, Cm, Cn, Co, Cp, Cq, Cr, Cs, Ct, Cu, Cv, Cw, Cx, Cy, Cz, D0, D1, D2, D3, D4, D5, D6, D7, D8, D9, Da, Db, Dc, Dd, De, Df, Dg, Dh, Di, Dj, Dk, Dl, Dm, Dn, Do, Dp, Dq, Dr, Ds, Dt, Du, Dv, Dw, Dx, Dy, Dz, E0, E1, E2, E3, E4, E5, E6, E7, E8, E9, Ea, Eb, Ec, Ed, Ee, Ef, Eg, Eh, Ei, Ej, Ek, El, Em, En, Eo, Ep, Eq, Er, Es, Et, Eu, Ev, Ew, Ex, Ey, Ez, F0, F1, F2, F3, F4, F5, F6, F7, F8, F9, Fa, Fb, Fc, Fd, Fe, Ff, Fg, Fh, Fi, Fj, Fk, Fl, Fm, Fn, Fo, Fp, Fq, Fr, Fs, Ft, Fu, Fv, Fw, Fx, Fy, Fz, L0, L1, L2, L3, L4, L5, L6, L7, L8, L9, La, Lb, Lc, Ld, Le, Lf, Lg, Lh, Li, Lj, Lk, Ll, Lm, Ln, Lo, Lp, Lq, Lr, Ls, Lt, Lu, Lv, Lw, Lx, Ly, Lz, M0, M1, M2, M3, M4, M5, M6, M7, M8, M9, Ma, Mb, Mc, Md, Me, Mf, Mg, Mh, Mi, Mj, Mk, Ml, Mm, Mn, Mo, Mp, Mq, Mr, Ms, Mt, Mu, Mv, Mw, Mx, My, Mz, N0, N1, N2, N3, N4, N5, N6, N7, N8, N9, Na, Nb, Nc, Nd, Ne, Nf, Ng, Nh, Ni, Nj, Nk, Nl, Nm], []⟩ w := by
  rw [mirest14_eq]
  have HS := hidMk hs
  have HT := hidMk htun
  have HSO := hidMk hshort
  clear hs htun hshort
  have hnm := HS.out.nm
  have HFO := hidMk hfine
  clear hfine
  have HGT := hidMk gt
  have HTT := hidMk hT
  have HK := hidMk hk
  clear gt hT hk
  go_wp2_with (refine wpList_load_row rfl 30 _ rfl g5 rfl _ (jobC (mirJ K) (.slice oa n oc)) _ _ HS.out.j5 Try.underlying30 rfl szJob ?_)
  refine (afterF_any (mirJ K) oa n oc lb l.length mc (l.map (3 - ·)) _ HS.out.hn5 hnm HS.out.r5 (by simp) (by have := HS.out.l4; omega) HS.out.im).mono ?_
  rintro e w2 ⟨he, hb2⟩
  rw [if_pos HS.out.fl5, tg_mir, after_mir K l HS.out.l12, ← HK.out] at he
  subst he
  have HS2 := hidMk (HS.out.next hb2)
  have k1 := HGT.out.below hb2 HGT.out.lt
  clear hb2
  go_wp2_with fail
  have q : Below w2.heap.size w2 (w2.alloc (.cells #[.int .i64 (-T.p2), .int .i64 (-T.p1), .int .i64 T.r1, .int .i64 T.r2, .int .i64 T.t1, .int .i64 T.t2] 25)) := (Below.refl _ _).alloc (Nat.le_refl _) _
  exact mipart15 HT.out HSO.out HFO.out (HS2.out.next q) (k1.below q k1.lt) (Bk.new _ _ _) HTT.out
set_option maxHeartbeats 4000000 in
set_option maxRecDepth 1000000 in
theorem mipart13 {w0 w : World} {g4 g5 : Nat} {K : Jb} {a oa la lb : Option Addr} {n c oc lc mc : Nat} {l : List Int} {u0 u1 u2 u3 u6 u9 A0 A1 A2 A3 A4 A5 A6 A7 A8 A9 Aa Ab Ac Ad Ae Af Ag Ah Ai Aj Ak Al Am An Ao Ap Aq Ar As At Au Av Aw Ax Ay Az C0 C1 C2 C3 C4 C5 C6 C7 C8 C9 Ca Cb Cc Cd Ce Cf Cg Ch Ci Cj Ck Cl Cm Cn Co Cp Cq Cr Cs Ct Cu Cv Cw Cx Cy Cz D0 D1 D2 D3 D4 D5 D6 D7 D8 D9 Da Db Dc Dd De Df Dg Dh Di Dj Dk Dl Dm Dn Do Dp Dq Dr Ds Dt Du Dv Dw Dx Dy Dz E0 E1 E2 E3 E4 E5 E6 E7 E8 E9 Ea Eb Ec Ed Ee Ef Eg Eh Ei Ej Ek El Em En Eo Ep Eq Er Es Et Eu Ev Ew Ex Ey Ez F0 F1 F2 F3 F4 F5 F6 F7 F8 F9 Fa Fb Fc Fd Fe Ff Fg Fh Fi Fj Fk Fl Fm Fn Fo Fp Fq Fr Fs Ft Fu Fv Fw Fx Fy Fz L0 L1 L2 L3 L4 L5 L6 L7 L8 L9 La Lb Lc Ld Le Lf Lg Lh Li Lj Lk Ll Lm Ln Lo Lp Lq Lr Ls Lt Lu Lv Lw Lx Ly Lz M0 M1 M2 M3 M4 M5 M6 M7 M8 M9 Ma Mb Mc Md Me Mf Mg Mh Mi Mj Mk Ml Mm Mn Mo Mp Mq Mr Ms Mt Mu Mv Mw Mx My Mz N0 N1 N2 N3 N4 N5 N6 N7 N8 N9 Na Nb Nc Nd Ne Nf Ng Nh Ni Nj Nk Nl Nm : Value} (htun : TunOK) (hshort : ShortOK) (hfine : FineOK) (hs : MS w0 g4 g5 K a n c oa oc la lb l w) : Code.wp Try.prog mirest13 (QMI w0) ⟨#[u0, u1, u2, u3, (.pointer (some ⟨g4, 0, none⟩)), (.pointer (some ⟨g5, 0, none⟩)), u6, (.slice la l.length lc), (.slice lb l.length mc), u9, A0, A1, A2, A3, A4, A5, A6, A7, A8, A9, Aa, Ab, Ac, Ad, Ae, Af, Ag, Ah, Ai, Aj, Ak, Al, Am, An, Ao, Ap, Aq, Ar, As, At, Au, Av, Aw, Ax, Ay, Az, C0, C1, C2, C3, C4, C5, C6, C7, C8, C9, Ca, Cb, Cc, Cd, Ce, Cf, Cg, Ch, Ci, Cj, Ck, Cl, Cm, Cn, Co, Cp, Cq, Cr, Cs, Ct, Cu, Cv, Cw, Cx, Cy, Cz, D0, D1, D2, D3, D4, D5, D6, D7, D8, D9, Da, Db, Dc, Dd, De, Df, Dg, Dh, Di, Dj, Dk, Dl, Dm, Dn, Do, Dp, Dq, Dr, Ds, Dt, Du, Dv, Dw, Dx, Dy, Dz, E0, E1, E2, E3, E4, E5, E6, E7, E8, E9, Ea, Eb, Ec, Ed, Ee, Ef, Eg, Eh, Ei, Ej, Ek, El, Em, En, Eo, Ep, Eq, Er, Es, Et, Eu, Ev, Ew, Ex, Ey, Ez, F0, F1, F2, F3, F4, F5, F6, F7, F8, F9, Fa, Fb, Fc, Fd, Fe, Ff, Fg, Fh, Fi, Fj, Fk, Fl, Fm, Fn, Fo, Fp, Fq, Fr, Fs, Ft, Fu, Fv, Fw, Fx, Fy, Fz, L0, L1, L2, L3, L4, L5, L6, L7, L8, L9, La, Lb, Lc, Ld, Le, Lf, Lg, Lh, Li, Lj, Lk, Ll, Lm, Ln, Lo, Lp, Lq, Lr, Ls, Lt, Lu, Lv, Lw, Lx, Ly, Lz, M0, M1, M2, M3, M4, M5, M6, M7, M8, M9, Ma, Mb, Mc, Md, Me, Mf, Mg, Mh, Mi, Mj, Mk, Ml, Mm, Mn, Mo, Mp, Mq, Mr, Ms, Mt, Mu, Mv, Mw, Mx, My, Mz, N0, N1, N2, N3, N4, N5, N6, N7, N8, N9, Na, Nb, Nc, Nd, Ne, Nf, Ng, Nh, Ni, Nj, Nk, Nl, Nm], []⟩ w := by
  rw [mirest13_eq]
  have HS := hidMk hs
  have HT := hidMk htun
  have HSO := hidMk hshort
  clear hs htun hshort
  have hnm := HS.out.nm
  have HFO := hidMk hfine
  clear hfine
  go_wp2_with (refine wpList_load_row rfl 30 _ rfl g4 rfl _ (jobC K (.slice a n c)) _ _ HS.out.j4 Try.underlying30 rfl szJob ?_)
  refine (afterF_any K a n c la l.length lc l _ HS.out.hn hnm HS.out.r4 (by simp) (by have := HS.out.l4; omega) HS.out.il).mono ?_
  rintro e w2 ⟨he, hb2⟩
  obtain ⟨T, hT⟩ : ∃ T, T = afterS K K.tg l := ⟨_, rfl⟩
  rw [if_pos HS.out.fl, ← hT] at he
  subst he
  have HS2 := hidMk (HS.out.next hb2)
  have HTE := hidMk hT
  clear hb2 hT
  go_wp2_with fail
  have q : Below w2.heap.size w2 (w2.alloc (.cells #[.int .i64 T.p1, .int .i64 T.p2, .int .i64 T.t1, .int .i64 T.t2, .int .i64 T.r1, .int .i64 T.r2] 25)) := (Below.refl _ _).alloc (Nat.le_refl _) _
  refine mipart14 HT.out HSO.out HFO.out (HS2.out.next q) (Bk.new _ _ _) ?_ HTE.out
  rw [HTE.out]
  have hi := (check_ok HS.out.ck).inn
  exact (afterS_in K (hi.mono (by decide)) l K.tg 100 hi.tg).mono (by have := HS.out.l4; omega)
end Go.Proofs.Ytbebofmpimfbgaa
