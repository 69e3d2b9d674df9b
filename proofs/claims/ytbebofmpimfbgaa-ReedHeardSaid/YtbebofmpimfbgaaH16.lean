/- Part 16 of the proof: GdA, GdB, GdC. -/
import Derived.Test.YtbebofmpimfbgaaH15
import Derived.Test.YtbebofmpimfbgaaH14
/- Guided: its code in parts, and what lies about in it. -/
namespace Go.Proofs.Ytbebofmpimfbgaa
set_option linter.all false
open Go.RowKit Go.Shelf
noncomputable def gdbody : Code := Try.f15.body.getD .skip
noncomputable def gdrest1 : Code := sndB gdbody
noncomputable def gdrest2 : Code := sndB gdrest1
noncomputable def gdrest3 : Code := sndB gdrest2
noncomputable def gdrest4 : Code := sndB gdrest3
noncomputable def gdrest5 : Code := sndB gdrest4
set_option maxRecDepth 1000000 in
theorem gdbody_eq : gdbody = .seq (Code.region 0 #[⟨some 1, .box 30 (.tmp 0), 0, "game.go:22", #[], none⟩, ⟨some 2, .alloc 3, 0, "game.go:22", #[], none⟩, ⟨some 3, .alloc 39, 0, "game.go:22", #[], none⟩] false) gdrest1 := by kernel_rfl
set_option maxRecDepth 1000000 in
theorem gdrest1_eq : gdrest1 = .seq (.seq (Code.region 1 #[⟨some 9, .load 30 (.tmp 1), 30, "game.go:23", #[], none⟩, ⟨some 10, .call { callee := .value (.func 52), args := #[.tmp 9], argTypes := #[30] }, 39, "game.go:23", #[⟨0, .data⟩], none⟩, ⟨some 4, .assign (.tmp 10), 39, "game.go:23", #[⟨1, .data⟩, ⟨1, .chain⟩, ⟨0, .phase⟩, ⟨1, .phase⟩], none⟩] false) (.seq (Code.region 2 #[⟨some 11, .move (.tmp 4), 39, "game.go:23", #[], none⟩, ⟨some 12, .binOp .neq 39 (.tmp 11) (.const (.int .i64 0)) 39, 4, "game.go:23", #[⟨0, .data⟩], none⟩] false) (.cond (.tmp 12) (.seq (Code.region 3 #[⟨some 13, .move (.tmp 4), 39, "game.go:24", #[⟨1, .gcOnly .lateStores⟩], none⟩, ⟨none, .store 3 (.tmp 2) (.const (.int .i64 0)), 0, "game.go:24", #[⟨0, .textOnly .lateStores⟩], none⟩, ⟨none, .store 39 (.tmp 3) (.tmp 13), 0, "game.go:24", #[⟨0, .data⟩, ⟨1, .chain⟩, ⟨0, .phase⟩, ⟨1, .phase⟩], none⟩] false) .ret) .skip))) gdrest2 := by kernel_rfl
set_option maxRecDepth 1000000 in
theorem gdrest2_eq : gdrest2 = .seq (Code.region 4 #[⟨some 14, .load 30 (.tmp 1), 30, "game.go:26", #[], none⟩, ⟨some 15, .call { callee := .value (.func 53), args := #[.tmp 14], argTypes := #[30] }, 85, "game.go:26", #[⟨0, .data⟩], none⟩, ⟨some 5, .alloc 85, 0, "game.go:26", #[], none⟩, ⟨none, .store 85 (.tmp 5) (.tmp 15), 0, "game.go:26", #[⟨2, .data⟩, ⟨1, .data⟩, ⟨1, .chain⟩, ⟨0, .phase⟩, ⟨1, .phase⟩, ⟨2, .phase⟩], none⟩] false) gdrest3 := by kernel_rfl
set_option maxRecDepth 1000000 in
theorem gdrest3_eq : gdrest3 = .seq (Code.region 5 #[⟨some 6, .alloc 3, 0, "game.go:27", #[], none⟩, ⟨none, .store 3 (.tmp 6) (.const (.int .i64 0)), 0, "game.go:27", #[⟨0, .data⟩, ⟨0, .phase⟩], none⟩] false) gdrest4 := by kernel_rfl
set_option maxRecDepth 1000000 in
theorem gdrest5_eq : gdrest5 = .seq (Code.region 13 #[⟨some 36, .load 3 (.tmp 6), 3, "game.go:36", #[], none⟩, ⟨none, .store 3 (.tmp 2) (.tmp 36), 0, "game.go:36", #[⟨0, .data⟩, ⟨0, .phase⟩], none⟩, ⟨none, .store 39 (.tmp 3) (.const (.int .i64 0)), 0, "game.go:36", #[⟨1, .chain⟩, ⟨0, .phase⟩, ⟨1, .phase⟩], none⟩] false) .ret := by kernel_rfl
noncomputable def gfa : Code := ((rfB gdrest4).getD (.skip, .skip)).1
noncomputable def gfb : Code := ((rfB gdrest4).getD (.skip, .skip)).2
noncomputable def gfc : Code := ((blkB gfb).getD .skip)
noncomputable def gb0 : Code := gfc
noncomputable def gb1 : Code := sndB gb0
noncomputable def gb2 : Code := sndB gb1
noncomputable def gb3 : Code := sndB gb2
set_option maxRecDepth 1000000 in
theorem gb0_eq : gb0 = .seq (Code.region 8 #[⟨some 23, .fieldAddr 30 (.tmp 1) 0, 0, "game.go:29", #[], none⟩, ⟨some 24, .load 25 (.tmp 23), 25, "game.go:29", #[⟨0, .data⟩], none⟩, ⟨some 8, .alloc 25, 0, "game.go:29", #[], none⟩, ⟨none, .store 25 (.tmp 8) (.tmp 24), 0, "game.go:29", #[⟨2, .data⟩, ⟨1, .data⟩, ⟨0, .phase⟩, ⟨1, .phase⟩, ⟨2, .phase⟩], none⟩] false) gb1 := by kernel_rfl
set_option maxRecDepth 1000000 in
theorem gb1_eq : gb1 = .seq (Code.region 9 #[⟨some 25, .load 23 (.tmp 7), 23, "game.go:30", #[], none⟩, ⟨some 26, .fieldAddr 25 (.tmp 8) 0, 0, "game.go:30", #[⟨0, .phase⟩], none⟩, ⟨none, .store 23 (.tmp 26) (.tmp 25), 0, "game.go:30", #[⟨1, .data⟩, ⟨0, .data⟩, ⟨0, .phase⟩], none⟩] false) gb2 := by kernel_rfl
set_option maxRecDepth 1000000 in
theorem gb2_eq : gb2 = .seq (Code.region 10 #[⟨some 27, .load 3 (.tmp 6), 3, "game.go:31", #[], none⟩, ⟨some 28, .load 85 (.tmp 5), 85, "game.go:31", #[], none⟩, ⟨some 29, .load 25 (.tmp 8), 25, "game.go:31", #[], none⟩, ⟨some 30, .build 93 #[(0, .tmp 29), (1, .const (.int .i64 4))], 93, "game.go:31", #[⟨2, .data⟩], none⟩, ⟨some 31, .call { callee := .value (.tmp 28), args := #[.tmp 30], argTypes := #[93] }, 91, "game.go:31", #[⟨1, .data⟩, ⟨3, .data⟩], none⟩, ⟨some 32, .field 91 (.tmp 31) 1, 3, "game.go:31", #[⟨4, .data⟩], none⟩, ⟨some 33, .call { callee := .builtin .max, args := #[.tmp 27, .tmp 32], argTypes := #[3, 3] }, 3, "game.go:31", #[⟨0, .data⟩, ⟨5, .data⟩], none⟩, ⟨none, .store 3 (.tmp 6) (.tmp 33), 0, "game.go:31", #[⟨6, .data⟩, ⟨4, .chain⟩, ⟨0, .phase⟩, ⟨1, .phase⟩, ⟨2, .phase⟩, ⟨3, .phase⟩, ⟨4, .phase⟩, ⟨5, .phase⟩, ⟨6, .phase⟩], none⟩] true) gb3 := by kernel_rfl
set_option maxRecDepth 1000000 in
theorem gb3_eq : gb3 = .seq (Code.region 11 #[⟨some 34, .load 3 (.tmp 6), 3, "game.go:32", #[], none⟩, ⟨some 35, .binOp .eql 3 (.tmp 34) (.const (.int .i64 5)) 3, 4, "game.go:32", #[⟨0, .data⟩], none⟩] false) (.cond (.tmp 35) (.seq (Code.region 12 #[⟨none, .store 3 (.tmp 2) (.const (.int .i64 0)), 0, "game.go:33", #[], none⟩, ⟨none, .store 39 (.tmp 3) (.const (.int .i64 11)), 0, "game.go:33", #[⟨0, .chain⟩, ⟨0, .phase⟩], none⟩] false) .ret) .skip) := by kernel_rfl
set_option maxRecDepth 1000000 in
theorem gfa_eq : gfa = (Code.region 7 #[⟨some 7, .alloc 23, 0, "game.go:28", #[], none⟩, ⟨none, .store 23 (.tmp 7) (.tmp 22), 0, "game.go:28", #[⟨0, .data⟩, ⟨0, .phase⟩], none⟩] false) := by kernel_rfl
set_option maxRecDepth 1000000 in
theorem gfb_eq : gfb = .block 1 gb0 := by kernel_rfl
set_option maxRecDepth 1000000 in
theorem gdrest4_cut : gdrest4 = .seq (.seq (Code.region 6 #[⟨some 16, .fieldAddr 30 (.tmp 1) 0, 0, "game.go:28", #[], none⟩, ⟨some 17, .fieldAddr 25 (.tmp 16) 0, 0, "game.go:28", #[⟨0, .data⟩], none⟩, ⟨some 18, .load 23 (.tmp 17), 23, "game.go:28", #[⟨1, .data⟩], none⟩, ⟨some 19, .fieldAddr 30 (.tmp 1) 4, 0, "game.go:28", #[], none⟩, ⟨some 20, .load 3 (.tmp 19), 3, "game.go:28", #[⟨3, .data⟩], none⟩, ⟨some 21, .call { callee := .value (.func 54), args := #[.tmp 18, .tmp 20], argTypes := #[23, 3] }, 88, "game.go:28", #[⟨2, .data⟩, ⟨4, .data⟩], none⟩] false) (.block 0 (.rangeFunc (.tmp 21) #[22] gfa gfb))) gdrest5 := by kernel_rfl
def gv (J : Jb) (pre : List R2) : Int := pre.foldl (fun m r => mx m (bestM J 4 { J.tg with p1 := r.1, p2 := r.2 }).2) 0
theorem gv_snoc (J : Jb) (pre : List R2) (x : R2) : gv J (pre ++ [x]) = mx (gv J pre) (bestM J 4 { J.tg with p1 := x.1, p2 := x.2 }).2 := by simp [gv]
theorem gv_nn (J : Jb) (pre : List R2) : 0 ≤ gv J pre := fold_le _ _ _
theorem gv_top (J : Jb) (pre : List R2) : gv J pre ≤ 5 := fold_top _ _ (fun r => (best_bound J 4 _).2) _ _ (by decide)
theorem gv_pre (J : Jb) {p l : List R2} (h : p <+: l) : gv J p ≤ gv J l := by
  obtain ⟨q, rfl⟩ := h
  unfold gv
  rw [List.foldl_append]
  exact fold_le _ _ _
theorem gv_all (J : Jb) : gv J (readsL J.p1 J.p2 J.me) = guideI J := rfl
def guidedI (J : Jb) : Int × Int := if J.check = 0 then (if guideI J = 5 then (0, 11) else (guideI J, 0)) else (0, J.check)
theorem results_int2 {P : Program} {fn : Func} {p q : Tmp} {ty tz : TypeId} {k : IntKind} {m : IntKind} (h : fn.results = #[.cell p ty, .cell q tz]) (tmps : Array Value) (w : World) (g g' : Nat) (t t' : TypeId) (v u : Value)
    (hp : tmps.getD p undef = .pointer (some ⟨g, 0, none⟩)) (hq : tmps.getD q undef = .pointer (some ⟨g', 0, none⟩)) (hg : Bk w g t #[v]) (hg' : Bk w g' t' #[u])
    (hu : P.underlying ty = some (.int k)) (hz : P.underlying tz = some (.int m)) :
    (results fn tmps).run P w = .ok (.tuple #[v, u]) w := by
  have hp' : tmps[p]?.getD undef = .pointer (some ⟨g, 0, none⟩) := by simpa using hp
  have hq' : tmps[q]?.getD undef = .pointer (some ⟨g', 0, none⟩) := by simpa using hq
  have c1 := hg.at_ 0 v rfl
  have c2 := hg'.at_ 0 u rfl
  simp [results, h, hp', hq', asAddr, loadVar, Sem.run_bind, isAgg, run_underlying hu w, run_underlying hz w, run_load, c1, c2]
theorem Stp.b0 {bm g h : Nat} {w0 X Y : World} (a : Stp bm g h X Y) (hb : Below w0.heap.size w0 X) (h1 : w0.heap.size ≤ bm) (h2 : w0.heap.size ≤ g) (h3 : w0.heap.size ≤ h) : Below w0.heap.size X Y :=
  ⟨a.os, a.tape, a.output, a.size, fun i hi => a.same i (Nat.lt_of_lt_of_le hi hb.size) (by omega) (by omega) (by omega)⟩
/-- How the blocks of Guided lie. -/
def GN (n0 g1 g2 g3 g5 g6 Bw Bf Bj Bb bm : Nat) : Prop := n0 ≤ g1 ∧ g1 < g2 ∧ g2 < g3 ∧ g3 < g5 ∧ g5 < g6 ∧ Bw < g5 ∧ Bf < g5 ∧ Bj < g5 ∧ Bb < g5 ∧ bm < g5 ∧ n0 ≤ bm
/-- What lies about in Guided. -/
structure GS (J : Jb) (sa : Option Addr) (sn sc : Nat) (w0 : World) (g1 g2 g3 g5 Bw Bf Bj Bb bm : Nat) (X : World) : Prop where
  ns : NS J sa sn sc w0 g1 X
  env : Env J (.slice sa sn sc) Bw Bf Bj Bb bm X
  r2 : Bk X g2 3 #[.int .i64 0]
  r3 : Bk X g3 39 #[.int .i64 0]
  fv : Bk X g5 85 #[(.func (.func 81) #[] #[.pointer (some ⟨Bw, 0, none⟩), .pointer (some ⟨Bf, 0, none⟩), .pointer (some ⟨Bj, 0, none⟩), .pointer (some ⟨Bb, 0, none⟩)])]
section
variable {J : Jb} {sa : Option Addr} {sn sc : Nat} {w0 : World} {g1 g2 g3 g5 g6 Bw Bf Bj Bb bm : Nat} {X Y : World}
theorem GS.stp (h : GS J sa sn sc w0 g1 g2 g3 g5 Bw Bf Bj Bb bm X) {c : Nat} (hM : Memo J X bm c) (hn : GN w0.heap.size g1 g2 g3 g5 g6 Bw Bf Bj Bb bm) (a : Stp bm g6 g6 X Y) : GS J sa sn sc w0 g1 g2 g3 g5 Bw Bf Bj Bb bm Y := by
  obtain ⟨n1, n2, n3, n4, n5, n6, n7, n8, n9, n10, n11⟩ := hn
  have k1 := bk_ne_memo h.ns.job hM
  have k2 := bk_ne_memo h.r2 hM
  have k3 := bk_ne_memo h.r3 hM
  have k5 := bk_ne_memo h.fv hM
  have kw := bk_ne_memo h.env.win hM
  have kf := bk_ne_memo h.env.found hM
  have kj := bk_ne_memo h.env.job hM
  have kb := bk_ne_memo h.env.best hM
  exact ⟨h.ns.of (a.b0 h.ns.b0 n11 (by omega) (by omega)) (a.bk h.ns.job k1 (by omega) (by omega)), ⟨a.bk h.env.win kw (by omega) (by omega), a.bk h.env.found kf (by omega) (by omega), a.bk h.env.job kj (by omega) (by omega), a.bk h.env.best kb (by omega) (by omega)⟩,
    a.bk h.r2 k2 (by omega) (by omega), a.bk h.r3 k3 (by omega) (by omega), a.bk h.fv k5 (by omega) (by omega)⟩
theorem GS.own (h : GS J sa sn sc w0 g1 g2 g3 g5 Bw Bf Bj Bb bm X) {B : Nat} {row : Option Nat} (hB : w0.heap.size ≤ B) (hg : X.grownBy Y row) (hr : ∀ r, row = some r → B ≤ r ∧ ∃ o : Obj, X.heap[r]? = some o ∧ o.isCells = false) : GS J sa sn sc w0 g1 g2 g3 g5 Bw Bf Bj Bb bm Y :=
  ⟨h.ns.of ⟨hg.os, hg.tape, hg.output, hg.size, fun i hi => hg.block i (Nat.lt_of_lt_of_le hi h.ns.b0.size) (fun e => by have := (hr i e.symm).1; omega)⟩ (h.ns.job.grown hg (row_ne h.ns.job hr)),
   ⟨h.env.win.grown hg (row_ne h.env.win hr), h.env.found.grown hg (row_ne h.env.found hr), h.env.job.grown hg (row_ne h.env.job hr), h.env.best.grown hg (row_ne h.env.best hr)⟩, h.r2.grown hg (row_ne h.r2 hr), h.r3.grown hg (row_ne h.r3 hr), h.fv.grown hg (row_ne h.fv hr)⟩
end
/-- What holds between two readings in Guided. -/
structure GI (J : Jb) (sa : Option Addr) (sn sc : Nat) (w0 : World) (g1 g2 g3 g5 g6 Bw Bf Bj Bb bm : Nat) (pre : List R2) (X : World) : Prop where
  gs : GS J sa sn sc w0 g1 g2 g3 g5 Bw Bf Bj Bb bm X
  memo : ∃ c', c' ≤ pre.length * cost 4 ∧ Memo J X bm c'
  val : Bk X g6 3 #[.int .i64 (gv J pre)]
  less : gv J pre ≠ 5
structure GX (J : Jb) (w0 : World) (g2 g3 : Nat) (cd : Code) (pre : List R2) (X : World) : Prop where
  out : cd = .ret
  more : gv J pre = 5
  b0 : Below w0.heap.size w0 X
  r2 : Bk X g2 3 #[.int .i64 0]
  r3 : Bk X g3 39 #[.int .i64 11]
structure SG (J : Jb) (sa : Option Addr) (sn sc : Nat) (w0 : World) (g1 g2 g3 g5 g6 g8 Bw Bf Bj Bb bm c : Nat) (x : R2) (X0 X : World) : Prop where
  stp : Stp bm g6 g6 X0 X
  gs : GS J sa sn sc w0 g1 g2 g3 g5 Bw Bf Bj Bb bm X
  memo : ∃ c', c' ≤ c ∧ Memo J X bm c'
  next : Bk X g8 25 #[.int .i64 { J.tg with p1 := x.1, p2 := x.2 }.p1, .int .i64 { J.tg with p1 := x.1, p2 := x.2 }.p2, .int .i64 { J.tg with p1 := x.1, p2 := x.2 }.t1, .int .i64 { J.tg with p1 := x.1, p2 := x.2 }.t2, .int .i64 { J.tg with p1 := x.1, p2 := x.2 }.r1, .int .i64 { J.tg with p1 := x.1, p2 := x.2 }.r2]
  val : ∃ z, Bk X g6 3 #[z]
theorem GI.own {J : Jb} {sa : Option Addr} {sn sc : Nat} {w0 : World} {g1 g2 g3 g5 g6 Bw Bf Bj Bb bm : Nat} {B : Nat} (hB : w0.heap.size ≤ B) (hbm : bm < B) (fm : R2 → R2) : OwnFrom B (fun (pre : List R2) (X : World) => GI J sa sn sc w0 g1 g2 g3 g5 g6 Bw Bf Bj Bb bm (pre.map fm) X) := by
  intro pre X Y row h hg hr
  obtain ⟨d, hd, hm⟩ := h.memo
  exact ⟨h.gs.own hB hg hr, ⟨d, hd, hm.kept hg (by intro e; have := (hr bm e.symm).1; omega)⟩, h.val.grown hg (row_ne h.val hr), h.less⟩
theorem GX.own {J : Jb} {w0 : World} {g2 g3 : Nat} {B : Nat} (hB : w0.heap.size ≤ B) (cd : Code) (fm : R2 → R2) : OwnFrom B (fun (pre : List R2) (X : World) => GX J w0 g2 g3 cd (pre.map fm) X) := by
  intro pre X Y row h hg hr
  exact ⟨h.out, h.more, h.b0.trans ⟨hg.os, hg.tape, hg.output, hg.size, fun i hi => hg.block i (Nat.lt_of_lt_of_le hi h.b0.size) (fun e => by have := (hr i e.symm).1; omega)⟩, h.r2.grown hg (row_ne h.r2 hr), h.r3.grown hg (row_ne h.r3 hr)⟩
section
variable {J : Jb} {sa : Option Addr} {sn sc : Nat} {w0 : World} {g1 g2 g3 g5 g6 Bw Bf Bj Bb bm : Nat} {g8 c c' : Nat} {x : R2} {X0 X Y : World}
theorem SG.call (h : SG J sa sn sc w0 g1 g2 g3 g5 g6 g8 Bw Bf Bj Bb bm c x X0 X) (hn : GN w0.heap.size g1 g2 g3 g5 g6 Bw Bf Bj Bb bm) (hg : X.grownBy Y (some bm)) (hm : ∃ d, d ≤ c' ∧ Memo J Y bm d) : SG J sa sn sc w0 g1 g2 g3 g5 g6 g8 Bw Bf Bj Bb bm c' x X0 Y := by
  obtain ⟨z, hz⟩ := h.val
  obtain ⟨d, hd, hM⟩ := h.memo
  exact ⟨h.stp.trans (.grown hg), h.gs.stp hM hn (.grown hg), hm, h.next.grown hg (fun e => bk_ne_memo h.next hM (by injection e)), ⟨z, hz.grown hg (fun e => bk_ne_memo hz hM (by injection e))⟩⟩
theorem SG.store (h : SG J sa sn sc w0 g1 g2 g3 g5 g6 g8 Bw Bf Bj Bb bm c x X0 X) (hn : GN w0.heap.size g1 g2 g3 g5 g6 Bw Bf Bj Bb bm) (v : Value) : SG J sa sn sc w0 g1 g2 g3 g5 g6 g8 Bw Bf Bj Bb bm c x X0 (X.setCell ⟨g6, 0, none⟩ v) := by
  have q : Stp bm g6 g6 X (X.setCell ⟨g6, 0, none⟩ v) := Stp.cell _ _ (.inl rfl)
  obtain ⟨z, hz⟩ := h.val
  obtain ⟨d, hd, hM⟩ := h.memo
  have hne := bk_ne_memo hz hM
  have h8 : g8 ≠ g6 := by
    rintro rfl
    have a := h.next
    unfold Bk at a hz
    rw [a] at hz
    simp at hz
  exact ⟨h.stp.trans q, h.gs.stp hM hn q, ⟨d, hd, hM.kept (grownBy_setCell' X g6 v) (by intro e; injection e with e; exact hne e.symm)⟩, h.next.other (by exact h8) _, ⟨v, hz.put1 v⟩⟩
theorem SG.drew (h : SG J sa sn sc w0 g1 g2 g3 g5 g6 g8 Bw Bf Bj Bb bm c x X0 X) (hn : GN w0.heap.size g1 g2 g3 g5 g6 Bw Bf Bj Bb bm) : SG J sa sn sc w0 g1 g2 g3 g5 g6 g8 Bw Bf Bj Bb bm c x X0 X.drew := by
  obtain ⟨z, hz⟩ := h.val
  obtain ⟨d, hd, hM⟩ := h.memo
  exact ⟨h.stp.drew, h.gs.stp hM hn (Stp.below (Below.refl _ _).drew), ⟨d, hd, hM.kept (row := none) ⟨rfl, rfl, rfl, Nat.le_refl _, fun _ _ _ => rfl⟩ (by simp)⟩, h.next, ⟨z, hz⟩⟩
theorem SG.more (h : SG J sa sn sc w0 g1 g2 g3 g5 g6 g8 Bw Bf Bj Bb bm c x X0 X) (hc : c ≤ c') : SG J sa sn sc w0 g1 g2 g3 g5 g6 g8 Bw Bf Bj Bb bm c' x X0 X := by
  obtain ⟨d, hd, hm⟩ := h.memo
  exact ⟨h.stp, h.gs, ⟨d, by omega, hm⟩, h.next, h.val⟩
end
end Go.Proofs.Ytbebofmpimfbgaa
/- One round of Guided. -/
namespace Go.Proofs.Ytbebofmpimfbgaa
set_option linter.all false
open Go.RowKit Go.Shelf
attribute [local go_sem] Oper.semAt_some
theorem Stp.newCell {bm g6 g8 : Nat} {X0 X : World} (a : Stp bm g6 g6 X0 X) (h : X0.heap.size ≤ g8) (o : Nat) (v : Value) : Stp bm g6 g6 X0 (X.setCell ⟨g8, o, none⟩ v) := by
  have q : Below X0.heap.size X (X.setCell ⟨g8, o, none⟩ v) := (Below.refl _ _).setCell h v
  exact ⟨q.os.trans a.os, q.tape.trans a.tape, q.output.trans a.output, Nat.le_trans a.size q.size, fun i h0 h1 h2 h3 => (q.block i h0).trans (a.same i h0 h1 h2 h3)⟩
set_option maxHeartbeats 4000000 in
set_option maxRecDepth 1000000 in
theorem gr3 {J : Jb} {sa : Option Addr} {sn sc : Nat} {w0 : World} {g1 g2 g3 g5 g6 Bw Bf Bj Bb bm : Nat} {g7 g8 B Bp Bm l n : Nat} {pre : List R2} {x : R2} {X0 X : World} {u0 u4 u8 u9 u10 u11 u12 u13 u14 u15 u16 u17 u18 u19 u20 u21 u22 u23 u24 u25 u26 u27 u28 u29 u30 u31 u32 u33 u34 u35 u36 : Value} (hs : SG J sa sn sc w0 g1 g2 g3 g5 g6 g8 Bw Bf Bj Bb bm ((pre.length + 1) * cost 4) x X0 X) (hv : Bk X g6 3 #[.int .i64 (gv J (pre ++ [x]))]) (h6 : ∃ z, Bk X0 g6 3 #[z]) (hn : GN w0.heap.size g1 g2 g3 g5 g6 Bw Bf Bj Bb bm) (hB : g6 < B ∧ B ≤ X0.heap.size) (hp1 : Bp < X0.heap.size ∧ Bp ≠ bm ∧ Bp ≠ g6) (hp2 : Bm < X0.heap.size ∧ Bm ≠ bm ∧ Bm ≠ g6) (hlen : (pre ++ [x]).length = pre.length + 1) : Code.wpIn (Fence.wide.inRound l) n Try.prog gb3 (ownPostG B (KpB Bp Bm) (GI J sa sn sc w0 g1 g2 g3 g5 g6 Bw Bf Bj Bb bm) (GX J w0 g2 g3) (pre ++ [x]) X0) ⟨#[u0, (.pointer (some ⟨g1, 0, none⟩)), (.pointer (some ⟨g2, 0, none⟩)), (.pointer (some ⟨g3, 0, none⟩)), u4, (.pointer (some ⟨g5, 0, none⟩)), (.pointer (some ⟨g6, 0, none⟩)), (.pointer (some ⟨g7, 0, none⟩)), u8, u9, u10, u11, u12, u13, u14, u15, u16, u17, u18, u19, u20, u21, u22, u23, u24, u25, u26, u27, u28, u29, u30, u31, u32, u33, u34, u35, u36], []⟩ X := by
  rw [gb3_eq]
  have z6 := hv.at_ 0 (.int .i64 (gv J (pre ++ [x]))) rfl
  have c2 := hs.gs.r2.at_ 0 _ rfl
  have c3 := hs.gs.r3.at_ 0 _ rfl
  have f2 := hs.gs.r2.free 0
  have f3 := hs.gs.r3.free 0
  obtain ⟨dd, hdd, hMM⟩ := hs.memo
  have hne6 := bk_ne_memo hv hMM
  obtain ⟨zz, h6⟩ := h6
  have kk := hs.stp.keeps (B := B) (by have := hn.2.2.2.2.1; have := hn.2.2.2.2.2.2.2.2.2.1; omega) h6 h6
  have kp := hs.stp.kp ⟨hp1.1, hp1.2.1, hp1.2.2, hp1.2.2⟩ ⟨hp2.1, hp2.2.1, hp2.2.2, hp2.2.2⟩
  have e23 : g2 ≠ g3 := by unfold GN at hn; omega
  have e32 : g3 ≠ g2 := by unfold GN at hn; omega
  have HS := hidMk hs
  have HV := hidMk hv
  have HK := hidMk kk
  have HP := hidMk kp
  have HN := hidMk hn
  have HBB := hidMk hB
  have HL := hidMk hlen
  clear hs hv kk kp hn hB hdd hMM hne6 hp1 hp2 h6 hlen
  by_cases h5 : gv J (pre ++ [x]) = 5
  · rw [h5] at z6
    have H5 := hidMk h5
    clear h5
    gi_wp2_with fail
    have q2 : Stp g2 g2 g3 X (X.setCell ⟨g2, 0, none⟩ (.int .i64 0)) := Stp.cell _ _ (.inl rfl)
    have q3 : Stp g2 g2 g3 (X.setCell ⟨g2, 0, none⟩ (.int .i64 0)) ((X.setCell ⟨g2, 0, none⟩ (.int .i64 0)).setCell ⟨g3, 0, none⟩ (.int .i64 11)) := Stp.cell _ _ (.inr rfl)
    have hnn := HN.out
    have hbb := HBB.out
    unfold GN at hnn
    have r2 := HS.out.gs.r2.put1 (.int .i64 0)
    have r3 := HS.out.gs.r3.other (p := ⟨g2, 0, none⟩) (by show g3 ≠ g2; omega) (.int .i64 0)
    refine ⟨HK.out.trans ((q2.trans q3).keeps (by omega) HS.out.gs.r2 HS.out.gs.r3), rfl, H5.out, ?_, r2.other (p := ⟨g3, 0, none⟩) (by show g2 ≠ g3; omega) _, r3.put1 _⟩
    exact HS.out.gs.ns.b0.trans ((((Below.refl _ _).setCell (by show w0.heap.size ≤ g2; omega) _)).setCell (by show w0.heap.size ≤ g3; omega) _)
  · have H5 := hidMk h5
    have hb5 : (gv J (pre ++ [x]) == 5) = false := by rw [beq_eq_false_iff_ne]; exact h5
    clear h5
    gi_wp2_with fail
    refine ⟨HK.out, HP.out, HS.out.gs, ?_, HV.out, H5.out⟩
    rw [HL.out]
    exact HS.out.memo
set_option maxHeartbeats 4000000 in
set_option maxRecDepth 1000000 in
theorem gr2 {J : Jb} {sa : Option Addr} {sn sc : Nat} {w0 : World} {g1 g2 g3 g5 g6 Bw Bf Bj Bb bm : Nat} {g7 g8 B Bp Bm l n : Nat} {pre : List R2} {x : R2} {X0 X : World} {u0 u4 u9 u10 u11 u12 u13 u14 u15 u16 u17 u18 u19 u20 u21 u22 u23 u24 u25 u26 u27 u28 u29 u30 u31 u32 u33 u34 u35 u36 : Value} (hs : SG J sa sn sc w0 g1 g2 g3 g5 g6 g8 Bw Bf Bj Bb bm (pre.length * cost 4) x X0 X) (hv : Bk X g6 3 #[.int .i64 (gv J pre)]) (hok : J.Ok) (hme : 0 ≤ J.me ∧ J.me ≤ 6) (hT : TgIn 4 { J.tg with p1 := x.1, p2 := x.2 }) (hlim : (pre.length + 1) * cost 4 ≤ 1000000000000000) (h6 : ∃ z, Bk X0 g6 3 #[z]) (hn : GN w0.heap.size g1 g2 g3 g5 g6 Bw Bf Bj Bb bm) (hB : g6 < B ∧ B ≤ X0.heap.size) (hp1 : Bp < X0.heap.size ∧ Bp ≠ bm ∧ Bp ≠ g6) (hp2 : Bm < X0.heap.size ∧ Bm ≠ bm ∧ Bm ≠ g6) (hlen : (pre ++ [x]).length = pre.length + 1) : Code.wpIn (Fence.wide.inRound l) n Try.prog gb2 (ownPostG B (KpB Bp Bm) (GI J sa sn sc w0 g1 g2 g3 g5 g6 Bw Bf Bj Bb bm) (GX J w0 g2 g3) (pre ++ [x]) X0) ⟨#[u0, (.pointer (some ⟨g1, 0, none⟩)), (.pointer (some ⟨g2, 0, none⟩)), (.pointer (some ⟨g3, 0, none⟩)), u4, (.pointer (some ⟨g5, 0, none⟩)), (.pointer (some ⟨g6, 0, none⟩)), (.pointer (some ⟨g7, 0, none⟩)), (.pointer (some ⟨g8, 0, none⟩)), u9, u10, u11, u12, u13, u14, u15, u16, u17, u18, u19, u20, u21, u22, u23, u24, u25, u26, u27, u28, u29, u30, u31, u32, u33, u34, u35, u36], []⟩ X := by
  rw [gb2_eq]
  have HOK := hidMk hok
  have HN := hidMk hn
  have HT := hidMk hT
  have HME : Hid (0 ≤ J.me ∧ J.me ≤ 6) := hidMk hme
  have HU : Hid (J.u1 ≤ J.u2 ∧ J.d1 ≤ J.d2) := hidMk ⟨hok.u, hok.d⟩
  have HB := hidMk hB
  have HP1 := hidMk hp1
  have HP2 := hidMk hp2
  have H6 := hidMk h6
  have HL := hidMk hlen
  have hlim := hidMk hlim
  have hmul : Hid ((pre.length + 1) * cost 4 = pre.length * cost 4 + cost 4) := hidMk (by rw [Nat.add_mul, Nat.one_mul])
  have hSd := (hs.drew hn).more (c' := (pre.length + 1) * cost 4) (by rw [Nat.add_mul]; omega)
  have hMt0 : Hid (∃ cc, cc ≤ pre.length * cost 4 ∧ Memo J X.drew bm cc) := hidMk (hs.drew hn).memo
  have hV0 := hv.drew
  clear hok hn hT hme hB hp1 hp2 h6 hlen hs hv
  refine wpIn_seq ?_
  refine region_inRound (fun a' w' => ∃ (v27 v28 v29 v30 v31 v32 v33 : Value), a' = ⟨#[u0, (.pointer (some ⟨g1, 0, none⟩)), (.pointer (some ⟨g2, 0, none⟩)), (.pointer (some ⟨g3, 0, none⟩)), u4, (.pointer (some ⟨g5, 0, none⟩)), (.pointer (some ⟨g6, 0, none⟩)), (.pointer (some ⟨g7, 0, none⟩)), (.pointer (some ⟨g8, 0, none⟩)), u9, u10, u11, u12, u13, u14, u15, u16, u17, u18, u19, u20, u21, u22, u23, u24, u25, u26, v27, v28, v29, v30, v31, v32, v33, u34, u35, u36], []⟩ ∧ SG J sa sn sc w0 g1 g2 g3 g5 g6 g8 Bw Bf Bj Bb bm ((pre.length + 1) * cost 4) x X0 w' ∧ Bk w' g6 3 #[.int .i64 (gv J (pre ++ [x]))]) (fun w' => SG J sa sn sc w0 g1 g2 g3 g5 g6 g8 Bw Bf Bj Bb bm ((pre.length + 1) * cost 4) x X0 w') (by kernel_rfl) (by kernel_rfl) hSd (fun hS => ?_) ?_
  · have hV := hV0
    have hMt := hMt0
    generalize X.drew = wd at hS hV hMt ⊢
    clear hSd hV0 hMt0
    have bb := best_bound J 4 { J.tg with p1 := x.1, p2 := x.2 }
    have vb := gv_nn J pre
    have vt := gv_top J pre
    refine wpAnyH_take (i := 1) (oi := ⟨some 28, .load 85 (.tmp 5), 85, "game.go:31", #[], none⟩) (v := ?_) rfl (by kernel_rfl) (by kernel_rfl) (by kernel_rfl) (fun _ _ _ h => by cases h.1) (.inl ⟨by rfl, ?_⟩) (by assumption) ?_
    rotate_left
    · (intro w' hSw; (try dsimp only at hSw); have q := hSw.gs.fv.at_ 0 _ rfl; go_simp <;> with_reducible rfl)
    (try simp only [Act.put, aT, aZ, aS])
    refine wpAnyH_take (i := 2) (oi := ⟨some 29, .load 25 (.tmp 8), 25, "game.go:31", #[], none⟩) rfl (by kernel_rfl) (by kernel_rfl) (by kernel_rfl) (fun _ _ _ h => by cases h.1) (yields_row (by rfl) 25 _ rfl g8 #[.int .i64 { J.tg with p1 := x.1, p2 := x.2 }.p1, .int .i64 { J.tg with p1 := x.1, p2 := x.2 }.p2, .int .i64 { J.tg with p1 := x.1, p2 := x.2 }.t1, .int .i64 { J.tg with p1 := x.1, p2 := x.2 }.t2, .int .i64 { J.tg with p1 := x.1, p2 := x.2 }.r1, .int .i64 { J.tg with p1 := x.1, p2 := x.2 }.r2] rfl 25 (fun w hw => hw.next) Try.underlying25 szTongue) (by assumption) ?_
    (try simp only [Act.put, aT, aZ, aS])
    refine wpAnyH_take (i := 3) (oi := ⟨some 30, .build 93 #[(0, .tmp 29), (1, .const (.int .i64 4))], 93, "game.go:31", #[⟨2, .data⟩], none⟩) (v := ?_) rfl (by kernel_rfl) (by kernel_rfl) (by kernel_rfl) (fun _ _ _ h => by cases h.1) (.inl ⟨by rfl, ?_⟩) (by assumption) ?_
    rotate_left
    · (intro w' hSw; (try dsimp only at hSw); skip; go_simp <;> with_reducible rfl)
    (try simp only [Act.put, aT, aZ, aS])
    refine wpAnyH_ready (rs := [0, 4]) (by kernel_rfl) (by simp) ?_
    refine AllReadyH.cons (o := ⟨some 27, .load 3 (.tmp 6), 3, "game.go:31", #[], none⟩) rfl (fun K hK => ?_) ?_
    · have z0 := hV.at_ 0 _ rfl
      go_simp
      clear z0
      refine hK.out _ _ hS (fun _ => ?_)
      clear hK K
      (try simp only [Act.put, aT, aZ, aS])
      refine wpAnyH_ready (rs := [4]) (by kernel_rfl) (by simp) ?_
      refine AllReadyH.cons (o := ⟨some 31, .call { callee := .value (.tmp 28), args := #[.tmp 30], argTypes := #[93] }, 91, "game.go:31", #[⟨1, .data⟩, ⟨3, .data⟩], none⟩) rfl (fun K hK => ?_) ?_
      · go_simp
        obtain ⟨cc, hcc, hmm⟩ := hMt.out
        go_at_call 81
        refine (best_all J sa sn sc Bw Bf Bj Bb bm HOK.out.inn HME.out HU.out 4 (by decide) { J.tg with p1 := x.1, p2 := x.2 } cc _ hS.gs.env hmm HT.out (by have := hmul.out; have := hlim.out; omega)).mono ?_
        rintro e w9 ⟨rfl, ⟨cd, hcd, hmd⟩, hg9⟩
        have hV_ := hV.grown hg9 (fun e => bk_ne_memo hV hmm (by injection e))
        have hS_ := hS.call (c' := (pre.length + 1) * cost 4) HN.out hg9 ⟨cd, by have := hmul.out; omega, hmd⟩
        clear hV hS hmm hcc hcd hmd hg9
        have hV := hV_
        have hS := hS_
        clear hV_ hS_
        go_wp2_with fail
        refine hK.out _ _ hS (fun _ => ?_)
        clear hK K
        (try simp only [Act.put, aT, aZ, aS])
        refine wpAnyH_ready (rs := [5]) (by kernel_rfl) (by simp) ?_
        refine AllReadyH.cons (o := ⟨some 32, .field 91 (.tmp 31) 1, 3, "game.go:31", #[⟨4, .data⟩], none⟩) rfl (fun K hK => ?_) ?_
        · go_simp
          refine hK.out _ _ hS (fun _ => ?_)
          clear hK K
          (try simp only [Act.put, aT, aZ, aS])
          refine wpAnyH_ready (rs := [6]) (by kernel_rfl) (by simp) ?_
          refine AllReadyH.cons (o := ⟨some 33, .call { callee := .builtin .max, args := #[.tmp 27, .tmp 32], argTypes := #[3, 3] }, 3, "game.go:31", #[⟨0, .data⟩, ⟨5, .data⟩], none⟩) rfl (fun K hK => ?_) ?_
          · go_simp
            refine hK.out _ _ hS (fun _ => ?_)
            clear hK K
            (try simp only [Act.put, aT, aZ, aS])
            refine wpAnyH_ready (rs := [7]) (by kernel_rfl) (by simp) ?_
            refine AllReadyH.cons (o := ⟨none, .store 3 (.tmp 6) (.tmp 33), 0, "game.go:31", #[⟨6, .data⟩, ⟨4, .chain⟩, ⟨0, .phase⟩, ⟨1, .phase⟩, ⟨2, .phase⟩, ⟨3, .phase⟩, ⟨4, .phase⟩, ⟨5, .phase⟩, ⟨6, .phase⟩], none⟩) rfl (fun K hK => ?_) ?_
            · have z0 := hV.at_ 0 _ rfl
              have f0 := hV.free 0
              go_simp
              have hV_ := hV.put1 (.int .i64 (mx (gv J pre) (bestM J 4 { J.tg with p1 := x.1, p2 := x.2 }).2))
              have hS_ := hS.store HN.out (.int .i64 (mx (gv J pre) (bestM J 4 { J.tg with p1 := x.1, p2 := x.2 }).2))
              refine hK.out _ _ hS_ (fun _ => ?_)
              clear z0 f0 hV hS
              clear hK K
              (try simp only [Act.put, aT, aZ, aS])
              refine wpAnyH_done (by kernel_rfl) ?_ _
              exact ⟨rfl, _, _, _, _, _, _, _, rfl, hS_, by rw [gv_snoc]; exact hV_⟩
            exact AllReadyH.nil
          exact AllReadyH.nil
        exact AllReadyH.nil
      exact AllReadyH.nil
    refine AllReadyH.cons (o := ⟨some 31, .call { callee := .value (.tmp 28), args := #[.tmp 30], argTypes := #[93] }, 91, "game.go:31", #[⟨1, .data⟩, ⟨3, .data⟩], none⟩) rfl (fun K hK => ?_) ?_
    · go_simp
      obtain ⟨cc, hcc, hmm⟩ := hMt.out
      go_at_call 81
      refine (best_all J sa sn sc Bw Bf Bj Bb bm HOK.out.inn HME.out HU.out 4 (by decide) { J.tg with p1 := x.1, p2 := x.2 } cc _ hS.gs.env hmm HT.out (by have := hmul.out; have := hlim.out; omega)).mono ?_
      rintro e w9 ⟨rfl, ⟨cd, hcd, hmd⟩, hg9⟩
      have hV_ := hV.grown hg9 (fun e => bk_ne_memo hV hmm (by injection e))
      have hS_ := hS.call (c' := (pre.length + 1) * cost 4) HN.out hg9 ⟨cd, by have := hmul.out; omega, hmd⟩
      clear hV hS hmm hcc hcd hmd hg9
      have hV := hV_
      have hS := hS_
      clear hV_ hS_
      go_wp2_with fail
      refine hK.out _ _ hS (fun _ => ?_)
      clear hK K
      (try simp only [Act.put, aT, aZ, aS])
      refine wpAnyH_ready (rs := [0, 5]) (by kernel_rfl) (by simp) ?_
      refine AllReadyH.cons (o := ⟨some 27, .load 3 (.tmp 6), 3, "game.go:31", #[], none⟩) rfl (fun K hK => ?_) ?_
      · have z0 := hV.at_ 0 _ rfl
        go_simp
        clear z0
        refine hK.out _ _ hS (fun _ => ?_)
        clear hK K
        (try simp only [Act.put, aT, aZ, aS])
        refine wpAnyH_ready (rs := [5]) (by kernel_rfl) (by simp) ?_
        refine AllReadyH.cons (o := ⟨some 32, .field 91 (.tmp 31) 1, 3, "game.go:31", #[⟨4, .data⟩], none⟩) rfl (fun K hK => ?_) ?_
        · go_simp
          refine hK.out _ _ hS (fun _ => ?_)
          clear hK K
          (try simp only [Act.put, aT, aZ, aS])
          refine wpAnyH_ready (rs := [6]) (by kernel_rfl) (by simp) ?_
          refine AllReadyH.cons (o := ⟨some 33, .call { callee := .builtin .max, args := #[.tmp 27, .tmp 32], argTypes := #[3, 3] }, 3, "game.go:31", #[⟨0, .data⟩, ⟨5, .data⟩], none⟩) rfl (fun K hK => ?_) ?_
          · go_simp
            refine hK.out _ _ hS (fun _ => ?_)
            clear hK K
            (try simp only [Act.put, aT, aZ, aS])
            refine wpAnyH_ready (rs := [7]) (by kernel_rfl) (by simp) ?_
            refine AllReadyH.cons (o := ⟨none, .store 3 (.tmp 6) (.tmp 33), 0, "game.go:31", #[⟨6, .data⟩, ⟨4, .chain⟩, ⟨0, .phase⟩, ⟨1, .phase⟩, ⟨2, .phase⟩, ⟨3, .phase⟩, ⟨4, .phase⟩, ⟨5, .phase⟩, ⟨6, .phase⟩], none⟩) rfl (fun K hK => ?_) ?_
            · have z0 := hV.at_ 0 _ rfl
              have f0 := hV.free 0
              go_simp
              have hV_ := hV.put1 (.int .i64 (mx (gv J pre) (bestM J 4 { J.tg with p1 := x.1, p2 := x.2 }).2))
              have hS_ := hS.store HN.out (.int .i64 (mx (gv J pre) (bestM J 4 { J.tg with p1 := x.1, p2 := x.2 }).2))
              refine hK.out _ _ hS_ (fun _ => ?_)
              clear z0 f0 hV hS
              clear hK K
              (try simp only [Act.put, aT, aZ, aS])
              refine wpAnyH_done (by kernel_rfl) ?_ _
              exact ⟨rfl, _, _, _, _, _, _, _, rfl, hS_, by rw [gv_snoc]; exact hV_⟩
            exact AllReadyH.nil
          exact AllReadyH.nil
        exact AllReadyH.nil
      refine AllReadyH.cons (o := ⟨some 32, .field 91 (.tmp 31) 1, 3, "game.go:31", #[⟨4, .data⟩], none⟩) rfl (fun K hK => ?_) ?_
      · go_simp
        refine hK.out _ _ hS (fun _ => ?_)
        clear hK K
        (try simp only [Act.put, aT, aZ, aS])
        refine wpAnyH_ready (rs := [0]) (by kernel_rfl) (by simp) ?_
        refine AllReadyH.cons (o := ⟨some 27, .load 3 (.tmp 6), 3, "game.go:31", #[], none⟩) rfl (fun K hK => ?_) ?_
        · have z0 := hV.at_ 0 _ rfl
          go_simp
          clear z0
          refine hK.out _ _ hS (fun _ => ?_)
          clear hK K
          (try simp only [Act.put, aT, aZ, aS])
          refine wpAnyH_ready (rs := [6]) (by kernel_rfl) (by simp) ?_
          refine AllReadyH.cons (o := ⟨some 33, .call { callee := .builtin .max, args := #[.tmp 27, .tmp 32], argTypes := #[3, 3] }, 3, "game.go:31", #[⟨0, .data⟩, ⟨5, .data⟩], none⟩) rfl (fun K hK => ?_) ?_
          · go_simp
            refine hK.out _ _ hS (fun _ => ?_)
            clear hK K
            (try simp only [Act.put, aT, aZ, aS])
            refine wpAnyH_ready (rs := [7]) (by kernel_rfl) (by simp) ?_
            refine AllReadyH.cons (o := ⟨none, .store 3 (.tmp 6) (.tmp 33), 0, "game.go:31", #[⟨6, .data⟩, ⟨4, .chain⟩, ⟨0, .phase⟩, ⟨1, .phase⟩, ⟨2, .phase⟩, ⟨3, .phase⟩, ⟨4, .phase⟩, ⟨5, .phase⟩, ⟨6, .phase⟩], none⟩) rfl (fun K hK => ?_) ?_
            · have z0 := hV.at_ 0 _ rfl
              have f0 := hV.free 0
              go_simp
              have hV_ := hV.put1 (.int .i64 (mx (gv J pre) (bestM J 4 { J.tg with p1 := x.1, p2 := x.2 }).2))
              have hS_ := hS.store HN.out (.int .i64 (mx (gv J pre) (bestM J 4 { J.tg with p1 := x.1, p2 := x.2 }).2))
              refine hK.out _ _ hS_ (fun _ => ?_)
              clear z0 f0 hV hS
              clear hK K
              (try simp only [Act.put, aT, aZ, aS])
              refine wpAnyH_done (by kernel_rfl) ?_ _
              exact ⟨rfl, _, _, _, _, _, _, _, rfl, hS_, by rw [gv_snoc]; exact hV_⟩
            exact AllReadyH.nil
          exact AllReadyH.nil
        exact AllReadyH.nil
      exact AllReadyH.nil
    exact AllReadyH.nil
  · rintro a' w' ⟨v27, v28, v29, v30, v31, v32, v33, rfl, hs', hv'⟩
    exact gr3 hs' hv' H6.out HN.out HB.out HP1.out HP2.out HL.out
set_option maxHeartbeats 4000000 in
set_option maxRecDepth 1000000 in
theorem gr1 {J : Jb} {sa : Option Addr} {sn sc : Nat} {w0 : World} {g1 g2 g3 g5 g6 Bw Bf Bj Bb bm : Nat} {g7 g8 B Bp Bm l n : Nat} {pre : List R2} {x : R2} {X0 X : World} {u0 u4 u9 u10 u11 u12 u13 u14 u15 u16 u17 u18 u19 u20 u21 u22 u23 u24 u25 u26 u27 u28 u29 u30 u31 u32 u33 u34 u35 u36 : Value} (hi : GI J sa sn sc w0 g1 g2 g3 g5 g6 Bw Bf Bj Bb bm pre X0) (h8 : Bk X g8 25 #[.int .i64 J.p1, .int .i64 J.p2, .int .i64 J.t1, .int .i64 J.t2, .int .i64 J.r1, .int .i64 J.r2]) (hst : Stp bm g6 g6 X0 X) (hmx : ∀ d, Memo J X0 bm d → Memo J X bm d) (hvx : Bk X g6 3 #[.int .i64 (gv J pre)]) (hg8 : X0.heap.size ≤ g8) (h76 : g7 ≠ g6) (h7 : Bk X0 g7 23 #[.int .i64 x.1, .int .i64 x.2]) (hok : J.Ok) (hme : 0 ≤ J.me ∧ J.me ≤ 6) (hT : TgIn 4 { J.tg with p1 := x.1, p2 := x.2 }) (hlim : (pre.length + 1) * cost 4 ≤ 1000000000000000) (hn : GN w0.heap.size g1 g2 g3 g5 g6 Bw Bf Bj Bb bm) (hB : g6 < B ∧ B ≤ X0.heap.size) (hp1 : Bp < X0.heap.size ∧ Bp ≠ bm ∧ Bp ≠ g6) (hp2 : Bm < X0.heap.size ∧ Bm ≠ bm ∧ Bm ≠ g6) : Code.wpIn (Fence.wide.inRound l) n Try.prog gb1 (ownPostG B (KpB Bp Bm) (GI J sa sn sc w0 g1 g2 g3 g5 g6 Bw Bf Bj Bb bm) (GX J w0 g2 g3) (pre ++ [x]) X0) ⟨#[u0, (.pointer (some ⟨g1, 0, none⟩)), (.pointer (some ⟨g2, 0, none⟩)), (.pointer (some ⟨g3, 0, none⟩)), u4, (.pointer (some ⟨g5, 0, none⟩)), (.pointer (some ⟨g6, 0, none⟩)), (.pointer (some ⟨g7, 0, none⟩)), (.pointer (some ⟨g8, 0, none⟩)), u9, u10, u11, u12, u13, u14, u15, u16, u17, u18, u19, u20, u21, u22, u23, u24, u25, u26, u27, u28, u29, u30, u31, u32, u33, u34, u35, u36], []⟩ X := by
  rw [gb1_eq]
  have a0 := (hst.bk h7 (bk_ne_memo h7 hi.memo.choose_spec.2) h76 h76).at_ 0 _ rfl
  have a1 := (hst.bk h7 (bk_ne_memo h7 hi.memo.choose_spec.2) h76 h76).at_ 1 _ rfl
  have z0 := h8.at_ 0 (.int .i64 J.p1) rfl
  have z1 := h8.at_ 1 (.int .i64 J.p2) rfl
  have f0 := h8.free 0
  have f1 := h8.free 1
  have H8 := hidMk h8
  have HMX := hidMk hmx
  have HVX := hidMk hvx
  clear hmx hvx
  have HI := hidMk hi
  have HST := hidMk hst
  have HG8 := hidMk hg8
  have HOK := hidMk hok
  have HME : Hid (0 ≤ J.me ∧ J.me ≤ 6) := hidMk hme
  have HT := hidMk hT
  have HLI := hidMk hlim
  have HN := hidMk hn
  have HB := hidMk hB
  have HP1 := hidMk hp1
  have HP2 := hidMk hp2
  clear h7 h76 h8 hi hst hg8 hok hme hT hlim hn hB hp1 hp2
  gi_wp2_with fail
  have b8 := (H8.out.put 0 (.int .i64 x.1)).put 1 (.int .i64 x.2)
  have st2 : Stp bm g6 g6 X0 ((X.setCell ⟨g8, 0, none⟩ (.int .i64 x.1)).setCell ⟨g8, 1, none⟩ (.int .i64 x.2)) := (HST.out.newCell HG8.out 0 (.int .i64 x.1)).newCell HG8.out 1 (.int .i64 x.2)
  obtain ⟨dd, hdd, hMM⟩ := HI.out.memo
  have hm2 : Memo J ((X.setCell ⟨g8, 0, none⟩ (.int .i64 x.1)).setCell ⟨g8, 1, none⟩ (.int .i64 x.2)) bm dd := by
    obtain ⟨l1, l2⟩ : bm < X0.heap.size ∧ X0.heap.size ≤ g8 := ⟨hMM.lt, HG8.out⟩
    exact ((HMX.out dd hMM).kept (grownBy_setCellA X g8 0 _) (by intro e; injection e with e; omega)).kept (grownBy_setCellA _ g8 1 _) (by intro e; injection e with e; omega)
  have l6 := HI.out.val.lt
  have l8 := HG8.out
  have hv1 : Bk X g6 3 #[.int .i64 (gv J pre)] := HVX.out
  have hv2 := (hv1.other (p := ⟨g8, 0, none⟩) (by show g6 ≠ g8; omega) (.int .i64 x.1)).other (p := ⟨g8, 1, none⟩) (by show g6 ≠ g8; omega) (.int .i64 x.2)
  exact gr2 ⟨st2, HI.out.gs.stp hMM HN.out st2, ⟨dd, hdd, hm2⟩, b8, ⟨_, hv2⟩⟩ hv2 HOK.out HME.out HT.out HLI.out ⟨_, HI.out.val⟩ HN.out HB.out HP1.out HP2.out (by simp)
set_option maxHeartbeats 4000000 in
set_option maxRecDepth 1000000 in
theorem gr0 {J : Jb} {sa : Option Addr} {sn sc : Nat} {w0 : World} {g1 g2 g3 g5 g6 Bw Bf Bj Bb bm : Nat} {g7 B Bp Bm l n : Nat} {pre : List R2} {x : R2} {X : World} {u0 u4 u8 u9 u10 u11 u12 u13 u14 u15 u16 u17 u18 u19 u20 u21 u22 u23 u24 u25 u26 u27 u28 u29 u30 u31 u32 u33 u34 u35 u36 : Value} (hi : GI J sa sn sc w0 g1 g2 g3 g5 g6 Bw Bf Bj Bb bm pre X) (h76 : g7 ≠ g6) (h7 : Bk X g7 23 #[.int .i64 x.1, .int .i64 x.2]) (hok : J.Ok) (hme : 0 ≤ J.me ∧ J.me ≤ 6) (hT : TgIn 4 { J.tg with p1 := x.1, p2 := x.2 }) (hlim : (pre.length + 1) * cost 4 ≤ 1000000000000000) (hn : GN w0.heap.size g1 g2 g3 g5 g6 Bw Bf Bj Bb bm) (hB : g6 < B ∧ B ≤ X.heap.size) (hp1 : Bp < X.heap.size ∧ Bp ≠ bm ∧ Bp ≠ g6) (hp2 : Bm < X.heap.size ∧ Bm ≠ bm ∧ Bm ≠ g6) : Code.wpIn (Fence.wide.inRound l) n Try.prog gb0 (ownPostG B (KpB Bp Bm) (GI J sa sn sc w0 g1 g2 g3 g5 g6 Bw Bf Bj Bb bm) (GX J w0 g2 g3) (pre ++ [x]) X) ⟨#[u0, (.pointer (some ⟨g1, 0, none⟩)), (.pointer (some ⟨g2, 0, none⟩)), (.pointer (some ⟨g3, 0, none⟩)), u4, (.pointer (some ⟨g5, 0, none⟩)), (.pointer (some ⟨g6, 0, none⟩)), (.pointer (some ⟨g7, 0, none⟩)), u8, u9, u10, u11, u12, u13, u14, u15, u16, u17, u18, u19, u20, u21, u22, u23, u24, u25, u26, u27, u28, u29, u30, u31, u32, u33, u34, u35, u36], []⟩ X := by
  rw [gb0_eq]
  have hj := hi.gs.ns.job
  have c0 := hj.at_ 0 (.int .i64 J.p1) rfl
  have c1 := hj.at_ 1 (.int .i64 J.p2) rfl
  have c2 := hj.at_ 2 (.int .i64 J.t1) rfl
  have c3 := hj.at_ 3 (.int .i64 J.t2) rfl
  have c4 := hj.at_ 4 (.int .i64 J.r1) rfl
  have c5 := hj.at_ 5 (.int .i64 J.r2) rfl
  have HI := hidMk hi
  have H7 := hidMk h7
  have H76 := hidMk h76
  have HOK := hidMk hok
  have HME : Hid (0 ≤ J.me ∧ J.me ≤ 6) := hidMk hme
  have HT := hidMk hT
  have HLI := hidMk hlim
  have HN := hidMk hn
  have HB := hidMk hB
  have HP1 := hidMk hp1
  have HP2 := hidMk hp2
  clear hj hi h7 h76 hok hme hT hlim hn hB hp1 hp2
  gi_wp2_with fail
  have q : Below X.heap.size X (X.alloc (.cells #[.int .i64 J.p1, .int .i64 J.p2, .int .i64 J.t1, .int .i64 J.t2, .int .i64 J.r1, .int .i64 J.r2] 25)) := (Below.refl _ _).alloc (Nat.le_refl _) _
  exact gr1 HI.out (Bk.new _ _ _) (Stp.below q) (fun d h => h.kept (grown_of_below q none) (by simp)) (HI.out.val.below q HI.out.val.lt) (Nat.le_refl _) H76.out H7.out HOK.out HME.out HT.out HLI.out HN.out HB.out HP1.out HP2.out
end Go.Proofs.Ytbebofmpimfbgaa
/- The loop over the readings in Guided. -/
namespace Go.Proofs.Ytbebofmpimfbgaa
set_option linter.all false
open Go.RowKit Go.Shelf
attribute [local go_sem] Oper.semAt_some
set_option maxHeartbeats 4000000 in
set_option maxRecDepth 1000000 in
theorem gd_rf {J : Jb} {sa : Option Addr} {sn sc : Nat} {w0 : World} {g1 g2 g3 g5 g6 Bw Bf Bj Bb bm : Nat} {Bp Bm : Nat} {w : World} {Q : Exit → Act → World → Prop} {u0 u4 u7 u8 u9 u10 u11 u12 u13 u14 u15 u16 u17 u18 u19 u20 u22 u23 u24 u25 u26 u27 u28 u29 u30 u31 u32 u33 u34 u35 u36 : Value}
    (hI : GI J sa sn sc w0 g1 g2 g3 g5 g6 Bw Bf Bj Bb bm [] w) (hp : Bk w Bp 23 #[.int .i64 J.p1, .int .i64 J.p2]) (hm : Bk w Bm 3 #[.int .i64 J.me]) (hok : J.Ok) (hme : 0 ≤ J.me ∧ J.me ≤ 6) (hn : GN w0.heap.size g1 g2 g3 g5 g6 Bw Bf Bj Bb bm) (hp1 : Bp ≠ bm ∧ Bp ≠ g6) (hp2 : Bm ≠ bm ∧ Bm ≠ g6)
    (hdone : ∀ (D : Nat) (w' : World), w.heap.size ≤ D → GI J sa sn sc w0 g1 g2 g3 g5 g6 Bw Bf Bj Bb bm (readsL J.p1 J.p2 J.me) w' → w'.heap[D]? = some (.deferred (some [])) → Q .normal ⟨#[u0, (.pointer (some ⟨g1, 0, none⟩)), (.pointer (some ⟨g2, 0, none⟩)), (.pointer (some ⟨g3, 0, none⟩)), u4, (.pointer (some ⟨g5, 0, none⟩)), (.pointer (some ⟨g6, 0, none⟩)), u7, u8, u9, u10, u11, u12, u13, u14, u15, u16, u17, u18, u19, u20, (.func (.func 83) #[] #[.pointer (some ⟨Bp, 0, none⟩), .pointer (some ⟨Bm, 0, none⟩)]), u22, u23, u24, u25, u26, u27, u28, u29, u30, u31, u32, u33, u34, u35, u36], [{ target := .collected D, args := #[] }]⟩ w')
    (hstop : ∀ (D : Nat) (w' : World), w.heap.size ≤ D → guideI J = 5 → GX J w0 g2 g3 .ret (readsL J.p1 J.p2 J.me) w' → w'.heap[D]? = some (.deferred (some [])) → Q .ret ⟨#[u0, (.pointer (some ⟨g1, 0, none⟩)), (.pointer (some ⟨g2, 0, none⟩)), (.pointer (some ⟨g3, 0, none⟩)), u4, (.pointer (some ⟨g5, 0, none⟩)), (.pointer (some ⟨g6, 0, none⟩)), u7, u8, u9, u10, u11, u12, u13, u14, u15, u16, u17, u18, u19, u20, (.func (.func 83) #[] #[.pointer (some ⟨Bp, 0, none⟩), .pointer (some ⟨Bm, 0, none⟩)]), u22, u23, u24, u25, u26, u27, u28, u29, u30, u31, u32, u33, u34, u35, u36], [{ target := .collected D, args := #[] }]⟩ w') : Code.wpIn Fence.wide 3 Try.prog (.rangeFunc (.tmp 21) #[22] gfa gfb) Q ⟨#[u0, (.pointer (some ⟨g1, 0, none⟩)), (.pointer (some ⟨g2, 0, none⟩)), (.pointer (some ⟨g3, 0, none⟩)), u4, (.pointer (some ⟨g5, 0, none⟩)), (.pointer (some ⟨g6, 0, none⟩)), u7, u8, u9, u10, u11, u12, u13, u14, u15, u16, u17, u18, u19, u20, (.func (.func 83) #[] #[.pointer (some ⟨Bp, 0, none⟩), .pointer (some ⟨Bm, 0, none⟩)]), u22, u23, u24, u25, u26, u27, u28, u29, u30, u31, u32, u33, u34, u35, u36], []⟩ w := by
  have hok0 := hok
  obtain ⟨hinn, h12, -, -, -, -, -, -, -⟩ := hok0
  have i1 := hinn.p1
  have i2 := hinn.p2
  have hlr := reads_len (a := J.p1) (b := J.p2) (m := J.me) (by omega)
  have l6 := hI.val.lt
  have lb := hI.memo.choose_spec.2.lt
  have hn0 := hn
  unfold GN at hn0
  have hzW : w0.heap.size ≤ w.heap.size := hI.gs.ns.b0.size
  refine wpIn_rangeFunc_ownH (α := R2) rfl (by decide) (gf := 83) (lb := #[.pointer (some ⟨Bp, 0, none⟩), .pointer (some ⟨Bm, 0, none⟩)]) rfl trivial (enters_of Try.func83 (by kernel_rfl) rfl)
    (readings_clip 2 Bp Bm J.p1 J.p2 J.me (by omega) w hp hm) (fun h k => ⟨k.1.trans h.1, k.2.trans h.2⟩) (fun W' l o o' hl _ _ _ => ⟨World.putObj_heap_other (by have := hp.lt; omega), World.putObj_heap_other (by have := hm.lt; omega)⟩) (Below.refl _ _) (fun _ => rfl)
    (fun (pre : List R2) (X : World) => GI J sa sn sc w0 g1 g2 g3 g5 g6 Bw Bf Bj Bb bm (pre.map (clipR J.p1 J.p2 J.me)) X ∧ w.heap.size ≤ X.heap.size)
    (fun (cd : Code) (pre : List R2) (X : World) => GX J w0 g2 g3 cd (pre.map (clipR J.p1 J.p2 J.me)) X)
    (OwnFrom.and (GI.own hzW lb _) (fun _ _ _ _ h hg _ => Nat.le_trans h hg.size)) (fun cd => GX.own hzW cd _) ⟨hI, Nat.le_refl _⟩
    (fun x a' X => ∃ g7, Bk X g7 23 #[.int .i64 (clipR J.p1 J.p2 J.me x).1, .int .i64 (clipR J.p1 J.p2 J.me x).2] ∧ g7 ≠ g6 ∧ a' = ⟨#[u0, (.pointer (some ⟨g1, 0, none⟩)), (.pointer (some ⟨g2, 0, none⟩)), (.pointer (some ⟨g3, 0, none⟩)), u4, (.pointer (some ⟨g5, 0, none⟩)), (.pointer (some ⟨g6, 0, none⟩)), (.pointer (some ⟨g7, 0, none⟩)), u8, u9, u10, u11, u12, u13, u14, u15, u16, u17, u18, u19, u20, (.func (.func 83) #[] #[.pointer (some ⟨Bp, 0, none⟩), .pointer (some ⟨Bm, 0, none⟩)]), (.agg #[.int .i64 (clipR J.p1 J.p2 J.me x).1, .int .i64 (clipR J.p1 J.p2 J.me x).2]), u23, u24, u25, u26, u27, u28, u29, u30, u31, u32, u33, u34, u35, u36], []⟩)
    (fun x a' _ X Y row hs hg hr => by obtain ⟨g7, e1, e3, e2⟩ := hs; exact ⟨g7, e1.grown hg (row_ne e1 hr), e3, e2⟩)
    ?assign ?body ?done ?stop
  case assign =>
    rintro l pre x X K ⟨hi, hsz⟩ hK
    have hpl := hp.lt
    have hml := hm.lt
    rw [gfa_eq]
    gi_wp2_with fail
    exact hK _ _ ⟨by simp, fun i o _ ho _ => (Below.heap_alloc _ _ i (Array.getElem?_eq_some_iff.1 ho).1).trans ho⟩ ⟨Below.heap_alloc _ _ _ (by omega), Below.heap_alloc _ _ _ (by omega)⟩ ⟨GI.own hzW lb (clipR J.p1 J.p2 J.me) pre X _ none hi (World.grownBy_alloc _ _ _) (by simp), by simp; omega⟩ ⟨X.heap.size, Bk.new _ _ _, by omega, rfl⟩
  case body =>
    rintro l pre x a' X hl - ⟨hi, hsz⟩ ⟨g7, h7, h76, rfl⟩ hlt
    have hpl := hp.lt
    have hml := hm.lt
    have hcl := clip_in (a := J.p1) (b := J.p2) h12 hme.1 x
    have hle : (pre.map (clipR J.p1 J.p2 J.me)).length + 1 ≤ 1000 := by rw [List.length_map]; omega
    have hmul : ((pre.map (clipR J.p1 J.p2 J.me)).length + 1) * cost 4 ≤ 1000 * cost 4 := Nat.mul_le_mul_right _ hle
    have hlim : ((pre.map (clipR J.p1 J.p2 J.me)).length + 1) * cost 4 ≤ 1000000000000000 := Nat.le_trans hmul (by decide)
    have hT : TgIn 4 { J.tg with p1 := (clipR J.p1 J.p2 J.me x).1, p2 := (clipR J.p1 J.p2 J.me x).2 } := by
      have h0 := hinn.tg
      refine ⟨?_, hcl.2.1⟩
      simp only [Tg.In, Jb.tg] at h0 ⊢
      omega
    rw [gfb_eq]
    refine wpIn_block ?_
    refine wpIn_mono (gr0 (x := (clipR J.p1 J.p2 J.me x)) (pre := pre.map (clipR J.p1 J.p2 J.me)) (B := w.heap.size) (Bp := Bp) (Bm := Bm) hi h76 h7 hok hme hT hlim hn ⟨l6, hsz⟩ ⟨by omega, hp1⟩ ⟨by omega, hp2⟩) ?_
    intro e a3 W3 h
    have em : (pre ++ [x]).map (clipR J.p1 J.p2 J.me) = pre.map (clipR J.p1 J.p2 J.me) ++ [(clipR J.p1 J.p2 J.me x)] := by simp
    cases e with
    | normal =>
      simp only [Exit.inBlock, ownPostG] at h ⊢
      rw [em]
      exact ⟨h.1, h.2.1, h.2.2, Nat.le_trans hsz h.1.size⟩
    | ret =>
      simp only [Exit.inBlock, ownPostG] at h ⊢
      rw [em]
      exact h
    | exit id =>
      simp only [ownPostG] at h
      exact absurd h.2.out (by simp)
    | goto t =>
      simp only [ownPostG] at h
      exact absurd h.2.out (by simp)
    | _ => exact h
  case done =>
    rintro D xs X hD rfl ⟨hi, -⟩ hd
    refine hdone D X hD ?_ hd
    rw [clip_map fun x h => h] at hi
    exact hi
  case stop =>
    rintro D cd pre X hD hpre hi hd
    have hc := hi.out
    subst hc
    have hmm : ∀ y ∈ pre, y ∈ readsL J.p1 J.p2 J.me := fun y hy => by
      obtain ⟨q, hq⟩ := hpre
      rw [← hq]
      exact List.mem_append_left _ hy
    rw [clip_map hmm] at hi
    have hw := gv_pre J hpre
    have hmr := hi.more
    have ht := gv_top J (readsL J.p1 J.p2 J.me)
    have h5 : guideI J = 5 := by rw [← gv_all]; omega
    have hst := hstop D X hD h5 ⟨rfl, by rw [gv_all]; exact h5, hi.b0, hi.r2, hi.r3⟩ hd
    gi_wp2_with fail
    exact hst
end Go.Proofs.Ytbebofmpimfbgaa
