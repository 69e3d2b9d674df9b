/- Part 11 of the proof: GdA, GdB, GdC, GdD, Sh0, GmA, Full, GmM, GmB. -/
import Derived.Test.YtbebofmpimfbgaaB10
import Derived.Test.YtbebofmpimfbgaaB09
import Derived.Test.YtbebofmpimfbgaaB07
import Derived.Test.YtbebofmpimfbgaaB06
import Derived.Test.YtbebofmpimfbgaaB08
/- Guided: its code in parts, and what lies about in it. -/
namespace Go.Proofs.Ytbebofmpimfbgaa
set_option linter.all false
open Go.RowKit Go.Shelf
noncomputable def gdbody : Code := Try.f15.body.getD .skip
noncomputable def gdrest1 : Code := sndB gdbody
noncomputable def gdrest2 : Code := sndB gdrest1
noncomputable def gdrest3 : Code := sndB gdrest2
noncomputable def gdrest4 : Code := sndB gdrest3
noncomputable def gdrest5 : Code := sndB gdrest4
set_option maxRecDepth 1000000 in
theorem gdbody_eq : gdbody = .seq (Code.region 0 #[⟨some 1, .box 30 (.tmp 0), 0, "game.go:22", #[], none⟩, ⟨some 2, .alloc 3, 0, "game.go:22", #[], none⟩, ⟨some 3, .alloc 39, 0, "game.go:22", #[], none⟩] false) gdrest1 := by kernel_rfl
set_option maxRecDepth 1000000 in
theorem gdrest1_eq : gdrest1 = .seq (.seq (Code.region 1 #[⟨some 9, .load 30 (.tmp 1), 30, "game.go:23", #[], none⟩, ⟨some 10, .call { callee := .value (.func 52), args := #[.tmp 9], argTypes := #[30] }, 39, "game.go:23", #[⟨0, .data⟩], none⟩, ⟨some 4, .assign (.tmp 10), 39, "game.go:23", #[⟨1, .data⟩, ⟨1, .chain⟩, ⟨0, .phase⟩, ⟨1, .phase⟩], none⟩] false) (.seq (Code.region 2 #[⟨some 11, .move (.tmp 4), 39, "game.go:23", #[], none⟩, ⟨some 12, .binOp .neq 39 (.tmp 11) (.const (.int .i64 0)) 39, 4, "game.go:23", #[⟨0, .data⟩], none⟩] false) (.cond (.tmp 12) (.seq (Code.region 3 #[⟨some 13, .move (.tmp 4), 39, "game.go:24", #[⟨1, .gcOnly .lateStores⟩], none⟩, ⟨none, .store 3 (.tmp 2) (.const (.int .i64 0)), 0, "game.go:24", #[⟨0, .textOnly .lateStores⟩], none⟩, ⟨none, .store 39 (.tmp 3) (.tmp 13), 0, "game.go:24", #[⟨0, .data⟩, ⟨1, .chain⟩, ⟨0, .phase⟩, ⟨1, .phase⟩], none⟩] false) .ret) .skip))) gdrest2 := by kernel_rfl
set_option maxRecDepth 1000000 in
theorem gdrest2_eq : gdrest2 = .seq (Code.region 4 #[⟨some 14, .load 30 (.tmp 1), 30, "game.go:26", #[], none⟩, ⟨some 15, .call { callee := .value (.func 53), args := #[.tmp 14], argTypes := #[30] }, 85, "game.go:26", #[⟨0, .data⟩], none⟩, ⟨some 5, .alloc 85, 0, "game.go:26", #[], none⟩, ⟨none, .store 85 (.tmp 5) (.tmp 15), 0, "game.go:26", #[⟨2, .data⟩, ⟨1, .data⟩, ⟨1, .chain⟩, ⟨0, .phase⟩, ⟨1, .phase⟩, ⟨2, .phase⟩], none⟩] false) gdrest3 := by kernel_rfl
set_option maxRecDepth 1000000 in
theorem gdrest3_eq : gdrest3 = .seq (Code.region 5 #[⟨some 6, .alloc 3, 0, "game.go:27", #[], none⟩, ⟨none, .store 3 (.tmp 6) (.const (.int .i64 0)), 0, "game.go:27", #[⟨0, .data⟩, ⟨0, .phase⟩], none⟩] false) gdrest4 := by kernel_rfl
set_option maxRecDepth 1000000 in
theorem gdrest5_eq : gdrest5 = .seq (Code.region 13 #[⟨some 36, .load 3 (.tmp 6), 3, "game.go:36", #[], none⟩, ⟨none, .store 3 (.tmp 2) (.tmp 36), 0, "game.go:36", #[⟨0, .data⟩, ⟨0, .phase⟩], none⟩, ⟨none, .store 39 (.tmp 3) (.const (.int .i64 0)), 0, "game.go:36", #[⟨1, .chain⟩, ⟨0, .phase⟩, ⟨1, .phase⟩], none⟩] false) .ret := by kernel_rfl
noncomputable def gfa : Code := ((rfB gdrest4).getD (.skip, .skip)).1
noncomputable def gfb : Code := ((rfB gdrest4).getD (.skip, .skip)).2
noncomputable def gfc : Code := ((blkB gfb).getD .skip)
noncomputable def gb0 : Code := gfc
noncomputable def gb1 : Code := sndB gb0
noncomputable def gb2 : Code := sndB gb1
noncomputable def gb3 : Code := sndB gb2
set_option maxRecDepth 1000000 in
theorem gb0_eq : gb0 = .seq (Code.region 8 #[⟨some 23, .fieldAddr 30 (.tmp 1) 0, 0, "game.go:29", #[], none⟩, ⟨some 24, .load 25 (.tmp 23), 25, "game.go:29", #[⟨0, .data⟩], none⟩, ⟨some 8, .alloc 25, 0, "game.go:29", #[], none⟩, ⟨none, .store 25 (.tmp 8) (.tmp 24), 0, "game.go:29", #[⟨2, .data⟩, ⟨1, .data⟩, ⟨0, .phase⟩, ⟨1, .phase⟩, ⟨2, .phase⟩], none⟩] false) gb1 := by kernel_rfl
set_option maxRecDepth 1000000 in
theorem gb1_eq : gb1 = .seq (Code.region 9 #[⟨some 25, .load 23 (.tmp 7), 23, "game.go:30", #[], none⟩, ⟨some 26, .fieldAddr 25 (.tmp 8) 0, 0, "game.go:30", #[⟨0, .phase⟩], none⟩, ⟨none, .store 23 (.tmp 26) (.tmp 25), 0, "game.go:30", #[⟨1, .data⟩, ⟨0, .data⟩, ⟨0, .phase⟩], none⟩] false) gb2 := by kernel_rfl
set_option maxRecDepth 1000000 in
theorem gb2_eq : gb2 = .seq (Code.region 10 #[⟨some 27, .load 3 (.tmp 6), 3, "game.go:31", #[], none⟩, ⟨some 28, .load 85 (.tmp 5), 85, "game.go:31", #[], none⟩, ⟨some 29, .load 25 (.tmp 8), 25, "game.go:31", #[], none⟩, ⟨some 30, .build 93 #[(0, .tmp 29), (1, .const (.int .i64 4))], 93, "game.go:31", #[⟨2, .data⟩], none⟩, ⟨some 31, .call { callee := .value (.tmp 28), args := #[.tmp 30], argTypes := #[93] }, 91, "game.go:31", #[⟨1, .data⟩, ⟨3, .data⟩], none⟩, ⟨some 32, .field 91 (.tmp 31) 1, 3, "game.go:31", #[⟨4, .data⟩], none⟩, ⟨some 33, .call { callee := .builtin .max, args := #[.tmp 27, .tmp 32], argTypes := #[3, 3] }, 3, "game.go:31", #[⟨0, .data⟩, ⟨5, .data⟩], none⟩, ⟨none, .store 3 (.tmp 6) (.tmp 33), 0, "game.go:31", #[⟨6, .data⟩, ⟨4, .chain⟩, ⟨0, .phase⟩, ⟨1, .phase⟩, ⟨2, .phase⟩, ⟨3, .phase⟩, ⟨4, .phase⟩, ⟨5, .phase⟩, ⟨6, .phase⟩], none⟩] true) gb3 := by kernel_rfl
set_option maxRecDepth 1000000 in
theorem gb3_eq : gb3 = .seq (Code.region 11 #[⟨some 34, .load 3 (.tmp 6), 3, "game.go:32", #[], none⟩, ⟨some 35, .binOp .eql 3 (.tmp 34) (.const (.int .i64 5)) 3, 4, "game.go:32", #[⟨0, .data⟩], none⟩] false) (.cond (.tmp 35) (.seq (Code.region 12 #[⟨none, .store 3 (.tmp 2) (.const (.int .i64 0)), 0, "game.go:33", #[], none⟩, ⟨none, .store 39 (.tmp 3) (.const (.int .i64 11)), 0, "game.go:33", #[⟨0, .chain⟩, ⟨0, .phase⟩], none⟩] false) .ret) .skip) := by kernel_rfl
set_option maxRecDepth 1000000 in
theorem gfa_eq : gfa = (Code.region 7 #[⟨some 7, .alloc 23, 0, "game.go:28", #[], none⟩, ⟨none, .store 23 (.tmp 7) (.tmp 22), 0, "game.go:28", #[⟨0, .data⟩, ⟨0, .phase⟩], none⟩] false) := by kernel_rfl
set_option maxRecDepth 1000000 in
theorem gfb_eq : gfb = .block 1 gb0 := by kernel_rfl
set_option maxRecDepth 1000000 in
theorem gdrest4_cut : gdrest4 = .seq (.seq (Code.region 6 #[⟨some 16, .fieldAddr 30 (.tmp 1) 0, 0, "game.go:28", #[], none⟩, ⟨some 17, .fieldAddr 25 (.tmp 16) 0, 0, "game.go:28", #[⟨0, .data⟩], none⟩, ⟨some 18, .load 23 (.tmp 17), 23, "game.go:28", #[⟨1, .data⟩], none⟩, ⟨some 19, .fieldAddr 30 (.tmp 1) 4, 0, "game.go:28", #[], none⟩, ⟨some 20, .load 3 (.tmp 19), 3, "game.go:28", #[⟨3, .data⟩], none⟩, ⟨some 21, .call { callee := .value (.func 54), args := #[.tmp 18, .tmp 20], argTypes := #[23, 3] }, 88, "game.go:28", #[⟨2, .data⟩, ⟨4, .data⟩], none⟩] false) (.block 0 (.rangeFunc (.tmp 21) #[22] gfa gfb))) gdrest5 := by kernel_rfl
def gv (J : Jb) (pre : List R2) : Int := pre.foldl (fun m r => mx m (bestM J 4 { J.tg with p1 := r.1, p2 := r.2 }).2) 0
theorem gv_snoc (J : Jb) (pre : List R2) (x : R2) : gv J (pre ++ [x]) = mx (gv J pre) (bestM J 4 { J.tg with p1 := x.1, p2 := x.2 }).2 := by simp [gv]
theorem gv_nn (J : Jb) (pre : List R2) : 0 ≤ gv J pre := fold_le _ _ _
theorem gv_top (J : Jb) (pre : List R2) : gv J pre ≤ 5 := fold_top _ _ (fun r => (best_bound J 4 _).2) _ _ (by decide)
theorem gv_pre (J : Jb) {p l : List R2} (h : p <+: l) : gv J p ≤ gv J l := by
  obtain ⟨q, rfl⟩ := h
  unfold gv
  rw [List.foldl_append]
  exact fold_le _ _ _
theorem gv_all (J : Jb) : gv J (readsL J.p1 J.p2 J.me) = guideI J := rfl
def guidedI (J : Jb) : Int × Int := if J.check = 0 then (if guideI J = 5 then (0, 11) else (guideI J, 0)) else (0, J.check)
theorem results_int2 {P : Program} {fn : Func} {p q : Tmp} {ty tz : TypeId} {k : IntKind} {m : IntKind} (h : fn.results = #[.cell p ty, .cell q tz]) (tmps : Array Value) (w : World) (g g' : Nat) (t t' : TypeId) (v u : Value)
    (hp : tmps.getD p undef = .pointer (some ⟨g, 0, none⟩)) (hq : tmps.getD q undef = .pointer (some ⟨g', 0, none⟩)) (hg : Bk w g t #[v]) (hg' : Bk w g' t' #[u])
    (hu : P.underlying ty = some (.int k)) (hz : P.underlying tz = some (.int m)) :
    (results fn tmps).run P w = .ok (.tuple #[v, u]) w := by
  have hp' : tmps[p]?.getD undef = .pointer (some ⟨g, 0, none⟩) := by simpa using hp
  have hq' : tmps[q]?.getD undef = .pointer (some ⟨g', 0, none⟩) := by simpa using hq
  have c1 := hg.at_ 0 v rfl
  have c2 := hg'.at_ 0 u rfl
  simp [results, h, hp', hq', asAddr, loadVar, Sem.run_bind, isAgg, run_underlying hu w, run_underlying hz w, run_load, c1, c2]
theorem Stp.b0 {bm g h : Nat} {w0 X Y : World} (a : Stp bm g h X Y) (hb : Below w0.heap.size w0 X) (h1 : w0.heap.size ≤ bm) (h2 : w0.heap.size ≤ g) (h3 : w0.heap.size ≤ h) : Below w0.heap.size X Y :=
  ⟨a.os, a.tape, a.output, a.size, fun i hi => a.same i (Nat.lt_of_lt_of_le hi hb.size) (by omega) (by omega) (by omega)⟩
/-- How the blocks of Guided lie. -/
def GN (n0 g1 g2 g3 g5 g6 Bw Bf Bj Bb bm : Nat) : Prop := n0 ≤ g1 ∧ g1 < g2 ∧ g2 < g3 ∧ g3 < g5 ∧ g5 < g6 ∧ Bw < g5 ∧ Bf < g5 ∧ Bj < g5 ∧ Bb < g5 ∧ bm < g5 ∧ n0 ≤ bm
/-- What lies about in Guided. -/
structure GS (J : Jb) (sa : Option Addr) (sn sc : Nat) (w0 : World) (g1 g2 g3 g5 Bw Bf Bj Bb bm : Nat) (X : World) : Prop where
  ns : NS J sa sn sc w0 g1 X
  env : Env J (.slice sa sn sc) Bw Bf Bj Bb bm X
  r2 : Bk X g2 3 #[.int .i64 0]
  r3 : Bk X g3 39 #[.int .i64 0]
  fv : Bk X g5 85 #[(.func (.func 81) #[] #[.pointer (some ⟨Bw, 0, none⟩), .pointer (some ⟨Bf, 0, none⟩), .pointer (some ⟨Bj, 0, none⟩), .pointer (some ⟨Bb, 0, none⟩)])]
section
variable {J : Jb} {sa : Option Addr} {sn sc : Nat} {w0 : World} {g1 g2 g3 g5 g6 Bw Bf Bj Bb bm : Nat} {X Y : World}
theorem GS.stp (h : GS J sa sn sc w0 g1 g2 g3 g5 Bw Bf Bj Bb bm X) {c : Nat} (hM : Memo J X bm c) (hn : GN w0.heap.size g1 g2 g3 g5 g6 Bw Bf Bj Bb bm) (a : Stp bm g6 g6 X Y) : GS J sa sn sc w0 g1 g2 g3 g5 Bw Bf Bj Bb bm Y := by
  obtain ⟨n1, n2, n3, n4, n5, n6, n7, n8, n9, n10, n11⟩ := hn
  have k1 := bk_ne_memo h.ns.job hM
  have k2 := bk_ne_memo h.r2 hM
  have k3 := bk_ne_memo h.r3 hM
  have k5 := bk_ne_memo h.fv hM
  have kw := bk_ne_memo h.env.win hM
  have kf := bk_ne_memo h.env.found hM
  have kj := bk_ne_memo h.env.job hM
  have kb := bk_ne_memo h.env.best hM
  exact ⟨h.ns.of (a.b0 h.ns.b0 n11 (by omega) (by omega)) (a.bk h.ns.job k1 (by omega) (by omega)), ⟨a.bk h.env.win kw (by omega) (by omega), a.bk h.env.found kf (by omega) (by omega), a.bk h.env.job kj (by omega) (by omega), a.bk h.env.best kb (by omega) (by omega)⟩,
    a.bk h.r2 k2 (by omega) (by omega), a.bk h.r3 k3 (by omega) (by omega), a.bk h.fv k5 (by omega) (by omega)⟩
theorem GS.own (h : GS J sa sn sc w0 g1 g2 g3 g5 Bw Bf Bj Bb bm X) {B : Nat} {row : Option Nat} (hB : w0.heap.size ≤ B) (hg : X.grownBy Y row) (hr : ∀ r, row = some r → B ≤ r ∧ ∃ o : Obj, X.heap[r]? = some o ∧ o.isCells = false) : GS J sa sn sc w0 g1 g2 g3 g5 Bw Bf Bj Bb bm Y :=
  ⟨h.ns.of ⟨hg.os, hg.tape, hg.output, hg.size, fun i hi => hg.block i (Nat.lt_of_lt_of_le hi h.ns.b0.size) (fun e => by have := (hr i e.symm).1; omega)⟩ (h.ns.job.grown hg (row_ne h.ns.job hr)),
   ⟨h.env.win.grown hg (row_ne h.env.win hr), h.env.found.grown hg (row_ne h.env.found hr), h.env.job.grown hg (row_ne h.env.job hr), h.env.best.grown hg (row_ne h.env.best hr)⟩, h.r2.grown hg (row_ne h.r2 hr), h.r3.grown hg (row_ne h.r3 hr), h.fv.grown hg (row_ne h.fv hr)⟩
end
/-- What holds between two readings in Guided. -/
structure GI (J : Jb) (sa : Option Addr) (sn sc : Nat) (w0 : World) (g1 g2 g3 g5 g6 Bw Bf Bj Bb bm : Nat) (pre : List R2) (X : World) : Prop where
  gs : GS J sa sn sc w0 g1 g2 g3 g5 Bw Bf Bj Bb bm X
  memo : ∃ c', c' ≤ pre.length * cost 4 ∧ Memo J X bm c'
  val : Bk X g6 3 #[.int .i64 (gv J pre)]
  less : gv J pre ≠ 5
structure GX (J : Jb) (w0 : World) (g2 g3 : Nat) (cd : Code) (pre : List R2) (X : World) : Prop where
  out : cd = .ret
  more : gv J pre = 5
  b0 : Below w0.heap.size w0 X
  r2 : Bk X g2 3 #[.int .i64 0]
  r3 : Bk X g3 39 #[.int .i64 11]
structure SG (J : Jb) (sa : Option Addr) (sn sc : Nat) (w0 : World) (g1 g2 g3 g5 g6 g8 Bw Bf Bj Bb bm c : Nat) (x : R2) (X0 X : World) : Prop where
  stp : Stp bm g6 g6 X0 X
  gs : GS J sa sn sc w0 g1 g2 g3 g5 Bw Bf Bj Bb bm X
  memo : ∃ c', c' ≤ c ∧ Memo J X bm c'
  next : Bk X g8 25 #[.int .i64 { J.tg with p1 := x.1, p2 := x.2 }.p1, .int .i64 { J.tg with p1 := x.1, p2 := x.2 }.p2, .int .i64 { J.tg with p1 := x.1, p2 := x.2 }.t1, .int .i64 { J.tg with p1 := x.1, p2 := x.2 }.t2, .int .i64 { J.tg with p1 := x.1, p2 := x.2 }.r1, .int .i64 { J.tg with p1 := x.1, p2 := x.2 }.r2]
  val : ∃ z, Bk X g6 3 #[z]
theorem GI.own {J : Jb} {sa : Option Addr} {sn sc : Nat} {w0 : World} {g1 g2 g3 g5 g6 Bw Bf Bj Bb bm : Nat} {B : Nat} (hB : w0.heap.size ≤ B) (hbm : bm < B) (fm : R2 → R2) : OwnFrom B (fun (pre : List R2) (X : World) => GI J sa sn sc w0 g1 g2 g3 g5 g6 Bw Bf Bj Bb bm (pre.map fm) X) := by
  intro pre X Y row h hg hr
  obtain ⟨d, hd, hm⟩ := h.memo
  exact ⟨h.gs.own hB hg hr, ⟨d, hd, hm.kept hg (by intro e; have := (hr bm e.symm).1; omega)⟩, h.val.grown hg (row_ne h.val hr), h.less⟩
theorem GX.own {J : Jb} {w0 : World} {g2 g3 : Nat} {B : Nat} (hB : w0.heap.size ≤ B) (cd : Code) (fm : R2 → R2) : OwnFrom B (fun (pre : List R2) (X : World) => GX J w0 g2 g3 cd (pre.map fm) X) := by
  intro pre X Y row h hg hr
  exact ⟨h.out, h.more, h.b0.trans ⟨hg.os, hg.tape, hg.output, hg.size, fun i hi => hg.block i (Nat.lt_of_lt_of_le hi h.b0.size) (fun e => by have := (hr i e.symm).1; omega)⟩, h.r2.grown hg (row_ne h.r2 hr), h.r3.grown hg (row_ne h.r3 hr)⟩
section
variable {J : Jb} {sa : Option Addr} {sn sc : Nat} {w0 : World} {g1 g2 g3 g5 g6 Bw Bf Bj Bb bm : Nat} {g8 c c' : Nat} {x : R2} {X0 X Y : World}
theorem SG.call (h : SG J sa sn sc w0 g1 g2 g3 g5 g6 g8 Bw Bf Bj Bb bm c x X0 X) (hn : GN w0.heap.size g1 g2 g3 g5 g6 Bw Bf Bj Bb bm) (hg : X.grownBy Y (some bm)) (hm : ∃ d, d ≤ c' ∧ Memo J Y bm d) : SG J sa sn sc w0 g1 g2 g3 g5 g6 g8 Bw Bf Bj Bb bm c' x X0 Y := by
  obtain ⟨z, hz⟩ := h.val
  obtain ⟨d, hd, hM⟩ := h.memo
  exact ⟨h.stp.trans (.grown hg), h.gs.stp hM hn (.grown hg), hm, h.next.grown hg (fun e => bk_ne_memo h.next hM (by injection e)), ⟨z, hz.grown hg (fun e => bk_ne_memo hz hM (by injection e))⟩⟩
theorem SG.store (h : SG J sa sn sc w0 g1 g2 g3 g5 g6 g8 Bw Bf Bj Bb bm c x X0 X) (hn : GN w0.heap.size g1 g2 g3 g5 g6 Bw Bf Bj Bb bm) (v : Value) : SG J sa sn sc w0 g1 g2 g3 g5 g6 g8 Bw Bf Bj Bb bm c x X0 (X.setCell ⟨g6, 0, none⟩ v) := by
  have q : Stp bm g6 g6 X (X.setCell ⟨g6, 0, none⟩ v) := Stp.cell _ _ (.inl rfl)
  obtain ⟨z, hz⟩ := h.val
  obtain ⟨d, hd, hM⟩ := h.memo
  have hne := bk_ne_memo hz hM
  have h8 : g8 ≠ g6 := by
    rintro rfl
    have a := h.next
    unfold Bk at a hz
    rw [a] at hz
    simp at hz
  exact ⟨h.stp.trans q, h.gs.stp hM hn q, ⟨d, hd, hM.kept (grownBy_setCell' X g6 v) (by intro e; injection e with e; exact hne e.symm)⟩, h.next.other (by exact h8) _, ⟨v, hz.put1 v⟩⟩
theorem SG.drew (h : SG J sa sn sc w0 g1 g2 g3 g5 g6 g8 Bw Bf Bj Bb bm c x X0 X) (hn : GN w0.heap.size g1 g2 g3 g5 g6 Bw Bf Bj Bb bm) : SG J sa sn sc w0 g1 g2 g3 g5 g6 g8 Bw Bf Bj Bb bm c x X0 X.drew := by
  obtain ⟨z, hz⟩ := h.val
  obtain ⟨d, hd, hM⟩ := h.memo
  exact ⟨h.stp.drew, h.gs.stp hM hn (Stp.below (Below.refl _ _).drew), ⟨d, hd, hM.kept (row := none) ⟨rfl, rfl, rfl, Nat.le_refl _, fun _ _ _ => rfl⟩ (by simp)⟩, h.next, ⟨z, hz⟩⟩
theorem SG.more (h : SG J sa sn sc w0 g1 g2 g3 g5 g6 g8 Bw Bf Bj Bb bm c x X0 X) (hc : c ≤ c') : SG J sa sn sc w0 g1 g2 g3 g5 g6 g8 Bw Bf Bj Bb bm c' x X0 X := by
  obtain ⟨d, hd, hm⟩ := h.memo
  exact ⟨h.stp, h.gs, ⟨d, by omega, hm⟩, h.next, h.val⟩
end
end Go.Proofs.Ytbebofmpimfbgaa
/- One round of Guided. -/
namespace Go.Proofs.Ytbebofmpimfbgaa
set_option linter.all false
open Go.RowKit Go.Shelf
attribute [local go_sem] Oper.semAt_some
theorem Stp.newCell {bm g6 g8 : Nat} {X0 X : World} (a : Stp bm g6 g6 X0 X) (h : X0.heap.size ≤ g8) (o : Nat) (v : Value) : Stp bm g6 g6 X0 (X.setCell ⟨g8, o, none⟩ v) := by
  have q : Below X0.heap.size X (X.setCell ⟨g8, o, none⟩ v) := (Below.refl _ _).setCell h v
  exact ⟨q.os.trans a.os, q.tape.trans a.tape, q.output.trans a.output, Nat.le_trans a.size q.size, fun i h0 h1 h2 h3 => (q.block i h0).trans (a.same i h0 h1 h2 h3)⟩
set_option maxHeartbeats 4000000 in
set_option maxRecDepth 1000000 in
theorem gr3 {J : Jb} {sa : Option Addr} {sn sc : Nat} {w0 : World} {g1 g2 g3 g5 g6 Bw Bf Bj Bb bm : Nat} {g7 g8 B Bp Bm l n : Nat} {pre : List R2} {x : R2} {X0 X : World} {u0 u4 u8 u9 u10 u11 u12 u13 u14 u15 u16 u17 u18 u19 u20 u21 u22 u23 u24 u25 u26 u27 u28 u29 u30 u31 u32 u33 u34 u35 u36 : Value} (hs : SG J sa sn sc w0 g1 g2 g3 g5 g6 g8 Bw Bf Bj Bb bm ((pre.length + 1) * cost 4) x X0 X) (hv : Bk X g6 3 #[.int .i64 (gv J (pre ++ [x]))]) (h6 : ∃ z, Bk X0 g6 3 #[z]) (hn : GN w0.heap.size g1 g2 g3 g5 g6 Bw Bf Bj Bb bm) (hB : g6 < B ∧ B ≤ X0.heap.size) (hp1 : Bp < X0.heap.size ∧ Bp ≠ bm ∧ Bp ≠ g6) (hp2 : Bm < X0.heap.size ∧ Bm ≠ bm ∧ Bm ≠ g6) (hlen : (pre ++ [x]).length = pre.length + 1) : Code.wpIn (Fence.wide.inRound l) n Try.prog gb3 (ownPostG B (KpB Bp Bm) (GI J sa sn sc w0 g1 g2 g3 g5 g6 Bw Bf Bj Bb bm) (GX J w0 g2 g3) (pre ++ [x]) X0) ⟨#[u0, (.pointer (some ⟨g1, 0, none⟩)), (.pointer (some ⟨g2, 0, none⟩)), (.pointer (some ⟨g3, 0, none⟩)), u4, (.pointer (some ⟨g5, 0, none⟩)), (.pointer (some ⟨g6, 0, none⟩)), (.pointer (some ⟨g7, 0, none⟩)), u8, u9, u10, u11, u12, u13, u14, u15, u16, u17, u18, u19, u20, u21, u22, u23, u24, u25, u26, u27, u28, u29, u30, u31, u32, u33, u34, u35, u36], []⟩ X := by
  rw [gb3_eq]
  have z6 := hv.at_ 0 (.int .i64 (gv J (pre ++ [x]))) rfl
  have c2 := hs.gs.r2.at_ 0 _ rfl
  have c3 := hs.gs.r3.at_ 0 _ rfl
  have f2 := hs.gs.r2.free 0
  have f3 := hs.gs.r3.free 0
  obtain ⟨dd, hdd, hMM⟩ := hs.memo
  have hne6 := bk_ne_memo hv hMM
  obtain ⟨zz, h6⟩ := h6
  have kk := hs.stp.keeps (B := B) (by have := hn.2.2.2.2.1; have := hn.2.2.2.2.2.2.2.2.2.1; omega) h6 h6
  have kp := hs.stp.kp ⟨hp1.1, hp1.2.1, hp1.2.2, hp1.2.2⟩ ⟨hp2.1, hp2.2.1, hp2.2.2, hp2.2.2⟩
  have e23 : g2 ≠ g3 := by unfold GN at hn; omega
  have e32 : g3 ≠ g2 := by unfold GN at hn; omega
  have HS := hidMk hs
  have HV := hidMk hv
  have HK := hidMk kk
  have HP := hidMk kp
  have HN := hidMk hn
  have HBB := hidMk hB
  have HL := hidMk hlen
  clear hs hv kk kp hn hB hdd hMM hne6 hp1 hp2 h6 hlen
  by_cases h5 : gv J (pre ++ [x]) = 5
  · rw [h5] at z6
    have H5 := hidMk h5
    clear h5
    gi_wp2_with fail
    have q2 : Stp g2 g2 g3 X (X.setCell ⟨g2, 0, none⟩ (.int .i64 0)) := Stp.cell _ _ (.inl rfl)
    have q3 : Stp g2 g2 g3 (X.setCell ⟨g2, 0, none⟩ (.int .i64 0)) ((X.setCell ⟨g2, 0, none⟩ (.int .i64 0)).setCell ⟨g3, 0, none⟩ (.int .i64 11)) := Stp.cell _ _ (.inr rfl)
    have hnn := HN.out
    have hbb := HBB.out
    unfold GN at hnn
    have r2 := HS.out.gs.r2.put1 (.int .i64 0)
    have r3 := HS.out.gs.r3.other (p := ⟨g2, 0, none⟩) (by show g3 ≠ g2; omega) (.int .i64 0)
    refine ⟨HK.out.trans ((q2.trans q3).keeps (by omega) HS.out.gs.r2 HS.out.gs.r3), rfl, H5.out, ?_, r2.other (p := ⟨g3, 0, none⟩) (by show g2 ≠ g3; omega) _, r3.put1 _⟩
    exact HS.out.gs.ns.b0.trans ((((Below.refl _ _).setCell (by show w0.heap.size ≤ g2; omega) _)).setCell (by show w0.heap.size ≤ g3; omega) _)
  · have H5 := hidMk h5
    have hb5 : (gv J (pre ++ [x]) == 5) = false := by rw [beq_eq_false_iff_ne]; exact h5
    clear h5
    gi_wp2_with fail
    refine ⟨HK.out, HP.out, HS.out.gs, ?_, HV.out, H5.out⟩
    rw [HL.out]
    exact HS.out.memo
set_option maxHeartbeats 4000000 in
set_option maxRecDepth 1000000 in
theorem gr2 {J : Jb} {sa : Option Addr} {sn sc : Nat} {w0 : World} {g1 g2 g3 g5 g6 Bw Bf Bj Bb bm : Nat} {g7 g8 B Bp Bm l n : Nat} {pre : List R2} {x : R2} {X0 X : World} {u0 u4 u9 u10 u11 u12 u13 u14 u15 u16 u17 u18 u19 u20 u21 u22 u23 u24 u25 u26 u27 u28 u29 u30 u31 u32 u33 u34 u35 u36 : Value} (hs : SG J sa sn sc w0 g1 g2 g3 g5 g6 g8 Bw Bf Bj Bb bm (pre.length * cost 4) x X0 X) (hv : Bk X g6 3 #[.int .i64 (gv J pre)]) (hok : J.Ok) (hme : 0 ≤ J.me ∧ J.me ≤ 6) (hT : TgIn 4 { J.tg with p1 := x.1, p2 := x.2 }) (hlim : (pre.length + 1) * cost 4 ≤ 1000000000000000) (h6 : ∃ z, Bk X0 g6 3 #[z]) (hn : GN w0.heap.size g1 g2 g3 g5 g6 Bw Bf Bj Bb bm) (hB : g6 < B ∧ B ≤ X0.heap.size) (hp1 : Bp < X0.heap.size ∧ Bp ≠ bm ∧ Bp ≠ g6) (hp2 : Bm < X0.heap.size ∧ Bm ≠ bm ∧ Bm ≠ g6) (hlen : (pre ++ [x]).length = pre.length + 1) : Code.wpIn (Fence.wide.inRound l) n Try.prog gb2 (ownPostG B (KpB Bp Bm) (GI J sa sn sc w0 g1 g2 g3 g5 g6 Bw Bf Bj Bb bm) (GX J w0 g2 g3) (pre ++ [x]) X0) ⟨#[u0, (.pointer (some ⟨g1, 0, none⟩)), (.pointer (some ⟨g2, 0, none⟩)), (.pointer (some ⟨g3, 0, none⟩)), u4, (.pointer (some ⟨g5, 0, none⟩)), (.pointer (some ⟨g6, 0, none⟩)), (.pointer (some ⟨g7, 0, none⟩)), (.pointer (some ⟨g8, 0, none⟩)), u9, u10, u11, u12, u13, u14, u15, u16, u17, u18, u19, u20, u21, u22, u23, u24, u25, u26, u27, u28, u29, u30, u31, u32, u33, u34, u35, u36], []⟩ X := by
  rw [gb2_eq]
  have HOK := hidMk hok
  have HN := hidMk hn
  have HT := hidMk hT
  have HME : Hid (0 ≤ J.me ∧ J.me ≤ 6) := hidMk hme
  have HU : Hid (J.u1 ≤ J.u2 ∧ J.d1 ≤ J.d2) := hidMk ⟨hok.u, hok.d⟩
  have HB := hidMk hB
  have HP1 := hidMk hp1
  have HP2 := hidMk hp2
  have H6 := hidMk h6
  have HL := hidMk hlen
  have hlim := hidMk hlim
  have hmul : Hid ((pre.length + 1) * cost 4 = pre.length * cost 4 + cost 4) := hidMk (by rw [Nat.add_mul, Nat.one_mul])
  have hSd := (hs.drew hn).more (c' := (pre.length + 1) * cost 4) (by rw [Nat.add_mul]; omega)
  have hMt0 : Hid (∃ cc, cc ≤ pre.length * cost 4 ∧ Memo J X.drew bm cc) := hidMk (hs.drew hn).memo
  have hV0 := hv.drew
  clear hok hn hT hme hB hp1 hp2 h6 hlen hs hv
  refine wpIn_seq ?_
  refine region_inRound (fun a' w' => ∃ (v27 v28 v29 v30 v31 v32 v33 : Value), a' = ⟨#[u0, (.pointer (some ⟨g1, 0, none⟩)), (.pointer (some ⟨g2, 0, none⟩)), (.pointer (some ⟨g3, 0, none⟩)), u4, (.pointer (some ⟨g5, 0, none⟩)), (.pointer (some ⟨g6, 0, none⟩)), (.pointer (some ⟨g7, 0, none⟩)), (.pointer (some ⟨g8, 0, none⟩)), u9, u10, u11, u12, u13, u14, u15, u16, u17, u18, u19, u20, u21, u22, u23, u24, u25, u26, v27, v28, v29, v30, v31, v32, v33, u34, u35, u36], []⟩ ∧ SG J sa sn sc w0 g1 g2 g3 g5 g6 g8 Bw Bf Bj Bb bm ((pre.length + 1) * cost 4) x X0 w' ∧ Bk w' g6 3 #[.int .i64 (gv J (pre ++ [x]))]) (fun w' => SG J sa sn sc w0 g1 g2 g3 g5 g6 g8 Bw Bf Bj Bb bm ((pre.length + 1) * cost 4) x X0 w') (by kernel_rfl) (by kernel_rfl) hSd (fun hS => ?_) ?_
  · have hV := hV0
    have hMt := hMt0
    generalize X.drew = wd at hS hV hMt ⊢
    clear hSd hV0 hMt0
    have bb := best_bound J 4 { J.tg with p1 := x.1, p2 := x.2 }
    have vb := gv_nn J pre
    have vt := gv_top J pre
    refine wpAnyH_take (i := 1) (v := ?_) rfl (by kernel_rfl) (by kernel_rfl) (by kernel_rfl) (fun _ _ _ h => by cases h.1) (.inl ⟨by rfl, ?_⟩) (by assumption) ?_
    rotate_left
    · (intro w' hSw; (try dsimp only at hSw); have q := hSw.gs.fv.at_ 0 _ rfl; go_simp <;> with_reducible rfl)
    (try simp only [Act.put, aT, aZ, aS])
    refine wpAnyH_take (i := 2) rfl (by kernel_rfl) (by kernel_rfl) (by kernel_rfl) (fun _ _ _ h => by cases h.1) (yields_row (by rfl) 25 _ rfl g8 #[.int .i64 { J.tg with p1 := x.1, p2 := x.2 }.p1, .int .i64 { J.tg with p1 := x.1, p2 := x.2 }.p2, .int .i64 { J.tg with p1 := x.1, p2 := x.2 }.t1, .int .i64 { J.tg with p1 := x.1, p2 := x.2 }.t2, .int .i64 { J.tg with p1 := x.1, p2 := x.2 }.r1, .int .i64 { J.tg with p1 := x.1, p2 := x.2 }.r2] rfl 25 (fun w hw => hw.next) Try.underlying25 szTongue) (by assumption) ?_
    (try simp only [Act.put, aT, aZ, aS])
    refine wpAnyH_take (i := 3) (v := ?_) rfl (by kernel_rfl) (by kernel_rfl) (by kernel_rfl) (fun _ _ _ h => by cases h.1) (.inl ⟨by rfl, ?_⟩) (by assumption) ?_
    rotate_left
    · (intro w' hSw; (try dsimp only at hSw); skip; go_simp <;> with_reducible rfl)
    (try simp only [Act.put, aT, aZ, aS])
    refine wpAnyH_ready (rs := [0, 4]) (by kernel_rfl) (by simp) ?_
    refine AllReadyH.cons rfl (fun K hK => ?_) ?_
    · have z0 := hV.at_ 0 _ rfl
      go_simp
      clear z0
      refine hK.out _ _ hS (fun _ => ?_)
      clear hK K
      (try simp only [Act.put, aT, aZ, aS])
      refine wpAnyH_ready (rs := [4]) (by kernel_rfl) (by simp) ?_
      refine AllReadyH.cons rfl (fun K hK => ?_) ?_
      · go_simp
        obtain ⟨cc, hcc, hmm⟩ := hMt.out
        go_at_call 81
        refine (best_all J sa sn sc Bw Bf Bj Bb bm HOK.out.inn HME.out HU.out 4 (by decide) { J.tg with p1 := x.1, p2 := x.2 } cc _ hS.gs.env hmm HT.out (by have := hmul.out; have := hlim.out; omega)).mono ?_
        rintro e w9 ⟨rfl, ⟨cd, hcd, hmd⟩, hg9⟩
        have hV_ := hV.grown hg9 (fun e => bk_ne_memo hV hmm (by injection e))
        have hS_ := hS.call (c' := (pre.length + 1) * cost 4) HN.out hg9 ⟨cd, by have := hmul.out; omega, hmd⟩
        clear hV hS hmm hcc hcd hmd hg9
        have hV := hV_
        have hS := hS_
        clear hV_ hS_
        go_wp2_with fail
        refine hK.out _ _ hS (fun _ => ?_)
        clear hK K
        (try simp only [Act.put, aT, aZ, aS])
        refine wpAnyH_ready (rs := [5]) (by kernel_rfl) (by simp) ?_
        refine AllReadyH.cons rfl (fun K hK => ?_) ?_
        · go_simp
          refine hK.out _ _ hS (fun _ => ?_)
          clear hK K
          (try simp only [Act.put, aT, aZ, aS])
          refine wpAnyH_ready (rs := [6]) (by kernel_rfl) (by simp) ?_
          refine AllReadyH.cons rfl (fun K hK => ?_) ?_
          · go_simp
            refine hK.out _ _ hS (fun _ => ?_)
            clear hK K
            (try simp only [Act.put, aT, aZ, aS])
            refine wpAnyH_ready (rs := [7]) (by kernel_rfl) (by simp) ?_
            refine AllReadyH.cons rfl (fun K hK => ?_) ?_
            · have z0 := hV.at_ 0 _ rfl
              have f0 := hV.free 0
              go_simp
              have hV_ := hV.put1 (.int .i64 (mx (gv J pre) (bestM J 4 { J.tg with p1 := x.1, p2 := x.2 }).2))
              have hS_ := hS.store HN.out (.int .i64 (mx (gv J pre) (bestM J 4 { J.tg with p1 := x.1, p2 := x.2 }).2))
              refine hK.out _ _ hS_ (fun _ => ?_)
              clear z0 f0 hV hS
              clear hK K
              (try simp only [Act.put, aT, aZ, aS])
              refine wpAnyH_done (by kernel_rfl) ?_ _
              exact ⟨rfl, _, _, _, _, _, _, _, rfl, hS_, by rw [gv_snoc]; exact hV_⟩
            exact AllReadyH.nil
          exact AllReadyH.nil
        exact AllReadyH.nil
      exact AllReadyH.nil
    refine AllReadyH.cons rfl (fun K hK => ?_) ?_
    · go_simp
      obtain ⟨cc, hcc, hmm⟩ := hMt.out
      go_at_call 81
      refine (best_all J sa sn sc Bw Bf Bj Bb bm HOK.out.inn HME.out HU.out 4 (by decide) { J.tg with p1 := x.1, p2 := x.2 } cc _ hS.gs.env hmm HT.out (by have := hmul.out; have := hlim.out; omega)).mono ?_
      rintro e w9 ⟨rfl, ⟨cd, hcd, hmd⟩, hg9⟩
      have hV_ := hV.grown hg9 (fun e => bk_ne_memo hV hmm (by injection e))
      have hS_ := hS.call (c' := (pre.length + 1) * cost 4) HN.out hg9 ⟨cd, by have := hmul.out; omega, hmd⟩
      clear hV hS hmm hcc hcd hmd hg9
      have hV := hV_
      have hS := hS_
      clear hV_ hS_
      go_wp2_with fail
      refine hK.out _ _ hS (fun _ => ?_)
      clear hK K
      (try simp only [Act.put, aT, aZ, aS])
      refine wpAnyH_ready (rs := [0, 5]) (by kernel_rfl) (by simp) ?_
      refine AllReadyH.cons rfl (fun K hK => ?_) ?_
      · have z0 := hV.at_ 0 _ rfl
        go_simp
        clear z0
        refine hK.out _ _ hS (fun _ => ?_)
        clear hK K
        (try simp only [Act.put, aT, aZ, aS])
        refine wpAnyH_ready (rs := [5]) (by kernel_rfl) (by simp) ?_
        refine AllReadyH.cons rfl (fun K hK => ?_) ?_
        · go_simp
          refine hK.out _ _ hS (fun _ => ?_)
          clear hK K
          (try simp only [Act.put, aT, aZ, aS])
          refine wpAnyH_ready (rs := [6]) (by kernel_rfl) (by simp) ?_
          refine AllReadyH.cons rfl (fun K hK => ?_) ?_
          · go_simp
            refine hK.out _ _ hS (fun _ => ?_)
            clear hK K
            (try simp only [Act.put, aT, aZ, aS])
            refine wpAnyH_ready (rs := [7]) (by kernel_rfl) (by simp) ?_
            refine AllReadyH.cons rfl (fun K hK => ?_) ?_
            · have z0 := hV.at_ 0 _ rfl
              have f0 := hV.free 0
              go_simp
              have hV_ := hV.put1 (.int .i64 (mx (gv J pre) (bestM J 4 { J.tg with p1 := x.1, p2 := x.2 }).2))
              have hS_ := hS.store HN.out (.int .i64 (mx (gv J pre) (bestM J 4 { J.tg with p1 := x.1, p2 := x.2 }).2))
              refine hK.out _ _ hS_ (fun _ => ?_)
              clear z0 f0 hV hS
              clear hK K
              (try simp only [Act.put, aT, aZ, aS])
              refine wpAnyH_done (by kernel_rfl) ?_ _
              exact ⟨rfl, _, _, _, _, _, _, _, rfl, hS_, by rw [gv_snoc]; exact hV_⟩
            exact AllReadyH.nil
          exact AllReadyH.nil
        exact AllReadyH.nil
      refine AllReadyH.cons rfl (fun K hK => ?_) ?_
      · go_simp
        refine hK.out _ _ hS (fun _ => ?_)
        clear hK K
        (try simp only [Act.put, aT, aZ, aS])
        refine wpAnyH_ready (rs := [0]) (by kernel_rfl) (by simp) ?_
        refine AllReadyH.cons rfl (fun K hK => ?_) ?_
        · have z0 := hV.at_ 0 _ rfl
          go_simp
          clear z0
          refine hK.out _ _ hS (fun _ => ?_)
          clear hK K
          (try simp only [Act.put, aT, aZ, aS])
          refine wpAnyH_ready (rs := [6]) (by kernel_rfl) (by simp) ?_
          refine AllReadyH.cons rfl (fun K hK => ?_) ?_
          · go_simp
            refine hK.out _ _ hS (fun _ => ?_)
            clear hK K
            (try simp only [Act.put, aT, aZ, aS])
            refine wpAnyH_ready (rs := [7]) (by kernel_rfl) (by simp) ?_
            refine AllReadyH.cons rfl (fun K hK => ?_) ?_
            · have z0 := hV.at_ 0 _ rfl
              have f0 := hV.free 0
              go_simp
              have hV_ := hV.put1 (.int .i64 (mx (gv J pre) (bestM J 4 { J.tg with p1 := x.1, p2 := x.2 }).2))
              have hS_ := hS.store HN.out (.int .i64 (mx (gv J pre) (bestM J 4 { J.tg with p1 := x.1, p2 := x.2 }).2))
              refine hK.out _ _ hS_ (fun _ => ?_)
              clear z0 f0 hV hS
              clear hK K
              (try simp only [Act.put, aT, aZ, aS])
              refine wpAnyH_done (by kernel_rfl) ?_ _
              exact ⟨rfl, _, _, _, _, _, _, _, rfl, hS_, by rw [gv_snoc]; exact hV_⟩
            exact AllReadyH.nil
          exact AllReadyH.nil
        exact AllReadyH.nil
      exact AllReadyH.nil
    exact AllReadyH.nil
  · rintro a' w' ⟨v27, v28, v29, v30, v31, v32, v33, rfl, hs', hv'⟩
    exact gr3 hs' hv' H6.out HN.out HB.out HP1.out HP2.out HL.out
set_option maxHeartbeats 4000000 in
set_option maxRecDepth 1000000 in
theorem gr1 {J : Jb} {sa : Option Addr} {sn sc : Nat} {w0 : World} {g1 g2 g3 g5 g6 Bw Bf Bj Bb bm : Nat} {g7 g8 B Bp Bm l n : Nat} {pre : List R2} {x : R2} {X0 X : World} {u0 u4 u9 u10 u11 u12 u13 u14 u15 u16 u17 u18 u19 u20 u21 u22 u23 u24 u25 u26 u27 u28 u29 u30 u31 u32 u33 u34 u35 u36 : Value} (hi : GI J sa sn sc w0 g1 g2 g3 g5 g6 Bw Bf Bj Bb bm pre X0) (h8 : Bk X g8 25 #[.int .i64 J.p1, .int .i64 J.p2, .int .i64 J.t1, .int .i64 J.t2, .int .i64 J.r1, .int .i64 J.r2]) (hst : Stp bm g6 g6 X0 X) (hmx : ∀ d, Memo J X0 bm d → Memo J X bm d) (hvx : Bk X g6 3 #[.int .i64 (gv J pre)]) (hg8 : X0.heap.size ≤ g8) (h76 : g7 ≠ g6) (h7 : Bk X0 g7 23 #[.int .i64 x.1, .int .i64 x.2]) (hok : J.Ok) (hme : 0 ≤ J.me ∧ J.me ≤ 6) (hT : TgIn 4 { J.tg with p1 := x.1, p2 := x.2 }) (hlim : (pre.length + 1) * cost 4 ≤ 1000000000000000) (hn : GN w0.heap.size g1 g2 g3 g5 g6 Bw Bf Bj Bb bm) (hB : g6 < B ∧ B ≤ X0.heap.size) (hp1 : Bp < X0.heap.size ∧ Bp ≠ bm ∧ Bp ≠ g6) (hp2 : Bm < X0.heap.size ∧ Bm ≠ bm ∧ Bm ≠ g6) : Code.wpIn (Fence.wide.inRound l) n Try.prog gb1 (ownPostG B (KpB Bp Bm) (GI J sa sn sc w0 g1 g2 g3 g5 g6 Bw Bf Bj Bb bm) (GX J w0 g2 g3) (pre ++ [x]) X0) ⟨#[u0, (.pointer (some ⟨g1, 0, none⟩)), (.pointer (some ⟨g2, 0, none⟩)), (.pointer (some ⟨g3, 0, none⟩)), u4, (.pointer (some ⟨g5, 0, none⟩)), (.pointer (some ⟨g6, 0, none⟩)), (.pointer (some ⟨g7, 0, none⟩)), (.pointer (some ⟨g8, 0, none⟩)), u9, u10, u11, u12, u13, u14, u15, u16, u17, u18, u19, u20, u21, u22, u23, u24, u25, u26, u27, u28, u29, u30, u31, u32, u33, u34, u35, u36], []⟩ X := by
  rw [gb1_eq]
  have a0 := (hst.bk h7 (bk_ne_memo h7 hi.memo.choose_spec.2) h76 h76).at_ 0 _ rfl
  have a1 := (hst.bk h7 (bk_ne_memo h7 hi.memo.choose_spec.2) h76 h76).at_ 1 _ rfl
  have z0 := h8.at_ 0 (.int .i64 J.p1) rfl
  have z1 := h8.at_ 1 (.int .i64 J.p2) rfl
  have f0 := h8.free 0
  have f1 := h8.free 1
  have H8 := hidMk h8
  have HMX := hidMk hmx
  have HVX := hidMk hvx
  clear hmx hvx
  have HI := hidMk hi
  have HST := hidMk hst
  have HG8 := hidMk hg8
  have HOK := hidMk hok
  have HME : Hid (0 ≤ J.me ∧ J.me ≤ 6) := hidMk hme
  have HT := hidMk hT
  have HLI := hidMk hlim
  have HN := hidMk hn
  have HB := hidMk hB
  have HP1 := hidMk hp1
  have HP2 := hidMk hp2
  clear h7 h76 h8 hi hst hg8 hok hme hT hlim hn hB hp1 hp2
  gi_wp2_with fail
  have b8 := (H8.out.put 0 (.int .i64 x.1)).put 1 (.int .i64 x.2)
  have st2 : Stp bm g6 g6 X0 ((X.setCell ⟨g8, 0, none⟩ (.int .i64 x.1)).setCell ⟨g8, 1, none⟩ (.int .i64 x.2)) := (HST.out.newCell HG8.out 0 (.int .i64 x.1)).newCell HG8.out 1 (.int .i64 x.2)
  obtain ⟨dd, hdd, hMM⟩ := HI.out.memo
  have hm2 : Memo J ((X.setCell ⟨g8, 0, none⟩ (.int .i64 x.1)).setCell ⟨g8, 1, none⟩ (.int .i64 x.2)) bm dd := by
    obtain ⟨l1, l2⟩ : bm < X0.heap.size ∧ X0.heap.size ≤ g8 := ⟨hMM.lt, HG8.out⟩
    exact ((HMX.out dd hMM).kept (grownBy_setCellA X g8 0 _) (by intro e; injection e with e; omega)).kept (grownBy_setCellA _ g8 1 _) (by intro e; injection e with e; omega)
  have l6 := HI.out.val.lt
  have l8 := HG8.out
  have hv1 : Bk X g6 3 #[.int .i64 (gv J pre)] := HVX.out
  have hv2 := (hv1.other (p := ⟨g8, 0, none⟩) (by show g6 ≠ g8; omega) (.int .i64 x.1)).other (p := ⟨g8, 1, none⟩) (by show g6 ≠ g8; omega) (.int .i64 x.2)
  exact gr2 ⟨st2, HI.out.gs.stp hMM HN.out st2, ⟨dd, hdd, hm2⟩, b8, ⟨_, hv2⟩⟩ hv2 HOK.out HME.out HT.out HLI.out ⟨_, HI.out.val⟩ HN.out HB.out HP1.out HP2.out (by simp)
set_option maxHeartbeats 4000000 in
set_option maxRecDepth 1000000 in
theorem gr0 {J : Jb} {sa : Option Addr} {sn sc : Nat} {w0 : World} {g1 g2 g3 g5 g6 Bw Bf Bj Bb bm : Nat} {g7 B Bp Bm l n : Nat} {pre : List R2} {x : R2} {X : World} {u0 u4 u8 u9 u10 u11 u12 u13 u14 u15 u16 u17 u18 u19 u20 u21 u22 u23 u24 u25 u26 u27 u28 u29 u30 u31 u32 u33 u34 u35 u36 : Value} (hi : GI J sa sn sc w0 g1 g2 g3 g5 g6 Bw Bf Bj Bb bm pre X) (h76 : g7 ≠ g6) (h7 : Bk X g7 23 #[.int .i64 x.1, .int .i64 x.2]) (hok : J.Ok) (hme : 0 ≤ J.me ∧ J.me ≤ 6) (hT : TgIn 4 { J.tg with p1 := x.1, p2 := x.2 }) (hlim : (pre.length + 1) * cost 4 ≤ 1000000000000000) (hn : GN w0.heap.size g1 g2 g3 g5 g6 Bw Bf Bj Bb bm) (hB : g6 < B ∧ B ≤ X.heap.size) (hp1 : Bp < X.heap.size ∧ Bp ≠ bm ∧ Bp ≠ g6) (hp2 : Bm < X.heap.size ∧ Bm ≠ bm ∧ Bm ≠ g6) : Code.wpIn (Fence.wide.inRound l) n Try.prog gb0 (ownPostG B (KpB Bp Bm) (GI J sa sn sc w0 g1 g2 g3 g5 g6 Bw Bf Bj Bb bm) (GX J w0 g2 g3) (pre ++ [x]) X) ⟨#[u0, (.pointer (some ⟨g1, 0, none⟩)), (.pointer (some ⟨g2, 0, none⟩)), (.pointer (some ⟨g3, 0, none⟩)), u4, (.pointer (some ⟨g5, 0, none⟩)), (.pointer (some ⟨g6, 0, none⟩)), (.pointer (some ⟨g7, 0, none⟩)), u8, u9, u10, u11, u12, u13, u14, u15, u16, u17, u18, u19, u20, u21, u22, u23, u24, u25, u26, u27, u28, u29, u30, u31, u32, u33, u34, u35, u36], []⟩ X := by
  rw [gb0_eq]
  have hj := hi.gs.ns.job
  have c0 := hj.at_ 0 (.int .i64 J.p1) rfl
  have c1 := hj.at_ 1 (.int .i64 J.p2) rfl
  have c2 := hj.at_ 2 (.int .i64 J.t1) rfl
  have c3 := hj.at_ 3 (.int .i64 J.t2) rfl
  have c4 := hj.at_ 4 (.int .i64 J.r1) rfl
  have c5 := hj.at_ 5 (.int .i64 J.r2) rfl
  have HI := hidMk hi
  have H7 := hidMk h7
  have H76 := hidMk h76
  have HOK := hidMk hok
  have HME : Hid (0 ≤ J.me ∧ J.me ≤ 6) := hidMk hme
  have HT := hidMk hT
  have HLI := hidMk hlim
  have HN := hidMk hn
  have HB := hidMk hB
  have HP1 := hidMk hp1
  have HP2 := hidMk hp2
  clear hj hi h7 h76 hok hme hT hlim hn hB hp1 hp2
  gi_wp2_with fail
  have q : Below X.heap.size X (X.alloc (.cells #[.int .i64 J.p1, .int .i64 J.p2, .int .i64 J.t1, .int .i64 J.t2, .int .i64 J.r1, .int .i64 J.r2] 25)) := (Below.refl _ _).alloc (Nat.le_refl _) _
  exact gr1 HI.out (Bk.new _ _ _) (Stp.below q) (fun d h => h.kept (grown_of_below q none) (by simp)) (HI.out.val.below q HI.out.val.lt) (Nat.le_refl _) H76.out H7.out HOK.out HME.out HT.out HLI.out HN.out HB.out HP1.out HP2.out
end Go.Proofs.Ytbebofmpimfbgaa
/- The loop over the readings in Guided. -/
namespace Go.Proofs.Ytbebofmpimfbgaa
set_option linter.all false
open Go.RowKit Go.Shelf
attribute [local go_sem] Oper.semAt_some
set_option maxHeartbeats 4000000 in
set_option maxRecDepth 1000000 in
theorem gd_rf {J : Jb} {sa : Option Addr} {sn sc : Nat} {w0 : World} {g1 g2 g3 g5 g6 Bw Bf Bj Bb bm : Nat} {Bp Bm : Nat} {w : World} {Q : Exit → Act → World → Prop} {u0 u4 u7 u8 u9 u10 u11 u12 u13 u14 u15 u16 u17 u18 u19 u20 u22 u23 u24 u25 u26 u27 u28 u29 u30 u31 u32 u33 u34 u35 u36 : Value}
    (hI : GI J sa sn sc w0 g1 g2 g3 g5 g6 Bw Bf Bj Bb bm [] w) (hp : Bk w Bp 23 #[.int .i64 J.p1, .int .i64 J.p2]) (hm : Bk w Bm 3 #[.int .i64 J.me]) (hok : J.Ok) (hme : 0 ≤ J.me ∧ J.me ≤ 6) (hn : GN w0.heap.size g1 g2 g3 g5 g6 Bw Bf Bj Bb bm) (hp1 : Bp ≠ bm ∧ Bp ≠ g6) (hp2 : Bm ≠ bm ∧ Bm ≠ g6)
    (hdone : ∀ (D : Nat) (w' : World), w.heap.size ≤ D → GI J sa sn sc w0 g1 g2 g3 g5 g6 Bw Bf Bj Bb bm (readsL J.p1 J.p2 J.me) w' → w'.heap[D]? = some (.deferred (some [])) → Q .normal ⟨#[u0, (.pointer (some ⟨g1, 0, none⟩)), (.pointer (some ⟨g2, 0, none⟩)), (.pointer (some ⟨g3, 0, none⟩)), u4, (.pointer (some ⟨g5, 0, none⟩)), (.pointer (some ⟨g6, 0, none⟩)), u7, u8, u9, u10, u11, u12, u13, u14, u15, u16, u17, u18, u19, u20, (.func (.func 83) #[] #[.pointer (some ⟨Bp, 0, none⟩), .pointer (some ⟨Bm, 0, none⟩)]), u22, u23, u24, u25, u26, u27, u28, u29, u30, u31, u32, u33, u34, u35, u36], [{ target := .collected D, args := #[] }]⟩ w')
    (hstop : ∀ (D : Nat) (w' : World), w.heap.size ≤ D → guideI J = 5 → GX J w0 g2 g3 .ret (readsL J.p1 J.p2 J.me) w' → w'.heap[D]? = some (.deferred (some [])) → Q .ret ⟨#[u0, (.pointer (some ⟨g1, 0, none⟩)), (.pointer (some ⟨g2, 0, none⟩)), (.pointer (some ⟨g3, 0, none⟩)), u4, (.pointer (some ⟨g5, 0, none⟩)), (.pointer (some ⟨g6, 0, none⟩)), u7, u8, u9, u10, u11, u12, u13, u14, u15, u16, u17, u18, u19, u20, (.func (.func 83) #[] #[.pointer (some ⟨Bp, 0, none⟩), .pointer (some ⟨Bm, 0, none⟩)]), u22, u23, u24, u25, u26, u27, u28, u29, u30, u31, u32, u33, u34, u35, u36], [{ target := .collected D, args := #[] }]⟩ w') : Code.wpIn Fence.wide 3 Try.prog (.rangeFunc (.tmp 21) #[22] gfa gfb) Q ⟨#[u0, (.pointer (some ⟨g1, 0, none⟩)), (.pointer (some ⟨g2, 0, none⟩)), (.pointer (some ⟨g3, 0, none⟩)), u4, (.pointer (some ⟨g5, 0, none⟩)), (.pointer (some ⟨g6, 0, none⟩)), u7, u8, u9, u10, u11, u12, u13, u14, u15, u16, u17, u18, u19, u20, (.func (.func 83) #[] #[.pointer (some ⟨Bp, 0, none⟩), .pointer (some ⟨Bm, 0, none⟩)]), u22, u23, u24, u25, u26, u27, u28, u29, u30, u31, u32, u33, u34, u35, u36], []⟩ w := by
  have hok0 := hok
  obtain ⟨hinn, h12, -, -, -, -, -, -, -⟩ := hok0
  have i1 := hinn.p1
  have i2 := hinn.p2
  have hlr := reads_len (a := J.p1) (b := J.p2) (m := J.me) (by omega)
  have l6 := hI.val.lt
  have lb := hI.memo.choose_spec.2.lt
  have hn0 := hn
  unfold GN at hn0
  have hzW : w0.heap.size ≤ w.heap.size := hI.gs.ns.b0.size
  refine wpIn_rangeFunc_ownH (α := R2) rfl (by decide) (gf := 83) (lb := #[.pointer (some ⟨Bp, 0, none⟩), .pointer (some ⟨Bm, 0, none⟩)]) rfl trivial (enters_of Try.func83 (by kernel_rfl) rfl)
    (readings_clip 2 Bp Bm J.p1 J.p2 J.me (by omega) w hp hm) (fun h k => ⟨k.1.trans h.1, k.2.trans h.2⟩) (fun W' l o o' hl _ _ _ => ⟨World.putObj_heap_other (by have := hp.lt; omega), World.putObj_heap_other (by have := hm.lt; omega)⟩) (Below.refl _ _) (fun _ => rfl)
    (fun (pre : List R2) (X : World) => GI J sa sn sc w0 g1 g2 g3 g5 g6 Bw Bf Bj Bb bm (pre.map (clipR J.p1 J.p2 J.me)) X ∧ w.heap.size ≤ X.heap.size)
    (fun (cd : Code) (pre : List R2) (X : World) => GX J w0 g2 g3 cd (pre.map (clipR J.p1 J.p2 J.me)) X)
    (OwnFrom.and (GI.own hzW lb _) (fun _ _ _ _ h hg _ => Nat.le_trans h hg.size)) (fun cd => GX.own hzW cd _) ⟨hI, Nat.le_refl _⟩
    (fun x a' X => ∃ g7, Bk X g7 23 #[.int .i64 (clipR J.p1 J.p2 J.me x).1, .int .i64 (clipR J.p1 J.p2 J.me x).2] ∧ g7 ≠ g6 ∧ a' = ⟨#[u0, (.pointer (some ⟨g1, 0, none⟩)), (.pointer (some ⟨g2, 0, none⟩)), (.pointer (some ⟨g3, 0, none⟩)), u4, (.pointer (some ⟨g5, 0, none⟩)), (.pointer (some ⟨g6, 0, none⟩)), (.pointer (some ⟨g7, 0, none⟩)), u8, u9, u10, u11, u12, u13, u14, u15, u16, u17, u18, u19, u20, (.func (.func 83) #[] #[.pointer (some ⟨Bp, 0, none⟩), .pointer (some ⟨Bm, 0, none⟩)]), (.agg #[.int .i64 (clipR J.p1 J.p2 J.me x).1, .int .i64 (clipR J.p1 J.p2 J.me x).2]), u23, u24, u25, u26, u27, u28, u29, u30, u31, u32, u33, u34, u35, u36], []⟩)
    (fun x a' _ X Y row hs hg hr => by obtain ⟨g7, e1, e3, e2⟩ := hs; exact ⟨g7, e1.grown hg (row_ne e1 hr), e3, e2⟩)
    ?assign ?body ?done ?stop
  case assign =>
    rintro l pre x X K ⟨hi, hsz⟩ hK
    have hpl := hp.lt
    have hml := hm.lt
    rw [gfa_eq]
    gi_wp2_with fail
    exact hK _ _ ⟨by simp, fun i o _ ho _ => (Below.heap_alloc _ _ i (Array.getElem?_eq_some_iff.1 ho).1).trans ho⟩ ⟨Below.heap_alloc _ _ _ (by omega), Below.heap_alloc _ _ _ (by omega)⟩ ⟨GI.own hzW lb (clipR J.p1 J.p2 J.me) pre X _ none hi (World.grownBy_alloc _ _ _) (by simp), by simp; omega⟩ ⟨X.heap.size, Bk.new _ _ _, by omega, rfl⟩
  case body =>
    rintro l pre x a' X hl - ⟨hi, hsz⟩ ⟨g7, h7, h76, rfl⟩ hlt
    have hpl := hp.lt
    have hml := hm.lt
    have hcl := clip_in (a := J.p1) (b := J.p2) h12 hme.1 x
    have hle : (pre.map (clipR J.p1 J.p2 J.me)).length + 1 ≤ 1000 := by rw [List.length_map]; omega
    have hmul : ((pre.map (clipR J.p1 J.p2 J.me)).length + 1) * cost 4 ≤ 1000 * cost 4 := Nat.mul_le_mul_right _ hle
    have hlim : ((pre.map (clipR J.p1 J.p2 J.me)).length + 1) * cost 4 ≤ 1000000000000000 := Nat.le_trans hmul (by decide)
    have hT : TgIn 4 { J.tg with p1 := (clipR J.p1 J.p2 J.me x).1, p2 := (clipR J.p1 J.p2 J.me x).2 } := by
      have h0 := hinn.tg
      refine ⟨?_, hcl.2.1⟩
      simp only [Tg.In, Jb.tg] at h0 ⊢
      omega
    rw [gfb_eq]
    refine wpIn_block ?_
    refine wpIn_mono (gr0 (x := (clipR J.p1 J.p2 J.me x)) (pre := pre.map (clipR J.p1 J.p2 J.me)) (B := w.heap.size) (Bp := Bp) (Bm := Bm) hi h76 h7 hok hme hT hlim hn ⟨l6, hsz⟩ ⟨by omega, hp1⟩ ⟨by omega, hp2⟩) ?_
    intro e a3 W3 h
    have em : (pre ++ [x]).map (clipR J.p1 J.p2 J.me) = pre.map (clipR J.p1 J.p2 J.me) ++ [(clipR J.p1 J.p2 J.me x)] := by simp
    cases e with
    | normal =>
      simp only [Exit.inBlock, ownPostG] at h ⊢
      rw [em]
      exact ⟨h.1, h.2.1, h.2.2, Nat.le_trans hsz h.1.size⟩
    | ret =>
      simp only [Exit.inBlock, ownPostG] at h ⊢
      rw [em]
      exact h
    | exit id =>
      simp only [ownPostG] at h
      exact absurd h.2.out (by simp)
    | goto t =>
      simp only [ownPostG] at h
      exact absurd h.2.out (by simp)
    | _ => exact h
  case done =>
    rintro D xs X hD rfl ⟨hi, -⟩ hd
    refine hdone D X hD ?_ hd
    rw [clip_map fun x h => h] at hi
    exact hi
  case stop =>
    rintro D cd pre X hD hpre hi hd
    have hc := hi.out
    subst hc
    have hmm : ∀ y ∈ pre, y ∈ readsL J.p1 J.p2 J.me := fun y hy => by
      obtain ⟨q, hq⟩ := hpre
      rw [← hq]
      exact List.mem_append_left _ hy
    rw [clip_map hmm] at hi
    have hw := gv_pre J hpre
    have hmr := hi.more
    have ht := gv_top J (readsL J.p1 J.p2 J.me)
    have h5 : guideI J = 5 := by rw [← gv_all]; omega
    have hst := hstop D X hD h5 ⟨rfl, by rw [gv_all]; exact h5, hi.b0, hi.r2, hi.r3⟩ hd
    gi_wp2_with fail
    exact hst
end Go.Proofs.Ytbebofmpimfbgaa
/- Guided, on any job. -/
namespace Go.Proofs.Ytbebofmpimfbgaa
set_option linter.all false
open Go.RowKit Go.Shelf
def QGD (J : Jb) (w0 : World) : Exit → Act → World → Prop := bodyPostM Fence.wide 3 Try.prog Try.f15 (fun e w' => e = .returned (.tuple #[.int .i64 (guidedI J).1, .int .i64 (guidedI J).2]) ∧ Below w0.heap.size w0 w')
theorem gd_ends {J : Jb} {w0 w : World} {g2 g3 D : Nat} {tmps : Array Value} {a b : Int} (hB : Below w0.heap.size w0 w) (hD : w0.heap.size ≤ D) (hd : w.heap[D]? = some (.deferred (some []))) (h2 : Bk w g2 3 #[.int .i64 a]) (h3 : Bk w g3 39 #[.int .i64 b])
    (t2 : tmps.getD 2 undef = .pointer (some ⟨g2, 0, none⟩)) (t3 : tmps.getD 3 undef = .pointer (some ⟨g3, 0, none⟩)) (he : guidedI J = (a, b)) : LeavesInM Fence.wide 3 Try.prog Try.f15 tmps (fun e w' => e = .returned (.tuple #[.int .i64 (guidedI J).1, .int .i64 (guidedI J).2]) ∧ Below w0.heap.size w0 w') [{ target := .collected D, args := #[] }] .returning w := by
  refine leaves_marks (lo := w0.heap.size) (hi := w.heap.size) _ _ ⟨fun d hm => ?_, List.pairwise_singleton _ _⟩ fun w' hs => ?_
  · rw [List.mem_singleton] at hm
    subst hm
    exact ⟨D, rfl, hD, (Array.getElem?_eq_some_iff.1 hd).1, hd⟩
  · have k2 : Bk w' g2 3 #[.int .i64 a] := (hs.same _ (.inr (by intro x; rw [show w.heap[g2]? = _ from h2]; simp))).trans h2
    have k3 : Bk w' g3 39 #[.int .i64 b] := (hs.same _ (.inr (by intro x; rw [show w.heap[g3]? = _ from h3]; simp))).trans h3
    refine ⟨_, results_int2 Try.results15 _ _ _ _ _ _ _ _ t2 t3 k2 k3 Try.underlying3 Try.underlying39, by rw [he], ?_⟩
    exact hB.trans ⟨hs.os, hs.tape, hs.output, by rw [hs.size]; exact Nat.le_refl _, fun i hi => hs.same i (.inl hi)⟩
set_option maxHeartbeats 4000000 in
set_option maxRecDepth 1000000 in
theorem gdpart5 {J : Jb} {sa : Option Addr} {sn sc : Nat} {w0 : World} {g1 g2 g3 g5 g6 Bw Bf Bj Bb bm : Nat} {w : World} {D : Nat} {u0 u4 u7 u8 u9 u10 u11 u12 u13 u14 u15 u16 u17 u18 u19 u20 u21 u22 u23 u24 u25 u26 u27 u28 u29 u30 u31 u32 u33 u34 u35 u36 : Value} (hi : GI J sa sn sc w0 g1 g2 g3 g5 g6 Bw Bf Bj Bb bm (readsL J.p1 J.p2 J.me) w) (hn : GN w0.heap.size g1 g2 g3 g5 g6 Bw Bf Bj Bb bm) (hc : J.check = 0) (hD : w0.heap.size ≤ D) (hdd : w.heap[D]? = some (.deferred (some []))) : Code.wp Try.prog gdrest5 (QGD J w0) ⟨#[u0, (.pointer (some ⟨g1, 0, none⟩)), (.pointer (some ⟨g2, 0, none⟩)), (.pointer (some ⟨g3, 0, none⟩)), u4, (.pointer (some ⟨g5, 0, none⟩)), (.pointer (some ⟨g6, 0, none⟩)), u7, u8, u9, u10, u11, u12, u13, u14, u15, u16, u17, u18, u19, u20, u21, u22, u23, u24, u25, u26, u27, u28, u29, u30, u31, u32, u33, u34, u35, u36], [{ target := .collected D, args := #[] }]⟩ w := by
  rw [gdrest5_eq]
  have z6 := hi.val.at_ 0 (.int .i64 (guideI J)) (by rw [gv_all]; rfl)
  have hl : ¬ guideI J = 5 := by rw [← gv_all]; exact hi.less
  have e1 : guidedI J = (guideI J, 0) := by unfold guidedI; rw [if_pos hc, if_neg hl]
  have c2 := hi.gs.r2.at_ 0 _ rfl
  have c3 := hi.gs.r3.at_ 0 _ rfl
  have f2 := hi.gs.r2.free 0
  have f3 := hi.gs.r3.free 0
  have hn0 := hn
  unfold GN at hn0
  have e23 : g2 ≠ g3 := by omega
  have e32 : g3 ≠ g2 := by omega
  have e62 : g6 ≠ g2 := by omega
  have HI := hidMk hi
  have HE := hidMk e1
  have HD := hidMk hD
  have HDD := hidMk hdd
  have HN := hidMk hn0
  clear hi e1 hn hn0 hl hc hD hdd
  go_wp2_with fail
  unfold QGD
  have hn0 := HN.out
  have q : Below w0.heap.size w ((w.setCell ⟨g2, 0, none⟩ (.int .i64 (guideI J))).setCell ⟨g3, 0, none⟩ (.int .i64 0)) := ((Below.refl _ _).setCell (by show w0.heap.size ≤ g2; omega) _).setCell (by show w0.heap.size ≤ g3; omega) _
  have hdg2 : D ≠ g2 := by rintro rfl; have a := HDD.out; rw [show w.heap[D]? = _ from HI.out.gs.r2] at a; cases a
  have hdg3 : D ≠ g3 := by rintro rfl; have a := HDD.out; rw [show w.heap[D]? = _ from HI.out.gs.r3] at a; cases a
  exact gd_ends (HI.out.gs.ns.b0.trans q) HD.out ((Below.heap_setCell _ ⟨g3, 0, none⟩ _ D hdg3).trans ((Below.heap_setCell _ ⟨g2, 0, none⟩ _ D hdg2).trans HDD.out)) ((HI.out.gs.r2.put1 _).other (by show g2 ≠ g3; omega) _) ((HI.out.gs.r3.other (p := ⟨g2, 0, none⟩) (by show g3 ≠ g2; omega) _).put1 _) rfl rfl HE.out
set_option maxHeartbeats 4000000 in
set_option maxRecDepth 1000000 in
theorem gdpart4 {J : Jb} {sa : Option Addr} {sn sc : Nat} {w0 : World} {g1 g2 g3 g5 g6 Bw Bf Bj Bb bm : Nat} {w : World} {u0 u4 u7 u8 u9 u10 u11 u12 u13 u14 u15 u16 u17 u18 u19 u20 u21 u22 u23 u24 u25 u26 u27 u28 u29 u30 u31 u32 u33 u34 u35 u36 : Value} (hi : GI J sa sn sc w0 g1 g2 g3 g5 g6 Bw Bf Bj Bb bm [] w) (hn : GN w0.heap.size g1 g2 g3 g5 g6 Bw Bf Bj Bb bm) (hc : J.check = 0) : Code.wp Try.prog gdrest4 (QGD J w0) ⟨#[u0, (.pointer (some ⟨g1, 0, none⟩)), (.pointer (some ⟨g2, 0, none⟩)), (.pointer (some ⟨g3, 0, none⟩)), u4, (.pointer (some ⟨g5, 0, none⟩)), (.pointer (some ⟨g6, 0, none⟩)), u7, u8, u9, u10, u11, u12, u13, u14, u15, u16, u17, u18, u19, u20, u21, u22, u23, u24, u25, u26, u27, u28, u29, u30, u31, u32, u33, u34, u35, u36], []⟩ w := by
  rw [gdrest4_cut]
  have hj := hi.gs.ns.job
  have j0 := hj.at_ 0 (.int .i64 J.p1) rfl
  have j1 := hj.at_ 1 (.int .i64 J.p2) rfl
  have j17 := hj.at_ 17 (.int .i64 J.me) rfl
  have HI := hidMk hi
  have HN := hidMk hn
  have HC := hidMk hc
  clear hj hi hn hc
  go_wp2_with (go_at_call 54; refine (readings_any J.p1 J.p2 J.me _).mono ?_; rintro e w2 ⟨rfl, rfl⟩)
  have q1 : Below w.heap.size w ((w.alloc (.cells #[.int .i64 J.p1, .int .i64 J.p2] 23)).alloc (.cells #[.int .i64 J.me] 3)) := ((Below.refl _ _).alloc (Nat.le_refl _) _).alloc (by simp) _
  have bp : Bk ((w.alloc (.cells #[.int .i64 J.p1, .int .i64 J.p2] 23)).alloc (.cells #[.int .i64 J.me] 3)) w.heap.size 23 #[.int .i64 J.p1, .int .i64 J.p2] := (Bk.new _ _ _).alloc _
  have bq : Bk ((w.alloc (.cells #[.int .i64 J.p1, .int .i64 J.p2] 23)).alloc (.cells #[.int .i64 J.me] 3)) (w.heap.size + 1) 3 #[.int .i64 J.me] := Bk.newAt _ _ _ _ (by simp)
  generalize ((w.alloc (.cells #[.int .i64 J.p1, .int .i64 J.p2] 23)).alloc (.cells #[.int .i64 J.me] 3)) = w2 at q1 bp bq ⊢
  have l6 := HI.out.val.lt
  have lb := HI.out.memo.choose_spec.2.lt
  have hi2 : GI J sa sn sc w0 g1 g2 g3 g5 g6 Bw Bf Bj Bb bm [] w2 := ⟨HI.out.gs.own HI.out.gs.ns.b0.size (grown_of_below q1 none) (by simp), by obtain ⟨d, hd, hm⟩ := HI.out.memo; exact ⟨d, hd, hm.kept (grown_of_below q1 none) (by simp)⟩, HI.out.val.below q1 l6, (by rw [show gv J [] = 0 from rfl]; decide)⟩
  have HI2 := hidMk hi2
  have HQ1 := hidMk q1
  clear hi2 q1
  refine (wpIn_wide (n := 3)).1 (gd_rf HI2.out bp bq (check_ok HC.out) (check_me HC.out) HN.out (by omega) (by omega) ?_ ?_)
  · intro D w' hD hg hdd
    have HG := hidMk hg
    have HD := hidMk hD
    have HDD := hidMk hdd
    clear hg hD hdd
    go_wp2_with fail
    exact gdpart5 HG.out HN.out HC.out (Nat.le_trans HI2.out.gs.ns.b0.size HD.out) HDD.out
  · intro D w' hD h5 hg hdd
    have HG := hidMk hg
    have HD := hidMk hD
    have HDD := hidMk hdd
    have H5 := hidMk h5
    clear hg hD hdd h5
    go_wp2_with fail
    unfold QGD
    exact gd_ends HG.out.b0 (Nat.le_trans HI2.out.gs.ns.b0.size HD.out) HDD.out HG.out.r2 HG.out.r3 rfl rfl (by unfold guidedI; rw [if_pos HC.out, if_pos H5.out])
set_option maxHeartbeats 4000000 in
set_option maxRecDepth 1000000 in
theorem gdpart3 {J : Jb} {sa : Option Addr} {sn sc : Nat} {w0 : World} {g1 g2 g3 g5 Bw Bf Bj Bb bm : Nat} {w : World} {u0 u4 u6 u7 u8 u9 u10 u11 u12 u13 u14 u15 u16 u17 u18 u19 u20 u21 u22 u23 u24 u25 u26 u27 u28 u29 u30 u31 u32 u33 u34 u35 u36 : Value} (hs : GS J sa sn sc w0 g1 g2 g3 g5 Bw Bf Bj Bb bm w) (hM : Memo J w bm 0) (hn : w0.heap.size ≤ g1 ∧ g1 < g2 ∧ g2 < g3 ∧ g3 < g5 ∧ Bw < g5 ∧ Bf < g5 ∧ Bj < g5 ∧ Bb < g5 ∧ bm < g5 ∧ w0.heap.size ≤ bm) (hc : J.check = 0) : Code.wp Try.prog gdrest3 (QGD J w0) ⟨#[u0, (.pointer (some ⟨g1, 0, none⟩)), (.pointer (some ⟨g2, 0, none⟩)), (.pointer (some ⟨g3, 0, none⟩)), u4, (.pointer (some ⟨g5, 0, none⟩)), u6, u7, u8, u9, u10, u11, u12, u13, u14, u15, u16, u17, u18, u19, u20, u21, u22, u23, u24, u25, u26, u27, u28, u29, u30, u31, u32, u33, u34, u35, u36], []⟩ w := by
  rw [gdrest3_eq]
  have HS := hidMk hs
  have HM := hidMk hM
  have HNN := hidMk hn
  have HC := hidMk hc
  clear hs hM hn hc
  go_wp2_with fail
  have q1 : Below w.heap.size w (w.alloc (.cells #[.int .i64 0] 3)) := (Below.refl _ _).alloc (Nat.le_refl _) _
  have hn0 := HNN.out
  refine gdpart4 (g6 := w.heap.size) ⟨HS.out.own HS.out.ns.b0.size (grown_of_below q1 none) (by simp), ⟨0, by simp, HM.out.kept (grown_of_below q1 none) (by simp)⟩, Bk.new _ _ _, (by rw [show gv J [] = 0 from rfl]; decide)⟩ ?_ HC.out
  have l5 := HS.out.fv.lt
  unfold GN
  omega
set_option maxHeartbeats 4000000 in
set_option maxRecDepth 1000000 in
theorem gdpart2 {J : Jb} {sa : Option Addr} {sn sc : Nat} {w0 : World} {g1 g2 g3 : Nat} {w : World} {u0 u4 u5 u6 u7 u8 u9 u10 u11 u12 u13 u14 u15 u16 u17 u18 u19 u20 u21 u22 u23 u24 u25 u26 u27 u28 u29 u30 u31 u32 u33 u34 u35 u36 : Value} (hs : NS J sa sn sc w0 g1 w) (h2 : Bk w g2 3 #[.int .i64 0]) (h3 : Bk w g3 39 #[.int .i64 0]) (hn : w0.heap.size ≤ g1 ∧ g1 < g2 ∧ g2 < g3) (hsn : sn = J.sh.length) (hc : J.check = 0) : Code.wp Try.prog gdrest2 (QGD J w0) ⟨#[u0, (.pointer (some ⟨g1, 0, none⟩)), (.pointer (some ⟨g2, 0, none⟩)), (.pointer (some ⟨g3, 0, none⟩)), u4, u5, u6, u7, u8, u9, u10, u11, u12, u13, u14, u15, u16, u17, u18, u19, u20, u21, u22, u23, u24, u25, u26, u27, u28, u29, u30, u31, u32, u33, u34, u35, u36], []⟩ w := by
  rw [gdrest2_eq]
  have HS := hidMk hs
  have HR2 := hidMk h2
  have HR3 := hidMk h3
  have HNN := hidMk hn
  have HSN := hidMk hsn
  have HC := hidMk hc
  clear hs h2 h3 hn hc hsn
  go_wp2_with (refine wpList_load_row rfl 30 _ rfl g1 rfl _ (jobC J (.slice sa sn sc)) _ _ HS.out.job Try.underlying30 rfl szJob ?_)
  refine (player_any J sa sn sc _ (check_ok HC.out).inn HSN.out HS.out.rg).mono ?_
  rintro e wp ⟨Bw, Bf, Bj, Bb, bm, rfl, hE, hM, hb, hbm⟩
  have HE := hidMk hE
  have HM := hidMk hM
  have HB := hidMk hb
  have HBM := hidMk hbm
  clear hE hM hb hbm
  have hst : (store ⟨wp.heap.size, 0, none⟩ (.func (.func 81) #[] #[.pointer (some ⟨Bw, 0, none⟩), .pointer (some ⟨Bf, 0, none⟩), .pointer (some ⟨Bj, 0, none⟩), .pointer (some ⟨Bb, 0, none⟩)])).run Try.prog (wp.alloc (.cells #[.nilFunc] 85)) = stored Try.prog (wp.alloc (.cells #[.nilFunc] 85)) ⟨wp.heap.size, 0, none⟩ (.func (.func 81) #[] #[.pointer (some ⟨Bw, 0, none⟩), .pointer (some ⟨Bf, 0, none⟩), .pointer (some ⟨Bj, 0, none⟩), .pointer (some ⟨Bb, 0, none⟩)]) .plain := run_store _ _ _ _ _ rfl
  go_wp2_with fail
  have q1 : Below wp.heap.size wp (wp.alloc (.cells #[(.func (.func 81) #[] #[.pointer (some ⟨Bw, 0, none⟩), .pointer (some ⟨Bf, 0, none⟩), .pointer (some ⟨Bj, 0, none⟩), .pointer (some ⟨Bb, 0, none⟩)])] 85)) := (Below.refl _ _).alloc (Nat.le_refl _) _
  have ns := (HS.out.next HB.out).next q1
  have l1 := HE.out.win.lt
  have l2 := HE.out.found.lt
  have l3 := HE.out.job.lt
  have l4 := HE.out.best.lt
  have l5 := HM.out.lt
  have hz := HB.out.size
  have hz0 := HS.out.b0.size
  have hbm := HBM.out
  have hnn := HNN.out
  have lr3 := HR3.out.lt
  have lr2 := HR2.out.lt
  exact gdpart3 (g5 := wp.heap.size) ⟨ns, HE.out.below q1, (HR2.out.below HB.out HR2.out.lt).below q1 (by omega), (HR3.out.below HB.out HR3.out.lt).below q1 (by omega), Bk.new _ _ _⟩ (HM.out.kept (grown_of_below q1 none) (by simp)) (by omega) HC.out
set_option maxHeartbeats 4000000 in
set_option maxRecDepth 1000000 in
theorem gdpart1 {J : Jb} {sa : Option Addr} {sn sc : Nat} {w0 : World} {g1 g2 g3 : Nat} {w : World} {u0 u4 u5 u6 u7 u8 u9 u10 u11 u12 u13 u14 u15 u16 u17 u18 u19 u20 u21 u22 u23 u24 u25 u26 u27 u28 u29 u30 u31 u32 u33 u34 u35 u36 : Value} (hs : NS J sa sn sc w0 g1 w) (h2 : Bk w g2 3 #[.int .i64 0]) (h3 : Bk w g3 39 #[.int .i64 0]) (hn : w0.heap.size ≤ g1 ∧ g1 < g2 ∧ g2 < g3) (hsn : sn = J.sh.length) (hm : sn ≤ 9223372036854775807) : Code.wp Try.prog gdrest1 (QGD J w0) ⟨#[u0, (.pointer (some ⟨g1, 0, none⟩)), (.pointer (some ⟨g2, 0, none⟩)), (.pointer (some ⟨g3, 0, none⟩)), u4, u5, u6, u7, u8, u9, u10, u11, u12, u13, u14, u15, u16, u17, u18, u19, u20, u21, u22, u23, u24, u25, u26, u27, u28, u29, u30, u31, u32, u33, u34, u35, u36], []⟩ w := by
  rw [gdrest1_eq]
  have HS := hidMk hs
  have HR2 := hidMk h2
  have HR3 := hidMk h3
  have HNN := hidMk hn
  have HSN := hidMk hsn
  clear hs h2 h3 hn hsn
  go_wp2_with (refine wpList_load_row rfl 30 _ rfl g1 rfl _ (jobC J (.slice sa sn sc)) _ _ HS.out.job Try.underlying30 rfl szJob ?_)
  refine (check_any J sa sn sc _ HSN.out hm HS.out.rg).mono ?_
  rintro e w1 ⟨rfl, hb1⟩
  have HS1 := hidMk (HS.out.next hb1)
  have k2 := HR2.out.below hb1 HR2.out.lt
  have k3 := HR3.out.below hb1 HR3.out.lt
  have HK2 := hidMk k2
  have HK3 := hidMk k3
  by_cases hc : J.check = 0
  · have hb0 : (J.check != 0) = false := by simp [hc]
    have HC := hidMk hc
    clear hc k2 k3 hb1
    go_wp2_with fail
    exact gdpart2 HS1.out HK2.out HK3.out HNN.out HSN.out HC.out
  · have hb0 : (J.check != 0) = true := by simpa using hc
    have e1 : guidedI J = (0, J.check) := by unfold guidedI; rw [if_neg hc]
    have HE := hidMk e1
    have f2 := k2.free 0
    have f3 := k3.free 0
    have hnn := HNN.out
    have hz0 := HS1.out.b0.size
    have e23 : g2 ≠ g3 := by omega
    have e32 : g3 ≠ g2 := by omega
    have c2 := k2.at_ 0 _ rfl
    have c3 := k3.at_ 0 _ rfl
    clear hc e1 k2 k3 hb1
    go_wp2_with fail
    unfold QGD
    have q : Below w0.heap.size w1 ((w1.setCell ⟨g2, 0, none⟩ (.int .i64 0)).setCell ⟨g3, 0, none⟩ (.int .i64 J.check)) := ((Below.refl _ _).setCell (by show w0.heap.size ≤ g2; omega) _).setCell (by show w0.heap.size ≤ g3; omega) _
    refine ⟨_, results_int2 Try.results15 _ _ _ _ _ _ _ _ rfl rfl ((HK2.out.put1 _).other (by show g2 ≠ g3; omega) _) ((HK3.out.other (p := ⟨g2, 0, none⟩) (by show g3 ≠ g2; omega) _).put1 _) Try.underlying3 Try.underlying39, by rw [HE.out], HS1.out.b0.trans q⟩
set_option maxHeartbeats 4000000 in
set_option maxRecDepth 1000000 in
/-- **Guided**, on any job. -/
theorem guided_any (J : Jb) (sa : Option Addr) (sn sc : Nat) (w : World) (hn : sn = J.sh.length) (hm : sn ≤ 9223372036854775807) (h : Rg w w.heap.size sa J.sh) :
    Calls Try.prog 15 #[.agg (jobC J (.slice sa sn sc))] w fun e w' => e = .returned (.tuple #[.int .i64 (guidedI J).1, .int .i64 (guidedI J).2]) ∧ Below w.heap.size w w' := by
  have q0 : Below w.heap.size w (((w.alloc (.cells (jobC J (.slice sa sn sc)) 30)).alloc (.cells #[.int .i64 0] 3)).alloc (.cells #[.int .i64 0] 39)) := (((Below.refl _ _).alloc (Nat.le_refl _) _).alloc (by simp) _).alloc (by simp; omega) _
  have hs : NS J sa sn sc w w.heap.size (((w.alloc (.cells (jobC J (.slice sa sn sc)) 30)).alloc (.cells #[.int .i64 0] 3)).alloc (.cells #[.int .i64 0] 39)) := ⟨q0, ((Bk.new _ _ _).alloc _).alloc _, h.below q0⟩
  have HS := hidMk hs
  have HN := hidMk hn
  clear q0 hs h hn
  refine (callsIn_wide (n := 3)).1 (callsIn_of_wp_marks Try.func15 rfl trivial ?_ rfl)
  simp only [Try.ntmps15, List.size_toArray, List.length_cons, List.length_nil, Nat.reduceAdd, Nat.reduceSub, Array.replicate_succ, Array.replicate_zero, List.push_toArray, List.append_toArray, List.nil_append, List.cons_append]
  refine wpIn_wide.2 ?_
  show Code.wp Try.prog gdbody (QGD J w) _ _
  rw [gdbody_eq]
  go_wp2_with fail
  exact gdpart1 HS.out ((Bk.newAt _ _ _ _ (by simp)).alloc _) (Bk.newAt _ _ _ _ (by simp)) (by omega) HN.out hm
end Go.Proofs.Ytbebofmpimfbgaa
/- What Shortest hands back. -/
namespace Go.Proofs.Ytbebofmpimfbgaa
set_option linter.all false
open Go.RowKit
def plansL : Nat → List (List Int)
  | 0 => [[]]
  | n + 1 => (plansL n).map (1 :: ·) ++ (plansL n).map (2 :: ·)
theorem plansL_each : ∀ n, ∀ l ∈ plansL n, l.length = n
  | 0, l, h => by rw [List.mem_singleton.1 h]; rfl
  | n + 1, l, h => by
    rcases List.mem_append.1 h with h | h <;>
      (obtain ⟨l', h', rfl⟩ := List.mem_map.1 h; simp [plansL_each n l' h'])
theorem plans_12 : ∀ n, ∀ l ∈ plansL n, ∀ x ∈ l, x = 1 ∨ x = 2
  | 0, l, h, x, hx => by
    rw [List.mem_singleton.1 h] at hx
    cases hx
  | n + 1, l, h, x, hx => by
    rcases List.mem_append.1 h with h | h <;> obtain ⟨l', h', rfl⟩ := List.mem_map.1 h <;> rcases List.mem_cons.1 hx with rfl | hx
    · exact .inl rfl
    · exact plans_12 n l' h' x hx
    · exact .inr rfl
    · exact plans_12 n l' h' x hx
theorem plans_mem : ∀ (l : List Int), (∀ x ∈ l, x = 1 ∨ x = 2) → l ∈ plansL l.length
  | [], _ => List.mem_singleton.2 rfl
  | x :: l, h => by
    have hl := plans_mem l fun y hy => h y (List.mem_cons_of_mem _ hy)
    rcases h x List.mem_cons_self with rfl | rfl
    · exact List.mem_append_left _ (List.mem_map.2 ⟨l, hl, rfl⟩)
    · exact List.mem_append_right _ (List.mem_map.2 ⟨l, hl, rfl⟩)
/-- Whether a tongue is fine after strokes. -/
def fineS (J : Jb) (l : List Int) : Int := fineI J (afterS J J.tg l)
/-- The first list of strokes after which the tongue always is fine: fewer strokes first, then in lexicographic order. -/
def FirstS (J : Jb) (n i : Nat) (l : List Int) : Prop := n ≤ 6 ∧ (plansL n)[i]? = some l ∧ fineS J l = 1 ∧ (∀ n', n' < n → ∀ l' ∈ plansL n', fineS J l' ≠ 1) ∧ ∀ i', i' < i → ∀ l', (plansL n)[i']? = some l' → fineS J l' ≠ 1
def NoneS (J : Jb) : Prop := ∀ n, n ≤ 6 → ∀ l ∈ plansL n, fineS J l ≠ 1
def ShortQ (J : Jb) (w : World) (e : Ending) (w' : World) : Prop :=
  ((∃ n i l a c, FirstS J n i l ∧ e = .returned (.tuple #[.slice a n c, .int .i64 0]) ∧ Is w' w'.heap.size a l) ∨ (NoneS J ∧ e = .returned (.tuple #[.slice none 0 0, .int .i64 11]))) ∧ Below w.heap.size w w'
def ShortOK : Prop := ∀ (J : Jb) (a : Option Addr) (n c : Nat) (w : World), J.check = 0 → n = J.sh.length → n ≤ 9223372036854775807 → Rg w w.heap.size a J.sh → Calls Try.prog 44 #[.agg (jobC J (.slice a n c))] w (ShortQ J w)
def TunOK : Prop := ∀ w : World, Calls Try.prog 11 #[] w fun e w' => e = .returned (.bool true) ∧ Below w.heap.size w w'
/-- What is said of the strokes of Shortest, by their number alone: so many are the fewest, or none are enough. -/
def FewS (J : Jb) (sn : Nat) (ev : Int) : Prop := (ev = 0 ∧ sn ≤ 6 ∧ (∃ l, (∀ x ∈ l, x = 1 ∨ x = 2) ∧ l.length = sn ∧ fineS J l = 1) ∧ ∀ l : List Int, (∀ x ∈ l, x = 1 ∨ x = 2) → fineS J l = 1 → sn ≤ l.length) ∨
  (ev = 11 ∧ sn = 0 ∧ ∀ l : List Int, (∀ x ∈ l, x = 1 ∨ x = 2) → l.length ≤ 6 → fineS J l ≠ 1)
theorem few_of {J : Jb} {w w' : World} {e : Ending} (h : ShortQ J w e w') : (∃ sa sn sc ev, e = .returned (.tuple #[.slice sa sn sc, .int .i64 ev]) ∧ FewS J sn ev) ∧ Below w.heap.size w w' := by
  obtain ⟨h, hb⟩ := h
  refine ⟨?_, hb⟩
  rcases h with ⟨n, i, l, a, c, ⟨h6, hm, hf, hno, -⟩, rfl, -⟩ | ⟨hno, rfl⟩
  · have hml := List.mem_of_getElem? hm
    refine ⟨a, n, c, 0, rfl, .inl ⟨rfl, h6, ⟨l, plans_12 n l hml, plansL_each n l hml, hf⟩, fun l' h12 hf' => ?_⟩⟩
    by_cases hlt : l'.length < n
    · exact absurd hf' (hno _ hlt l' (plans_mem l' h12))
    · omega
  · exact ⟨none, 0, 0, 11, rfl, .inr ⟨rfl, rfl, fun l h12 h6 => hno _ h6 l (plans_mem l h12)⟩⟩
end Go.Proofs.Ytbebofmpimfbgaa
/- The game and strokes that are fixed beforehand: mathematics, without Go. -/
namespace Go.Proofs.Ytbebofmpimfbgaa
set_option linter.all false
/-! ### choosing -/
theorem choose_w {J : Jb} {f : Tg → Int} {t : Tg} {m : Int × Int} {s : Int} (h : spoilI J.le (strk J t s) = 2) : (choose J f t m s).2 ≤ worstOf f (strk J t s) (readsL (strk J t s).p1 (strk J t s).p2 J.me) := by
  unfold choose
  rw [if_neg (by rw [h]; simp)]
  split
  · assumption
  · exact Int.le_refl _
theorem choose_top {J : Jb} {f : Tg → Int} {t : Tg} {m : Int × Int} {s : Int} : (choose J f t m s).2 ≤ m.2 := by
  unfold choose
  split
  · exact Int.le_refl _
  · split
    · exact Int.le_refl _
    · rename_i h; show worstOf _ _ _ ≤ _; omega
theorem choose_one (J : Jb) (f : Tg → Int) (t : Tg) (m : Int × Int) (s : Int) : (choose J f t m s) = m ∨ (spoilI J.le (strk J t s) = 2 ∧ choose J f t m s = (s, worstOf f (strk J t s) (readsL (strk J t s).p1 (strk J t s).p2 J.me)) ∧ worstOf f (strk J t s) (readsL (strk J t s).p1 (strk J t s).p2 J.me) < m.2) := by
  unfold choose
  by_cases h : spoilI J.le (strk J t s) = 2
  · rw [if_neg (by rw [h]; simp)]
    split
    · exact .inl rfl
    · exact .inr ⟨h, rfl, by omega⟩
  · rw [if_pos h]; exact .inl rfl
theorem worst_le {f : Tg → Int} {t : Tg} {l : List R2} {b : Int} (h0 : 0 ≤ b) (h : ∀ r ∈ l, 1 + f { t with p1 := r.1, p2 := r.2 } ≤ b) : worstOf f t l ≤ b := by
  unfold worstOf
  have aux : ∀ (l : List R2) (a : Int), a ≤ b → (∀ r ∈ l, 1 + f { t with p1 := r.1, p2 := r.2 } ≤ b) → l.foldl (fun m r => mx m (1 + f { t with p1 := r.1, p2 := r.2 })) a ≤ b := by
    intro l
    induction l with
    | nil => intro a ha _; exact ha
    | cons r l ih =>
      intro a ha hh
      rw [List.foldl_cons]
      refine ih _ ?_ fun r' hr' => hh r' (List.mem_cons_of_mem _ hr')
      have := hh r List.mem_cons_self
      unfold mx; split <;> omega
  exact aux l 0 h0 h
theorem worst_ge {f : Tg → Int} {t : Tg} {l : List R2} {r : R2} (h : r ∈ l) : 1 + f { t with p1 := r.1, p2 := r.2 } ≤ worstOf f t l := by
  unfold worstOf
  have aux : ∀ (l : List R2) (a : Int), r ∈ l → 1 + f { t with p1 := r.1, p2 := r.2 } ≤ l.foldl (fun m r => mx m (1 + f { t with p1 := r.1, p2 := r.2 })) a := by
    intro l
    induction l with
    | nil => intro a h; cases h
    | cons x l ih =>
      intro a hh
      rw [List.foldl_cons]
      rcases List.mem_cons.1 hh with rfl | hh
      · refine Int.le_trans ?_ (fold_le _ l _)
        unfold mx; split <;> omega
      · exact ih _ hh
  exact aux l 0 h
theorem guide_le {J : Jb} {b : Int} (h0 : 0 ≤ b) (h : ∀ r ∈ readsL J.p1 J.p2 J.me, (bestM J 4 { J.tg with p1 := r.1, p2 := r.2 }).2 ≤ b) : guideI J ≤ b := by
  unfold guideI
  have aux : ∀ (l : List R2) (a : Int), a ≤ b → (∀ r ∈ l, (bestM J 4 { J.tg with p1 := r.1, p2 := r.2 }).2 ≤ b) → l.foldl (fun m r => mx m (bestM J 4 { J.tg with p1 := r.1, p2 := r.2 }).2) a ≤ b := by
    intro l
    induction l with
    | nil => intro a ha _; exact ha
    | cons r l ih =>
      intro a ha hh
      rw [List.foldl_cons]
      refine ih _ ?_ fun r' hr' => hh r' (List.mem_cons_of_mem _ hr')
      have := hh r List.mem_cons_self
      unfold mx; split <;> omega
  exact aux _ 0 h0 h
theorem guide_ge {J : Jb} {r : R2} (h : r ∈ readsL J.p1 J.p2 J.me) : (bestM J 4 { J.tg with p1 := r.1, p2 := r.2 }).2 ≤ guideI J := by
  unfold guideI
  have aux : ∀ (l : List R2) (a : Int), r ∈ l → (bestM J 4 { J.tg with p1 := r.1, p2 := r.2 }).2 ≤ l.foldl (fun m r => mx m (bestM J 4 { J.tg with p1 := r.1, p2 := r.2 }).2) a := by
    intro l
    induction l with
    | nil => intro a h; cases h
    | cons x l ih =>
      intro a hh
      rw [List.foldl_cons]
      rcases List.mem_cons.1 hh with rfl | hh
      · refine Int.le_trans ?_ (fold_le _ l _)
        unfold mx; split <;> omega
      · exact ih _ hh
  exact aux _ 0 h
theorem guide_nn (J : Jb) : 0 ≤ guideI J := fold_le _ _ _
theorem guide_top (J : Jb) : guideI J ≤ 5 := fold_top _ _ (fun r => (best_bound J 4 _).2) _ _ (by decide)
/-- In the window: nothing is needed. -/
theorem best_in {J : Jb} {k : Nat} {t : Tg} (h : (win J.wi J.sh).1 ≤ t.p1 ∧ t.p2 ≤ (win J.wi J.sh).2) : bestM J k t = (0, 0) := by
  cases k <;> (unfold bestM; rw [if_pos h])
theorem best_out {J : Jb} {k : Nat} {t : Tg} (h : ¬ ((win J.wi J.sh).1 ≤ t.p1 ∧ t.p2 ≤ (win J.wi J.sh).2)) : bestM J (k + 1) t = choose J (fun t => (bestM J k t).2) t (choose J (fun t => (bestM J k t).2) t (0, 5) 1) 2 := by
  conv => lhs; unfold bestM
  rw [if_neg h]
theorem pass_1 {wi : Int} {sh : List R2} {a b : Int} : passI wi sh a b = 1 ↔ (win wi sh).1 ≤ a ∧ b ≤ (win wi sh).2 := by
  unfold passI
  split
  · simp_all
  · split <;> simp_all
theorem spoil_2 {le : Int} {t : Tg} : spoilI le t = 2 ↔ (le ≤ t.t1 ∧ le ≤ t.r1 ∧ le ≤ t.t2 ∧ le ≤ t.r2) := by
  unfold spoilI
  split
  · constructor
    · intro h; cases h
    · intro h; omega
  · split
    · constructor
      · intro _; omega
      · intro _; rfl
    · constructor
      · intro h; cases h
      · intro h; omega
end Go.Proofs.Ytbebofmpimfbgaa
/- What a valid job is, in numbers, both ways. -/
namespace Go.Proofs.Ytbebofmpimfbgaa
set_option linter.all false
structure Jb.Full (J : Jb) : Prop where
  p : -60 ≤ J.p1 ∧ J.p1 ≤ J.p2 ∧ J.p2 ≤ 60
  t : 0 ≤ J.t1 ∧ J.t1 ≤ J.t2 ∧ J.t2 ≤ 100
  r : 0 ≤ J.r1 ∧ J.r1 ≤ J.r2 ∧ J.r2 ≤ 100
  u : 0 ≤ J.u1 ∧ J.u1 ≤ J.u2 ∧ J.u2 ≤ 12
  d : 0 ≤ J.d1 ∧ J.d1 ≤ J.d2 ∧ J.d2 ≤ 12
  x : 0 ≤ J.x1 ∧ J.x1 ≤ J.x2 ∧ J.x2 ≤ 12
  y : 0 ≤ J.y1 ∧ J.y1 ≤ J.y2 ∧ J.y2 ≤ 12
  le : 0 ≤ J.le ∧ J.le ≤ 100
  wi : 0 ≤ J.wi ∧ J.wi ≤ 60
  me : 0 ≤ J.me ∧ J.me ≤ 6
  len : J.sh.length ≤ 4
  sh : ∀ s ∈ J.sh, -60 ≤ s.1 ∧ s.1 ≤ s.2 ∧ s.2 ≤ 60
theorem rngE_mk {a b lo hi : Int} (h : lo ≤ a ∧ a ≤ b ∧ b ≤ hi) : rngE a b lo hi = 0 := by
  unfold rngE
  rw [if_neg (by omega), if_neg (by omega), if_neg (by omega)]
theorem numE_mk {a lo hi : Int} (h : lo ≤ a ∧ a ≤ hi) : numE a lo hi = 0 := by
  unfold numE
  rw [if_neg (by omega)]
theorem shE_mk : ∀ (l : List R2), (∀ s ∈ l, -60 ≤ s.1 ∧ s.1 ≤ s.2 ∧ s.2 ≤ 60) → shE l = 0
  | [], _ => rfl
  | e :: l, h => by
    unfold shE
    rw [if_pos (rngE_mk (h e List.mem_cons_self))]
    exact shE_mk l fun x hx => h x (List.mem_cons_of_mem _ hx)
theorem check_full {J : Jb} (h : J.check = 0) : J.Full := by
  unfold Jb.check at h
  by_cases h0 : J.head = 0
  · rw [if_pos h0] at h
    by_cases h1 : 4 < J.sh.length
    · rw [if_pos h1] at h; omega
    · rw [if_neg h1] at h
      by_cases h2 : shE J.sh = 0
      · rw [if_pos h2] at h
        have a := firstE_ok _ h0
        have b := firstE_ok _ h
        have s := shE_ok _ h2
        have a1 := rngE_ok (a _ (by simp : rngE J.p1 J.p2 (-60) 60 ∈ _))
        have a2 := rngE_ok (a _ (by simp : rngE J.t1 J.t2 0 100 ∈ _))
        have a3 := rngE_ok (a _ (by simp : rngE J.r1 J.r2 0 100 ∈ _))
        have a4 := rngE_ok (a _ (by simp : rngE J.u1 J.u2 0 12 ∈ _))
        have a5 := rngE_ok (a _ (by simp : rngE J.d1 J.d2 0 12 ∈ _))
        have a6 := rngE_ok (a _ (by simp : rngE J.x1 J.x2 0 12 ∈ _))
        have a7 := rngE_ok (a _ (by simp : rngE J.y1 J.y2 0 12 ∈ _))
        have a8 := numE_ok (a _ (by simp : numE J.le 0 100 ∈ _))
        have b1 := numE_ok (b _ (by simp : numE J.wi 0 60 ∈ _))
        have b2 := numE_ok (b _ (by simp : numE J.me 0 6 ∈ _))
        refine ⟨by omega, by omega, by omega, by omega, by omega, by omega, by omega, a8, b1, b2, by omega, fun q hq => ?_⟩
        have := rngE_ok (s q hq)
        omega
      · rw [if_neg h2] at h; exact absurd h h2
  · rw [if_neg h0] at h; exact absurd h h0
theorem Jb.Full.check {J : Jb} (h : J.Full) : J.check = 0 := by
  unfold Jb.check
  have h0 : J.head = 0 := by
    unfold Jb.head
    rw [rngE_mk h.p, rngE_mk h.t, rngE_mk h.r, rngE_mk h.u, rngE_mk h.d, rngE_mk h.x, rngE_mk h.y, numE_mk h.le]
    rfl
  rw [if_pos h0, if_neg (by have := h.len; omega), if_pos (shE_mk _ h.sh), numE_mk h.wi, numE_mk h.me]
  rfl
end Go.Proofs.Ytbebofmpimfbgaa
/- The game, turned about: mathematics, without Go. -/
namespace Go.Proofs.Ytbebofmpimfbgaa
set_option linter.all false
theorem best_stroke {J : Jb} {k : Nat} {t : Tg} {s : Int} (h12 : s = 1 ∨ s = 2) (hw : ¬ ((win J.wi J.sh).1 ≤ t.p1 ∧ t.p2 ≤ (win J.wi J.sh).2)) (hs : spoilI J.le (strk J t s) = 2) :
    (bestM J (k + 1) t).2 ≤ worstOf (fun t => (bestM J k t).2) (strk J t s) (readsL (strk J t s).p1 (strk J t s).p2 J.me) := by
  rw [best_out hw]
  rcases h12 with rfl | rfl
  · exact Int.le_trans choose_top (choose_w hs)
  · exact choose_w hs
theorem best_cases {J : Jb} {k : Nat} {t : Tg} (hw : ¬ ((win J.wi J.sh).1 ≤ t.p1 ∧ t.p2 ≤ (win J.wi J.sh).2)) :
    bestM J (k + 1) t = (0, 5) ∨ ∃ s : Int, (s = 1 ∨ s = 2) ∧ spoilI J.le (strk J t s) = 2 ∧ bestM J (k + 1) t = (s, worstOf (fun t => (bestM J k t).2) (strk J t s) (readsL (strk J t s).p1 (strk J t s).p2 J.me)) ∧ (bestM J (k + 1) t).2 < 5 := by
  rw [best_out hw]
  rcases choose_one J (fun t => (bestM J k t).2) t (choose J (fun t => (bestM J k t).2) t (0, 5) 1) 2 with e | ⟨hs, e, hlt⟩
  · rw [e]
    rcases choose_one J (fun t => (bestM J k t).2) t (0, 5) 1 with e1 | ⟨hs, e1, hlt⟩
    · exact .inl e1
    · exact .inr ⟨1, .inl rfl, hs, e1, by rw [e1]; exact hlt⟩
  · refine .inr ⟨2, .inr rfl, hs, e, ?_⟩
    have := choose_top (J := J) (f := fun t => (bestM J k t).2) (t := t) (m := (0, 5)) (s := 1)
    rw [e]
    simp only at this hlt ⊢
    omega
end Go.Proofs.Ytbebofmpimfbgaa
/- The game, where more is known: mathematics, without Go. -/
namespace Go.Proofs.Ytbebofmpimfbgaa
set_option linter.all false
/-- A range inside of another one, that holds a number. -/
def Nr (s s' : R2) : Prop := s.1 ≤ s'.1 ∧ s'.1 ≤ s'.2 ∧ s'.2 ≤ s.2
inductive NarL : List R2 → List R2 → Prop
  | nil : NarL [] []
  | cons {s s' : R2} {l l' : List R2} : Nr s s' → NarL l l' → NarL (s :: l) (s' :: l')
theorem NarL.of : ∀ (l l' : List R2), l'.length = l.length → (∀ (k : Nat) s s', l[k]? = some s → l'[k]? = some s' → Nr s s') → NarL l l'
  | [], [], _, _ => .nil
  | [], _ :: _, h, _ => by simp at h
  | _ :: _, [], h, _ => by simp at h
  | s :: l, s' :: l', h, hk => .cons (hk 0 s s' rfl rfl) (NarL.of l l' (by simpa using h) fun k a b ha hb => hk (k + 1) a b (by simpa using ha) (by simpa using hb))
/-- A job of which more is known. -/
structure Nar (J X : Jb) : Prop where
  p : Nr (J.p1, J.p2) (X.p1, X.p2)
  t : Nr (J.t1, J.t2) (X.t1, X.t2)
  r : Nr (J.r1, J.r2) (X.r1, X.r2)
  u : Nr (J.u1, J.u2) (X.u1, X.u2)
  d : Nr (J.d1, J.d2) (X.d1, X.d2)
  x : Nr (J.x1, J.x2) (X.x1, X.x2)
  y : Nr (J.y1, J.y2) (X.y1, X.y2)
  le : X.le = J.le
  wi : X.wi = J.wi
  me : 0 ≤ X.me ∧ X.me ≤ J.me
  sh : NarL J.sh X.sh
theorem NarL.len {l l' : List R2} (h : NarL l l') : l'.length = l.length := by
  induction h with
  | nil => rfl
  | cons _ _ ih => simp [ih]
theorem NarL.mem {l l' : List R2} (h : NarL l l') : ∀ s' ∈ l', ∃ s ∈ l, Nr s s' := by
  induction h with
  | nil => intro s hs; cases hs
  | cons h1 _ ih =>
    intro s hs
    rcases List.mem_cons.1 hs with rfl | hs
    · exact ⟨_, List.mem_cons_self, h1⟩
    · obtain ⟨q, hq, hn⟩ := ih s hs
      exact ⟨q, List.mem_cons_of_mem _ hq, hn⟩
theorem nar_full {J X : Jb} (h : J.Full) (n : Nar J X) : X.Full := by
  obtain ⟨p, t, r, u, d, x, y, le, wi, me, len, sh⟩ := h
  obtain ⟨np, nt, nr, nu, nd, nx, ny, nle, nwi, nme, nsh⟩ := n
  simp only [Nr] at np nt nr nu nd nx ny
  refine ⟨by omega, by omega, by omega, by omega, by omega, by omega, by omega, by omega, by omega, by omega, by rw [nsh.len]; exact len, fun s hs => ?_⟩
  obtain ⟨q, hq, hn⟩ := nsh.mem s hs
  have := sh q hq
  simp only [Nr] at hn
  omega
def Sub (r r' : R2) : Prop := r'.1 ≤ r.1 ∧ r.2 ≤ r'.2
theorem meet2_sub {a a' b b' : R2} (h : Sub a a') (k : Sub b b') : Sub (meet2 a b) (meet2 a' b') := by
  unfold Sub at h k ⊢
  unfold meet2
  simp only
  constructor <;> split <;> split <;> omega
/-- A relation between two lists, one by one. -/
inductive All2 {α β : Type} (P : α → β → Prop) : List α → List β → Prop
  | nil : All2 P [] []
  | cons {a : α} {b : β} {l : List α} {l' : List β} : P a b → All2 P l l' → All2 P (a :: l) (b :: l')
theorem meetL_sub {l l' : List R2} (h : All2 Sub l l') : ∀ {r r' : R2}, Sub r r' → Sub (meetL r l) (meetL r' l') := by
  induction h with
  | nil => intro r r' h; exact h
  | cons h1 _ ih => intro r r' h; exact ih (meet2_sub h h1)
theorem meetAll_sub {l l' : List R2} (h : All2 Sub l l') : Sub (meetAll l) (meetAll l') := by
  cases h with
  | nil => exact ⟨Int.le_refl _, Int.le_refl _⟩
  | cons h1 h2 => exact meetL_sub h2 h1
theorem conds_nar {l l' : List R2} (h : NarL l l') : NarL (conds l) (conds l') := by
  cases h with
  | nil => exact .cons ⟨by decide, by decide, by decide⟩ .nil
  | cons h1 h2 => exact .cons h1 h2
theorem sure_sub (wi : Int) {l l' : List R2} (h : NarL l l') : All2 Sub (l.map (sureOf wi)) (l'.map (sureOf wi)) := by
  induction h with
  | nil => exact .nil
  | cons h1 _ ih => exact .cons (by unfold Nr at h1; simp only [Sub, sureOf]; omega) ih
theorem poss_sub (wi : Int) {l l' : List R2} (h : NarL l l') : All2 Sub (l'.map (possOf wi)) (l.map (possOf wi)) := by
  induction h with
  | nil => exact .nil
  | cons h1 _ ih => exact .cons (by unfold Nr at h1; simp only [Sub, possOf]; omega) ih
theorem win_sub {J X : Jb} (n : Nar J X) : Sub (win J.wi J.sh) (win X.wi X.sh) := by
  rw [n.wi]
  exact meetAll_sub (sure_sub _ (conds_nar n.sh))
theorem pos_sub {J X : Jb} (n : Nar J X) : Sub (pos X.wi X.sh) (pos J.wi J.sh) := by
  rw [n.wi]
  exact meetAll_sub (poss_sub _ (conds_nar n.sh))
theorem win_pos {J : Jb} (h : ∀ s ∈ J.sh, s.1 ≤ s.2) : Sub (win J.wi J.sh) (pos J.wi J.sh) := by
  refine meetAll_sub ?_
  have hc : ∀ s ∈ conds J.sh, s.1 ≤ s.2 := by
    intro s hs
    unfold conds at hs
    split at hs
    · simp at hs; subst hs; decide
    · exact h s hs
  revert hc
  generalize conds J.sh = l
  intro hc
  induction l with
  | nil => exact .nil
  | cons s l ih => exact .cons (by have := hc s List.mem_cons_self; simp only [Sub, sureOf, possOf]; omega) (ih fun x hx => hc x (List.mem_cons_of_mem _ hx))
/-- A tongue of which more is known. -/
def NT (t t' : Tg) : Prop := Nr (t.p1, t.p2) (t'.p1, t'.p2) ∧ Nr (t.t1, t.t2) (t'.t1, t'.t2) ∧ Nr (t.r1, t.r2) (t'.r1, t'.r2)
theorem nt_strk {J X : Jb} (n : Nar J X) {t t' : Tg} (h : NT t t') (s : Int) : NT (strk J t s) (strk X t' s) := by
  obtain ⟨np, nt, nr, nu, nd, nx, ny, nle, nwi, nme, nsh⟩ := n
  unfold NT at h ⊢
  simp only [Nr] at h nu nd nx ny ⊢
  unfold strk
  split
  · simp only; omega
  · split
    · simp only; omega
    · exact h
theorem nt_after {J X : Jb} (n : Nar J X) : ∀ (l : List Int) {t t' : Tg}, NT t t' → NT (afterS J t l) (afterS X t' l)
  | [], _, _, h => h
  | s :: l, _, _, h => nt_after n l (nt_strk n h s)
theorem spoil_1 {le : Int} {t : Tg} : spoilI le t = 1 ↔ (t.t2 < le ∨ t.r2 < le) := by
  unfold spoilI
  split
  · simp_all
  · split <;> simp_all
theorem spoil_3 (le : Int) (t : Tg) : spoilI le t = 1 ∨ spoilI le t = 2 ∨ spoilI le t = 3 := by
  unfold spoilI
  split
  · exact .inl rfl
  · split
    · exact .inr (.inl rfl)
    · exact .inr (.inr rfl)
theorem nt_spoil {le : Int} {t t' : Tg} (h : NT t t') (h3 : spoilI le t ≠ 3) : spoilI le t' = spoilI le t := by
  unfold NT at h
  simp only [Nr] at h
  rcases spoil_3 le t with e | e | e
  · rw [e]
    rw [spoil_1] at e ⊢
    omega
  · rw [e]
    rw [spoil_2] at e ⊢
    omega
  · exact absurd e h3
theorem nt_pass {J X : Jb} (hX : ∀ s ∈ X.sh, s.1 ≤ s.2) (n : Nar J X) {t t' : Tg} (h : NT t t') : (passI J.wi J.sh t.p1 t.p2 = 1 → passI X.wi X.sh t'.p1 t'.p2 = 1) ∧ (passI J.wi J.sh t.p1 t.p2 = 2 → passI X.wi X.sh t'.p1 t'.p2 = 2) := by
  have hw := win_sub n
  have hp := pos_sub n
  have hwp := win_pos hX
  obtain ⟨h1, -, -⟩ := h
  simp only [Nr, Sub] at h1 hw hp hwp
  constructor
  · rw [pass_1, pass_1]
    omega
  · intro h2
    unfold passI at h2 ⊢
    by_cases c1 : (win J.wi J.sh).1 ≤ t.p1 ∧ t.p2 ≤ (win J.wi J.sh).2
    · rw [if_pos c1] at h2; cases h2
    · rw [if_neg c1] at h2
      by_cases c2 : (meet2 (pos J.wi J.sh) (t.p1, t.p2)).2 < (meet2 (pos J.wi J.sh) (t.p1, t.p2)).1
      · have c3 : (meet2 (pos X.wi X.sh) (t'.p1, t'.p2)).2 < (meet2 (pos X.wi X.sh) (t'.p1, t'.p2)).1 := by
          have := meet2_sub (a := pos X.wi X.sh) (a' := pos J.wi J.sh) (b := (t'.p1, t'.p2)) (b' := (t.p1, t.p2)) ⟨hp.1, hp.2⟩ ⟨h1.1, h1.2.2⟩
          simp only [Sub] at this
          omega
        rw [if_neg, if_pos c3]
        intro hw2
        simp only [meet2] at c3
        split at c3 <;> split at c3 <;> omega
      · rw [if_neg c2] at h2; cases h2
theorem nt_fine {J X : Jb} (hX : ∀ s ∈ X.sh, s.1 ≤ s.2) (n : Nar J X) {t t' : Tg} (h : NT t t') (h3 : fineI J t ≠ 3) : fineI X t' = fineI J t := by
  obtain ⟨q1, q2⟩ := nt_pass hX n h
  have hs := nt_spoil (le := J.le) h
  unfold fineI at h3 ⊢
  rw [n.le]
  by_cases c1 : passI J.wi J.sh t.p1 t.p2 = 1 ∧ spoilI J.le t = 2
  · rw [if_pos c1, if_pos ⟨q1 c1.1, by rw [hs (by rw [c1.2]; decide)]; exact c1.2⟩]
  · rw [if_neg c1] at h3 ⊢
    by_cases c2 : passI J.wi J.sh t.p1 t.p2 = 2 ∨ spoilI J.le t = 1
    · rw [if_pos c2]
      rcases c2 with c2 | c2
      · have := q2 c2
        rw [if_neg (by rw [this]; simp), if_pos (.inl this)]
      · have := hs (by rw [c2]; decide)
        rw [c2] at this
        rw [if_neg (by rw [this]; simp), if_pos (.inr this)]
    · rw [if_neg c2] at h3; exact absurd rfl h3
theorem nt_fineS {J X : Jb} (hX : ∀ s ∈ X.sh, s.1 ≤ s.2) (n : Nar J X) (l : List Int) (h3 : fineS J l ≠ 3) : fineS X l = fineS J l :=
  nt_fine hX n (nt_after n l ⟨n.p, n.t, n.r⟩) h3
theorem few_nar {J X : Jb} (hX : ∀ s ∈ X.sh, s.1 ≤ s.2) (n : Nar J X) {sn tn : Nat} {ev fv : Int} (h : FewS J sn ev) (g : FewS X tn fv) : (ev ≠ 0 ∨ (fv = 0 ∧ tn ≤ sn)) ∧ (fv = 0 ∨ fv = 11) := by
  refine ⟨?_, by rcases g with ⟨e, _⟩ | ⟨e, _⟩ <;> omega⟩
  rcases h with ⟨e, h6, ⟨l, h12, hl, hf⟩, hmin⟩ | ⟨e, _⟩
  · have hfx : fineS X l = 1 := by rw [nt_fineS hX n l (by rw [hf]; decide)]; exact hf
    rcases g with ⟨e2, g6, _, gmin⟩ | ⟨e2, _, gno⟩
    · exact .inr ⟨e2, by have := gmin l h12 hfx; omega⟩
    · exact absurd hfx (gno l h12 (by omega))
  · exact .inl (by omega)
theorem reads_nar {a b m a' b' m' : Int} (h1 : a ≤ a') (h2 : b' ≤ b) (h3 : m' ≤ m) (h4 : a' ≤ b') (h0 : 0 ≤ m') {r' : R2} (h : r' ∈ readsL a' b' m') : ∃ r ∈ readsL a b m, Nr r r' := by
  have hin := reads_in h4 h0 h
  obtain ⟨k, hk, rfl⟩ := List.mem_map.1 h
  have hk := List.mem_range.1 hk
  refine ⟨_, List.mem_map.2 ⟨(a' - m' + (k : Int) - (a - m)).toNat, List.mem_range.2 (by omega), rfl⟩, ?_⟩
  have e : a - m + (((a' - m' + (k : Int) - (a - m)).toNat : Nat) : Int) = a' - m' + (k : Int) := by omega
  rw [e]
  simp only [Nr]
  refine ⟨?_, hin.2.1, ?_⟩
  · simp only [heardR, meet2]; split <;> split <;> omega
  · simp only [heardR, meet2]; split <;> split <;> omega
theorem best_nar {J X : Jb} (n : Nar J X) : ∀ (k : Nat) (t t' : Tg), NT t t' → (bestM X k t').2 ≤ (bestM J k t).2 := by
  have hw := win_sub n
  simp only [Sub] at hw
  intro k
  induction k with
  | zero =>
    intro t t' h
    have hp := h.1
    simp only [Nr] at hp
    by_cases c : (win J.wi J.sh).1 ≤ t.p1 ∧ t.p2 ≤ (win J.wi J.sh).2
    · rw [best_in c, best_in (by omega)]; exact Int.le_refl _
    · have : (bestM J 0 t).2 = 5 := by unfold bestM; rw [if_neg c]
      rw [this]
      exact (best_bound _ _ _).2
  | succ k ih =>
    intro t t' h
    have hp := h.1
    simp only [Nr] at hp
    by_cases c' : (win X.wi X.sh).1 ≤ t'.p1 ∧ t'.p2 ≤ (win X.wi X.sh).2
    · rw [best_in c']; exact (best_bound _ _ _).1
    · by_cases c : (win J.wi J.sh).1 ≤ t.p1 ∧ t.p2 ≤ (win J.wi J.sh).2
      · exact absurd ⟨by omega, by omega⟩ c'
      · rcases best_cases (k := k) c with e | ⟨s, h12, hs, e, -⟩
        · rw [e]; exact (best_bound _ _ _).2
        · rw [e]
          have hn := nt_strk n h s
          have hsp : spoilI X.le (strk X t' s) = 2 := by
            rw [n.le, nt_spoil hn (by rw [hs]; decide)]; exact hs
          refine Int.le_trans (best_stroke (J := X) (k := k) h12 c' hsp) (worst_le (fold_le _ _ _) fun r' hr' => ?_)
          have hnp := hn.1
          simp only [Nr] at hnp
          obtain ⟨r, hr, hrr⟩ := reads_nar hnp.1 hnp.2.2 n.me.2 hnp.2.1 n.me.1 hr'
          have h1 := worst_ge (f := fun t => (bestM J k t).2) (t := strk J t s) hr
          have h2 := ih { strk J t s with p1 := r.1, p2 := r.2 } { strk X t' s with p1 := r'.1, p2 := r'.2 } ⟨hrr, hn.2.1, hn.2.2⟩
          exact Int.le_trans (Int.add_le_add_left h2 1) h1
theorem guide_nar {J X : Jb} (n : Nar J X) : guideI X ≤ guideI J := by
  refine guide_le (guide_nn J) fun r' hr' => ?_
  have hp := n.p
  simp only [Nr] at hp
  obtain ⟨r, hr, hrr⟩ := reads_nar hp.1 hp.2.2 n.me.2 hp.2.1 n.me.1 hr'
  exact Int.le_trans (best_nar n 4 { J.tg with p1 := r.1, p2 := r.2 } { X.tg with p1 := r'.1, p2 := r'.2 } ⟨hrr, n.t, n.r⟩) (guide_ge hr)
theorem guided_nar {J X : Jb} (hJ : J.check = 0) (n : Nar J X) : ((guidedI J).2 ≠ 0 ∨ ((guidedI X).2 = 0 ∧ (guidedI X).1 ≤ (guidedI J).1)) ∧ ((guidedI X).2 = 0 ∨ (guidedI X).2 = 11) := by
  have hX := (nar_full (check_full hJ) n).check
  have hg := guide_nar n
  have ht := guide_top J
  unfold guidedI
  rw [if_pos hJ, if_pos hX]
  by_cases c : guideI J = 5
  · rw [if_pos c]
    refine ⟨.inl (by decide), ?_⟩
    split
    · exact .inr rfl
    · exact .inl rfl
  · rw [if_neg c, if_neg (by omega)]
    exact ⟨.inr ⟨rfl, hg⟩, .inl rfl⟩
end Go.Proofs.Ytbebofmpimfbgaa
