/- Part 5 of the proof: GdA. -/
import Derived.Test.YtadmcafbffjjbaaB04
/- Guided: its code in parts, and what lies about in it. -/
namespace Go.Proofs.Ytadmcafbffjjbaa
set_option linter.all false
open Go.RowKit Go.Shelf
noncomputable def gdbody : Code := Try.f12.body.getD .skip
noncomputable def gdrest1 : Code := sndB gdbody
noncomputable def gdrest2 : Code := sndB gdrest1
noncomputable def gdrest3 : Code := sndB gdrest2
noncomputable def gdrest4 : Code := sndB gdrest3
noncomputable def gdrest5 : Code := sndB gdrest4
set_option maxRecDepth 1000000 in
theorem gdbody_eq : gdbody = .seq (Code.region 0 #[⟨some 1,.box 30 (.tmp 0),0,"game.go:22",#[],none⟩,⟨some 2,.alloc 3,0,"game.go:22",#[],none⟩,⟨some 3,.alloc 39,0,"game.go:22",#[],none⟩] false) gdrest1 := by kernel_rfl
set_option maxRecDepth 1000000 in
theorem gdrest1_eq : gdrest1 = .seq (.seq (Code.region 1 #[⟨some 9,.load 30 (.tmp 1),30,"game.go:23",#[],none⟩,⟨some 10,.call { callee := .value (.func 47),args := #[.tmp 9],argTypes := #[30] },39,"game.go:23",#[⟨0,.data⟩],none⟩,⟨some 4,.assign (.tmp 10),39,"game.go:23",#[⟨1,.data⟩,⟨1,.chain⟩,⟨0,.phase⟩,⟨1,.phase⟩],none⟩] false) (.seq (Code.region 2 #[⟨some 11,.move (.tmp 4),39,"game.go:23",#[],none⟩,⟨some 12,.binOp .neq 39 (.tmp 11) (.const (.int .i64 0)) 39,4,"game.go:23",#[⟨0,.data⟩],none⟩] false) (.cond (.tmp 12) (.seq (Code.region 3 #[⟨some 13,.move (.tmp 4),39,"game.go:24",#[⟨1,.gcOnly .lateStores⟩],none⟩,⟨none,.store 3 (.tmp 2) (.const (.int .i64 0)),0,"game.go:24",#[⟨0,.textOnly .lateStores⟩],none⟩,⟨none,.store 39 (.tmp 3) (.tmp 13),0,"game.go:24",#[⟨0,.data⟩,⟨1,.chain⟩,⟨0,.phase⟩,⟨1,.phase⟩],none⟩] false) .ret) .skip))) gdrest2 := by kernel_rfl
set_option maxRecDepth 1000000 in
theorem gdrest2_eq : gdrest2 = .seq (Code.region 4 #[⟨some 14,.load 30 (.tmp 1),30,"game.go:26",#[],none⟩,⟨some 15,.call { callee := .value (.func 48),args := #[.tmp 14],argTypes := #[30] },83,"game.go:26",#[⟨0,.data⟩],none⟩,⟨some 5,.alloc 83,0,"game.go:26",#[],none⟩,⟨none,.store 83 (.tmp 5) (.tmp 15),0,"game.go:26",#[⟨2,.data⟩,⟨1,.data⟩,⟨1,.chain⟩,⟨0,.phase⟩,⟨1,.phase⟩,⟨2,.phase⟩],none⟩] false) gdrest3 := by kernel_rfl
set_option maxRecDepth 1000000 in
theorem gdrest3_eq : gdrest3 = .seq (Code.region 5 #[⟨some 6,.alloc 3,0,"game.go:27",#[],none⟩,⟨none,.store 3 (.tmp 6) (.const (.int .i64 0)),0,"game.go:27",#[⟨0,.data⟩,⟨0,.phase⟩],none⟩] false) gdrest4 := by kernel_rfl
set_option maxRecDepth 1000000 in
theorem gdrest5_eq : gdrest5 = .seq (Code.region 13 #[⟨some 36,.load 3 (.tmp 6),3,"game.go:36",#[],none⟩,⟨none,.store 3 (.tmp 2) (.tmp 36),0,"game.go:36",#[⟨0,.data⟩,⟨0,.phase⟩],none⟩,⟨none,.store 39 (.tmp 3) (.const (.int .i64 0)),0,"game.go:36",#[⟨1,.chain⟩,⟨0,.phase⟩,⟨1,.phase⟩],none⟩] false) .ret := by kernel_rfl
noncomputable def gfa : Code := ((rfB gdrest4).getD (.skip,.skip)).1
noncomputable def gfb : Code := ((rfB gdrest4).getD (.skip,.skip)).2
noncomputable def gfc : Code := ((blkB gfb).getD .skip)
noncomputable def gb0 : Code := gfc
noncomputable def gb1 : Code := sndB gb0
noncomputable def gb2 : Code := sndB gb1
noncomputable def gb3 : Code := sndB gb2
set_option maxRecDepth 1000000 in
theorem gb0_eq : gb0 = .seq (Code.region 8 #[⟨some 23,.fieldAddr 30 (.tmp 1) 0,0,"game.go:29",#[],none⟩,⟨some 24,.load 25 (.tmp 23),25,"game.go:29",#[⟨0,.data⟩],none⟩,⟨some 8,.alloc 25,0,"game.go:29",#[],none⟩,⟨none,.store 25 (.tmp 8) (.tmp 24),0,"game.go:29",#[⟨2,.data⟩,⟨1,.data⟩,⟨0,.phase⟩,⟨1,.phase⟩,⟨2,.phase⟩],none⟩] false) gb1 := by kernel_rfl
set_option maxRecDepth 1000000 in
theorem gb1_eq : gb1 = .seq (Code.region 9 #[⟨some 25,.load 23 (.tmp 7),23,"game.go:30",#[],none⟩,⟨some 26,.fieldAddr 25 (.tmp 8) 0,0,"game.go:30",#[⟨0,.phase⟩],none⟩,⟨none,.store 23 (.tmp 26) (.tmp 25),0,"game.go:30",#[⟨1,.data⟩,⟨0,.data⟩,⟨0,.phase⟩],none⟩] false) gb2 := by kernel_rfl
set_option maxRecDepth 1000000 in
theorem gb2_eq : gb2 = .seq (Code.region 10 #[⟨some 27,.load 3 (.tmp 6),3,"game.go:31",#[],none⟩,⟨some 28,.load 83 (.tmp 5),83,"game.go:31",#[],none⟩,⟨some 29,.load 25 (.tmp 8),25,"game.go:31",#[],none⟩,⟨some 30,.build 91 #[(0,.tmp 29),(1,.const (.int .i64 4))],91,"game.go:31",#[⟨2,.data⟩],none⟩,⟨some 31,.call { callee := .value (.tmp 28),args := #[.tmp 30],argTypes := #[91] },89,"game.go:31",#[⟨1,.data⟩,⟨3,.data⟩],none⟩,⟨some 32,.field 89 (.tmp 31) 1,3,"game.go:31",#[⟨4,.data⟩],none⟩,⟨some 33,.call { callee := .builtin .max,args := #[.tmp 27,.tmp 32],argTypes := #[3,3] },3,"game.go:31",#[⟨0,.data⟩,⟨5,.data⟩],none⟩,⟨none,.store 3 (.tmp 6) (.tmp 33),0,"game.go:31",#[⟨6,.data⟩,⟨4,.chain⟩,⟨0,.phase⟩,⟨1,.phase⟩,⟨2,.phase⟩,⟨3,.phase⟩,⟨4,.phase⟩,⟨5,.phase⟩,⟨6,.phase⟩],none⟩] true) gb3 := by kernel_rfl
set_option maxRecDepth 1000000 in
theorem gb3_eq : gb3 = .seq (Code.region 11 #[⟨some 34,.load 3 (.tmp 6),3,"game.go:32",#[],none⟩,⟨some 35,.binOp .eql 3 (.tmp 34) (.const (.int .i64 5)) 3,4,"game.go:32",#[⟨0,.data⟩],none⟩] false) (.cond (.tmp 35) (.seq (Code.region 12 #[⟨none,.store 3 (.tmp 2) (.const (.int .i64 0)),0,"game.go:33",#[],none⟩,⟨none,.store 39 (.tmp 3) (.const (.int .i64 11)),0,"game.go:33",#[⟨0,.chain⟩,⟨0,.phase⟩],none⟩] false) .ret) .skip) := by kernel_rfl
set_option maxRecDepth 1000000 in
theorem gfa_eq : gfa = (Code.region 7 #[⟨some 7,.alloc 23,0,"game.go:28",#[],none⟩,⟨none,.store 23 (.tmp 7) (.tmp 22),0,"game.go:28",#[⟨0,.data⟩,⟨0,.phase⟩],none⟩] false) := by kernel_rfl
set_option maxRecDepth 1000000 in
theorem gfb_eq : gfb = .block 1 gb0 := by kernel_rfl
set_option maxRecDepth 1000000 in
theorem gdrest4_cut : gdrest4 = .seq (.seq (Code.region 6 #[⟨some 16,.fieldAddr 30 (.tmp 1) 0,0,"game.go:28",#[],none⟩,⟨some 17,.fieldAddr 25 (.tmp 16) 0,0,"game.go:28",#[⟨0,.data⟩],none⟩,⟨some 18,.load 23 (.tmp 17),23,"game.go:28",#[⟨1,.data⟩],none⟩,⟨some 19,.fieldAddr 30 (.tmp 1) 4,0,"game.go:28",#[],none⟩,⟨some 20,.load 3 (.tmp 19),3,"game.go:28",#[⟨3,.data⟩],none⟩,⟨some 21,.call { callee := .value (.func 49),args := #[.tmp 18,.tmp 20],argTypes := #[23,3] },86,"game.go:28",#[⟨2,.data⟩,⟨4,.data⟩],none⟩] false) (.block 0 (.rangeFunc (.tmp 21) #[22] gfa gfb))) gdrest5 := by kernel_rfl
def gv (J : Jb) (pre : List R2) : Int := pre.foldl (fun m r => mx m (bestM J 4 { J.tg with p1 := r.1,p2 := r.2 }).2) 0
theorem gv_snoc (J : Jb) (pre : List R2) (x : R2) : gv J (pre ++ [x]) = mx (gv J pre) (bestM J 4 { J.tg with p1 := x.1,p2 := x.2 }).2 := by simp [gv]
theorem gv_nn (J : Jb) (pre : List R2) : 0 ≤ gv J pre := fold_le _ _ _
theorem gv_top (J : Jb) (pre : List R2) : gv J pre ≤ 5 := fold_top _ _ (fun r => (best_bound J 4 _).2) _ _ (by decide)
theorem gv_pre (J : Jb) {p l : List R2} (h : p <+: l) : gv J p ≤ gv J l := by
  obtain ⟨q,rfl⟩ := h
  unfold gv
  rw [List.foldl_append]
  exact fold_le _ _ _
theorem gv_all (J : Jb) : gv J (readsL J.p1 J.p2 J.me) = guideI J := rfl
def guidedI (J : Jb) : Int × Int := if J.check = 0 then (if guideI J = 5 then (0,11) else (guideI J,0)) else (0,J.check)
theorem results_int2 {P : Program} {fn : Func} {p q : Tmp} {ty tz : TypeId} {k : IntKind} {m : IntKind} (h : fn.results = #[.cell p ty,.cell q tz]) (tmps : Array Value) (w : World) (g g' : Nat) (t t' : TypeId) (v u : Value)
    (hp : tmps.getD p undef = .pointer (some ⟨g,0,none⟩)) (hq : tmps.getD q undef = .pointer (some ⟨g',0,none⟩)) (hg : Bk w g t #[v]) (hg' : Bk w g' t' #[u])
    (hu : P.underlying ty = some (.int k)) (hz : P.underlying tz = some (.int m)) :
    (results fn tmps).run P w = .ok (.tuple #[v,u]) w := by
  have hp' : tmps[p]?.getD undef = .pointer (some ⟨g,0,none⟩) := by simpa using hp
  have hq' : tmps[q]?.getD undef = .pointer (some ⟨g',0,none⟩) := by simpa using hq
  have c1 := hg.at_ 0 v rfl
  have c2 := hg'.at_ 0 u rfl
  simp [results,h,hp',hq',asAddr,loadVar,Sem.run_bind,isAgg,run_underlying hu w,run_underlying hz w,run_load,c1,c2]
theorem Stp.b0 {bm g h : Nat} {w0 X Y : World} (a : Stp bm g h X Y) (hb : Below w0.heap.size w0 X) (h1 : w0.heap.size ≤ bm) (h2 : w0.heap.size ≤ g) (h3 : w0.heap.size ≤ h) : Below w0.heap.size X Y :=
  ⟨a.os,a.tape,a.output,a.size,fun i hi => a.same i (Nat.lt_of_lt_of_le hi hb.size) (by omega) (by omega) (by omega)⟩
/-- How the blocks of Guided lie. -/
def GN (n0 g1 g2 g3 g5 g6 Bw Bf Bj Bb bm : Nat) : Prop := n0 ≤ g1 ∧ g1 < g2 ∧ g2 < g3 ∧ g3 < g5 ∧ g5 < g6 ∧ Bw < g5 ∧ Bf < g5 ∧ Bj < g5 ∧ Bb < g5 ∧ bm < g5 ∧ n0 ≤ bm
/-- What lies about in Guided. -/
structure GS (J : Jb) (sa : Option Addr) (sn sc : Nat) (w0 : World) (g1 g2 g3 g5 Bw Bf Bj Bb bm : Nat) (X : World) : Prop where
  ns : NS J sa sn sc w0 g1 X
  env : Env J (.slice sa sn sc) Bw Bf Bj Bb bm X
  r2 : Bk X g2 3 #[.int .i64 0]
  r3 : Bk X g3 39 #[.int .i64 0]
  fv : Bk X g5 83 #[(.func (.func 77) #[] #[.pointer (some ⟨Bw,0,none⟩),.pointer (some ⟨Bf,0,none⟩),.pointer (some ⟨Bj,0,none⟩),.pointer (some ⟨Bb,0,none⟩)])]
section
variable {J : Jb} {sa : Option Addr} {sn sc : Nat} {w0 : World} {g1 g2 g3 g5 g6 Bw Bf Bj Bb bm : Nat} {X Y : World}
theorem GS.stp (h : GS J sa sn sc w0 g1 g2 g3 g5 Bw Bf Bj Bb bm X) {c : Nat} (hM : Memo J X bm c) (hn : GN w0.heap.size g1 g2 g3 g5 g6 Bw Bf Bj Bb bm) (a : Stp bm g6 g6 X Y) : GS J sa sn sc w0 g1 g2 g3 g5 Bw Bf Bj Bb bm Y := by
  obtain ⟨n1,n2,n3,n4,n5,n6,n7,n8,n9,n10,n11⟩ := hn
  have k1 := bk_ne_memo h.ns.job hM
  have k2 := bk_ne_memo h.r2 hM
  have k3 := bk_ne_memo h.r3 hM
  have k5 := bk_ne_memo h.fv hM
  have kw := bk_ne_memo h.env.win hM
  have kf := bk_ne_memo h.env.found hM
  have kj := bk_ne_memo h.env.job hM
  have kb := bk_ne_memo h.env.best hM
  exact ⟨h.ns.of (a.b0 h.ns.b0 n11 (by omega) (by omega)) (a.bk h.ns.job k1 (by omega) (by omega)),⟨a.bk h.env.win kw (by omega) (by omega),a.bk h.env.found kf (by omega) (by omega),a.bk h.env.job kj (by omega) (by omega),a.bk h.env.best kb (by omega) (by omega)⟩,
    a.bk h.r2 k2 (by omega) (by omega),a.bk h.r3 k3 (by omega) (by omega),a.bk h.fv k5 (by omega) (by omega)⟩
theorem GS.own (h : GS J sa sn sc w0 g1 g2 g3 g5 Bw Bf Bj Bb bm X) {B : Nat} {row : Option Nat} (hB : w0.heap.size ≤ B) (hg : X.grownBy Y row) (hr : ∀ r,row = some r → B ≤ r ∧ ∃ o : Obj,X.heap[r]? = some o ∧ o.isCells = false) : GS J sa sn sc w0 g1 g2 g3 g5 Bw Bf Bj Bb bm Y :=
  ⟨h.ns.of ⟨hg.os,hg.tape,hg.output,hg.size,fun i hi => hg.block i (Nat.lt_of_lt_of_le hi h.ns.b0.size) (fun e => by have := (hr i e.symm).1; omega)⟩ (h.ns.job.grown hg (row_ne h.ns.job hr)),
   ⟨h.env.win.grown hg (row_ne h.env.win hr),h.env.found.grown hg (row_ne h.env.found hr),h.env.job.grown hg (row_ne h.env.job hr),h.env.best.grown hg (row_ne h.env.best hr)⟩,h.r2.grown hg (row_ne h.r2 hr),h.r3.grown hg (row_ne h.r3 hr),h.fv.grown hg (row_ne h.fv hr)⟩
end
/-- What holds between two readings in Guided. -/
structure GI (J : Jb) (sa : Option Addr) (sn sc : Nat) (w0 : World) (g1 g2 g3 g5 g6 Bw Bf Bj Bb bm : Nat) (pre : List R2) (X : World) : Prop where
  gs : GS J sa sn sc w0 g1 g2 g3 g5 Bw Bf Bj Bb bm X
  memo : ∃ c',c' ≤ pre.length * cost 4 ∧ Memo J X bm c'
  val : Bk X g6 3 #[.int .i64 (gv J pre)]
  less : gv J pre ≠ 5
structure GX (J : Jb) (w0 : World) (g2 g3 : Nat) (cd : Code) (pre : List R2) (X : World) : Prop where
  out : cd = .ret
  more : gv J pre = 5
  b0 : Below w0.heap.size w0 X
  r2 : Bk X g2 3 #[.int .i64 0]
  r3 : Bk X g3 39 #[.int .i64 11]
structure SG (J : Jb) (sa : Option Addr) (sn sc : Nat) (w0 : World) (g1 g2 g3 g5 g6 g8 Bw Bf Bj Bb bm c : Nat) (x : R2) (X0 X : World) : Prop where
  stp : Stp bm g6 g6 X0 X
  gs : GS J sa sn sc w0 g1 g2 g3 g5 Bw Bf Bj Bb bm X
  memo : ∃ c',c' ≤ c ∧ Memo J X bm c'
  next : Bk X g8 25 #[.int .i64 { J.tg with p1 := x.1,p2 := x.2 }.p1,.int .i64 { J.tg with p1 := x.1,p2 := x.2 }.p2,.int .i64 { J.tg with p1 := x.1,p2 := x.2 }.t1,.int .i64 { J.tg with p1 := x.1,p2 := x.2 }.t2,.int .i64 { J.tg with p1 := x.1,p2 := x.2 }.r1,.int .i64 { J.tg with p1 := x.1,p2 := x.2 }.r2]
  val : ∃ z,Bk X g6 3 #[z]
theorem GI.own {J : Jb} {sa : Option Addr} {sn sc : Nat} {w0 : World} {g1 g2 g3 g5 g6 Bw Bf Bj Bb bm : Nat} {B : Nat} (hB : w0.heap.size ≤ B) (hbm : bm < B) (fm : R2 → R2) : OwnFrom B (fun (pre : List R2) (X : World) => GI J sa sn sc w0 g1 g2 g3 g5 g6 Bw Bf Bj Bb bm (pre.map fm) X) := by
  intro pre X Y row h hg hr
  obtain ⟨d,hd,hm⟩ := h.memo
  exact ⟨h.gs.own hB hg hr,⟨d,hd,hm.kept hg (by intro e; have := (hr bm e.symm).1; omega)⟩,h.val.grown hg (row_ne h.val hr),h.less⟩
theorem GX.own {J : Jb} {w0 : World} {g2 g3 : Nat} {B : Nat} (hB : w0.heap.size ≤ B) (cd : Code) (fm : R2 → R2) : OwnFrom B (fun (pre : List R2) (X : World) => GX J w0 g2 g3 cd (pre.map fm) X) := by
  intro pre X Y row h hg hr
  exact ⟨h.out,h.more,h.b0.trans ⟨hg.os,hg.tape,hg.output,hg.size,fun i hi => hg.block i (Nat.lt_of_lt_of_le hi h.b0.size) (fun e => by have := (hr i e.symm).1; omega)⟩,h.r2.grown hg (row_ne h.r2 hr),h.r3.grown hg (row_ne h.r3 hr)⟩
section
variable {J : Jb} {sa : Option Addr} {sn sc : Nat} {w0 : World} {g1 g2 g3 g5 g6 Bw Bf Bj Bb bm : Nat} {g8 c c' : Nat} {x : R2} {X0 X Y : World}
theorem SG.call (h : SG J sa sn sc w0 g1 g2 g3 g5 g6 g8 Bw Bf Bj Bb bm c x X0 X) (hn : GN w0.heap.size g1 g2 g3 g5 g6 Bw Bf Bj Bb bm) (hg : X.grownBy Y (some bm)) (hm : ∃ d,d ≤ c' ∧ Memo J Y bm d) : SG J sa sn sc w0 g1 g2 g3 g5 g6 g8 Bw Bf Bj Bb bm c' x X0 Y := by
  obtain ⟨z,hz⟩ := h.val
  obtain ⟨d,hd,hM⟩ := h.memo
  exact ⟨h.stp.trans (.grown hg),h.gs.stp hM hn (.grown hg),hm,h.next.grown hg (fun e => bk_ne_memo h.next hM (by injection e)),⟨z,hz.grown hg (fun e => bk_ne_memo hz hM (by injection e))⟩⟩
theorem SG.store (h : SG J sa sn sc w0 g1 g2 g3 g5 g6 g8 Bw Bf Bj Bb bm c x X0 X) (hn : GN w0.heap.size g1 g2 g3 g5 g6 Bw Bf Bj Bb bm) (v : Value) : SG J sa sn sc w0 g1 g2 g3 g5 g6 g8 Bw Bf Bj Bb bm c x X0 (X.setCell ⟨g6,0,none⟩ v) := by
  have q : Stp bm g6 g6 X (X.setCell ⟨g6,0,none⟩ v) := Stp.cell _ _ (.inl rfl)
  obtain ⟨z,hz⟩ := h.val
  obtain ⟨d,hd,hM⟩ := h.memo
  have hne := bk_ne_memo hz hM
  have h8 : g8 ≠ g6 := by
    rintro rfl
    have a := h.next
    unfold Bk at a hz
    rw [a] at hz
    simp at hz
  exact ⟨h.stp.trans q,h.gs.stp hM hn q,⟨d,hd,hM.kept (grownBy_setCell' X g6 v) (by intro e; injection e with e; exact hne e.symm)⟩,h.next.other (by exact h8) _,⟨v,hz.put1 v⟩⟩
theorem SG.drew (h : SG J sa sn sc w0 g1 g2 g3 g5 g6 g8 Bw Bf Bj Bb bm c x X0 X) (hn : GN w0.heap.size g1 g2 g3 g5 g6 Bw Bf Bj Bb bm) : SG J sa sn sc w0 g1 g2 g3 g5 g6 g8 Bw Bf Bj Bb bm c x X0 X.drew := by
  obtain ⟨z,hz⟩ := h.val
  obtain ⟨d,hd,hM⟩ := h.memo
  exact ⟨h.stp.drew,h.gs.stp hM hn (Stp.below (Below.refl _ _).drew),⟨d,hd,hM.kept (row := none) ⟨rfl,rfl,rfl,Nat.le_refl _,fun _ _ _ => rfl⟩ (by simp)⟩,h.next,⟨z,hz⟩⟩
theorem SG.more (h : SG J sa sn sc w0 g1 g2 g3 g5 g6 g8 Bw Bf Bj Bb bm c x X0 X) (hc : c ≤ c') : SG J sa sn sc w0 g1 g2 g3 g5 g6 g8 Bw Bf Bj Bb bm c' x X0 X := by
  obtain ⟨d,hd,hm⟩ := h.memo
  exact ⟨h.stp,h.gs,⟨d,by omega,hm⟩,h.next,h.val⟩
end
end Go.Proofs.Ytadmcafbffjjbaa
