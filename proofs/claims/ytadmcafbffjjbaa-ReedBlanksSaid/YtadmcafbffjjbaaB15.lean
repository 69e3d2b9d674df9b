/- Part 15 of the proof: GrG, BkF. -/
import Derived.Deep.WholeRow
import Derived.OwnWalk
import Derived.Deep.MidRow
import Derived.Test.YtadmcafbffjjbaaB11
import Derived.Test.YtadmcafbffjjbaaB13
import Derived.Test.YtadmcafbffjjbaaB14
import Derived.Test.YtadmcafbffjjbaaB01
/- Which jobs are too slow to try. -/
namespace Go.Proofs.Ytadmcafbffjjbaa
set_option linter.all false
open Go.RowKit
set_option maxRecDepth 1000000 in
def slo : Array Oper := #[⟨some 7,.load 30 (.tmp 1),30,"law.go:16",#[],none⟩,⟨some 8,.call { callee := .value (.func 39),args := #[.tmp 7],argTypes := #[30] },39,"law.go:16",#[⟨0,.data⟩],none⟩,⟨some 9,.binOp .eql 39 (.tmp 8) (.const (.int .i64 0)) 39,4,"law.go:16",#[⟨1,.data⟩],none⟩,⟨some 10,.move (.tmp 9),4,"law.go:16",#[⟨2,.data⟩,⟨1,.chain⟩],none⟩,⟨some 11,.fieldAddr 30 (.tmp 1) 0,0,"law.go:16",#[⟨3,.guard⟩],some (3,true)⟩,⟨some 12,.fieldAddr 25 (.tmp 11) 0,0,"law.go:16",#[⟨4,.data⟩,⟨3,.guard⟩],some (3,true)⟩,⟨some 13,.fieldAddr 23 (.tmp 12) 1,0,"law.go:16",#[⟨5,.data⟩,⟨3,.guard⟩],some (3,true)⟩,⟨some 14,.load 3 (.tmp 13),3,"law.go:16",#[⟨6,.data⟩,⟨3,.guard⟩],some (3,true)⟩,⟨some 15,.fieldAddr 30 (.tmp 1) 0,0,"law.go:16",#[⟨3,.guard⟩],some (3,true)⟩,⟨some 16,.fieldAddr 25 (.tmp 15) 0,0,"law.go:16",#[⟨8,.data⟩,⟨3,.guard⟩],some (3,true)⟩,⟨some 17,.fieldAddr 23 (.tmp 16) 0,0,"law.go:16",#[⟨9,.data⟩,⟨3,.guard⟩],some (3,true)⟩,⟨some 18,.load 3 (.tmp 17),3,"law.go:16",#[⟨10,.data⟩,⟨3,.guard⟩],some (3,true)⟩,⟨some 19,.binOp .sub 3 (.tmp 14) (.tmp 18) 3,3,"law.go:16",#[⟨7,.data⟩,⟨11,.data⟩,⟨3,.guard⟩],some (3,true)⟩,⟨some 20,.binOp .gtr 3 (.tmp 19) (.const (.int .i64 8)) 3,4,"law.go:16",#[⟨12,.data⟩,⟨3,.guard⟩],some (3,true)⟩,⟨some 21,.move (.tmp 20),4,"law.go:16",#[⟨13,.data⟩,⟨3,.chain⟩,⟨3,.guard⟩],some (3,true)⟩,⟨some 22,.fieldAddr 30 (.tmp 1) 1,0,"law.go:16",#[⟨14,.guard⟩],some (14,false)⟩,⟨some 23,.fieldAddr 27 (.tmp 22) 0,0,"law.go:16",#[⟨15,.data⟩,⟨14,.guard⟩],some (14,false)⟩,⟨some 24,.fieldAddr 23 (.tmp 23) 1,0,"law.go:16",#[⟨16,.data⟩,⟨14,.guard⟩],some (14,false)⟩,⟨some 25,.load 3 (.tmp 24),3,"law.go:16",#[⟨17,.data⟩,⟨14,.guard⟩],some (14,false)⟩,⟨some 26,.fieldAddr 30 (.tmp 1) 1,0,"law.go:16",#[⟨14,.guard⟩],some (14,false)⟩,⟨some 27,.fieldAddr 27 (.tmp 26) 0,0,"law.go:16",#[⟨19,.data⟩,⟨14,.guard⟩],some (14,false)⟩,⟨some 28,.fieldAddr 23 (.tmp 27) 0,0,"law.go:16",#[⟨20,.data⟩,⟨14,.guard⟩],some (14,false)⟩,⟨some 29,.load 3 (.tmp 28),3,"law.go:16",#[⟨21,.data⟩,⟨14,.guard⟩],some (14,false)⟩,⟨some 30,.binOp .sub 3 (.tmp 25) (.tmp 29) 3,3,"law.go:16",#[⟨18,.data⟩,⟨22,.data⟩,⟨14,.guard⟩],some (14,false)⟩,⟨some 31,.binOp .gtr 3 (.tmp 30) (.const (.int .i64 3)) 3,4,"law.go:16",#[⟨23,.data⟩,⟨14,.guard⟩],some (14,false)⟩,⟨some 32,.pick (.tmp 21) (.const (.bool true)) (.tmp 31),4,"law.go:16",#[⟨14,.data⟩,⟨24,.data⟩,⟨3,.guard⟩],some (3,true)⟩,⟨some 33,.move (.tmp 32),4,"law.go:16",#[⟨25,.data⟩,⟨14,.chain⟩,⟨3,.guard⟩],some (3,true)⟩,⟨some 34,.fieldAddr 30 (.tmp 1) 1,0,"law.go:16",#[⟨26,.guard⟩],some (26,false)⟩,⟨some 35,.fieldAddr 27 (.tmp 34) 1,0,"law.go:16",#[⟨27,.data⟩,⟨26,.guard⟩],some (26,false)⟩,⟨some 36,.fieldAddr 23 (.tmp 35) 1,0,"law.go:16",#[⟨28,.data⟩,⟨26,.guard⟩],some (26,false)⟩,⟨some 37,.load 3 (.tmp 36),3,"law.go:16",#[⟨29,.data⟩,⟨26,.guard⟩],some (26,false)⟩,⟨some 38,.fieldAddr 30 (.tmp 1) 1,0,"law.go:16",#[⟨26,.guard⟩],some (26,false)⟩,⟨some 39,.fieldAddr 27 (.tmp 38) 1,0,"law.go:16",#[⟨31,.data⟩,⟨26,.guard⟩],some (26,false)⟩,⟨some 40,.fieldAddr 23 (.tmp 39) 0,0,"law.go:16",#[⟨32,.data⟩,⟨26,.guard⟩],some (26,false)⟩,⟨some 41,.load 3 (.tmp 40),3,"law.go:16",#[⟨33,.data⟩,⟨26,.guard⟩],some (26,false)⟩,⟨some 42,.binOp .sub 3 (.tmp 37) (.tmp 41) 3,3,"law.go:16",#[⟨30,.data⟩,⟨34,.data⟩,⟨26,.guard⟩],some (26,false)⟩,⟨some 43,.binOp .gtr 3 (.tmp 42) (.const (.int .i64 3)) 3,4,"law.go:16",#[⟨35,.data⟩,⟨26,.guard⟩],some (26,false)⟩,⟨some 44,.pick (.tmp 33) (.const (.bool true)) (.tmp 43),4,"law.go:16",#[⟨26,.data⟩,⟨36,.data⟩,⟨3,.guard⟩],some (3,true)⟩,⟨some 45,.move (.tmp 44),4,"law.go:16",#[⟨37,.data⟩,⟨26,.chain⟩,⟨3,.guard⟩],some (3,true)⟩,⟨some 46,.fieldAddr 30 (.tmp 1) 4,0,"law.go:16",#[⟨38,.guard⟩],some (38,false)⟩,⟨some 47,.load 3 (.tmp 46),3,"law.go:16",#[⟨39,.data⟩,⟨38,.guard⟩],some (38,false)⟩,⟨some 48,.binOp .gtr 3 (.tmp 47) (.const (.int .i64 3)) 3,4,"law.go:16",#[⟨40,.data⟩,⟨38,.guard⟩],some (38,false)⟩,⟨some 49,.pick (.tmp 45) (.const (.bool true)) (.tmp 48),4,"law.go:16",#[⟨38,.data⟩,⟨41,.data⟩,⟨3,.guard⟩],some (3,true)⟩,⟨some 50,.pick (.tmp 10) (.tmp 49) (.const (.bool false)),4,"law.go:16",#[⟨3,.data⟩,⟨42,.data⟩],none⟩,⟨some 2,.assign (.tmp 50),4,"law.go:16",#[⟨43,.data⟩,⟨38,.chain⟩,⟨0,.phase⟩,⟨1,.phase⟩,⟨2,.phase⟩,⟨3,.phase⟩,⟨4,.phase⟩,⟨5,.phase⟩,⟨6,.phase⟩,⟨7,.phase⟩,⟨8,.phase⟩,⟨9,.phase⟩,⟨10,.phase⟩,⟨11,.phase⟩,⟨12,.phase⟩,⟨13,.phase⟩,⟨14,.phase⟩,⟨15,.phase⟩,⟨16,.phase⟩,⟨17,.phase⟩,⟨18,.phase⟩,⟨19,.phase⟩,⟨20,.phase⟩,⟨21,.phase⟩,⟨22,.phase⟩,⟨23,.phase⟩,⟨24,.phase⟩,⟨25,.phase⟩,⟨26,.phase⟩,⟨27,.phase⟩,⟨28,.phase⟩,⟨29,.phase⟩,⟨30,.phase⟩,⟨31,.phase⟩,⟨32,.phase⟩,⟨33,.phase⟩,⟨34,.phase⟩,⟨35,.phase⟩,⟨36,.phase⟩,⟨37,.phase⟩,⟨38,.phase⟩,⟨39,.phase⟩,⟨40,.phase⟩,⟨41,.phase⟩,⟨42,.phase⟩,⟨43,.phase⟩],none⟩]
noncomputable def slbody : Code := Try.f7.body.getD .skip
noncomputable def slrest1 : Code := sndB slbody
noncomputable def slrest2 : Code := sndB slrest1
set_option maxRecDepth 1000000 in
theorem slbody_eq : slbody = .seq (Code.region 0 #[⟨some 1,.box 30 (.tmp 0),0,"law.go:12",#[],none⟩,⟨some 2,.assign (.const (.bool false)),4,"law.go:12",#[],none⟩] false) slrest1 := by kernel_rfl
set_option maxRecDepth 1000000 in
theorem slrest1_eq : slrest1 = .seq (.seq (Code.region 1 #[⟨some 3,.fieldAddr 30 (.tmp 1) 2,0,"law.go:13",#[],none⟩,⟨some 4,.load 28 (.tmp 3),28,"law.go:13",#[⟨0,.data⟩],none⟩,⟨some 5,.call { callee := .builtin .len,args := #[.tmp 4],argTypes := #[28] },3,"law.go:13",#[⟨1,.data⟩],none⟩,⟨some 6,.binOp .gtr 3 (.tmp 5) (.const (.int .i64 20)) 3,4,"law.go:13",#[⟨2,.data⟩],none⟩] false) (.cond (.tmp 6) (.seq (Code.region 2 #[⟨some 2,.assign (.const (.bool true)),4,"law.go:14",#[],none⟩] false) .ret) .skip)) slrest2 := by kernel_rfl
set_option maxRecDepth 1000000 in
theorem slrest2_eq : slrest2 = .seq (Code.region 3 slo false) .ret := by kernel_rfl
theorem hL_take {P : Program} {ops : Array Oper} {Q : Exit → Act → World → Prop} {rest : List Nat} {i : Nat} {o : Oper} {a : Act} {w : World} {v : Value} (ho : ops[i]? = some o) (hw : Region.wanted o (yielded ops a.tmps) = true) (hv : (execOp a.eval o).run P w = .ok (.value v) w) (h : Hid (wpOps P ops Q rest (a.put o.dst v) w)) : Hid (wpOps P ops Q (i :: rest) a w) := hidMk (opsL_take ho hw hv h.out)
theorem hL_skip {P : Program} {ops : Array Oper} {Q : Exit → Act → World → Prop} {a : Act} {w : World} {i : Nat} {rest : List Nat} {o : Oper} (ho : ops[i]? = some o) (hw : Region.wanted o (yielded ops a.tmps) = false) (h : Hid (wpOps P ops Q rest (a.put o.dst undef) w)) : Hid (wpOps P ops Q (i :: rest) a w) := hidMk (opsL_skip ho hw h.out)
theorem hL_skipD {P : Program} {ops : Array Oper} {Q : Exit → Act → World → Prop} {a : Act} {w : World} {i : Nat} {rest : List Nat} (d : Option Nat) (ho : (ops[i]?.map fun o => (o.dst,Region.wanted o (yielded ops a.tmps))) = some (d,false)) (h : Hid (wpOps P ops Q rest (a.put d undef) w)) : Hid (wpOps P ops Q (i :: rest) a w) := by
  cases hq : ops[i]? with
  | none => rw [hq] at ho; cases ho
  | some o =>
    rw [hq] at ho
    simp only [Option.map_some,Option.some.injEq,Prod.mk.injEq] at ho
    obtain ⟨rfl,h2⟩ := ho
    exact hL_skip hq h2 h
theorem opsL_row {P : Program} {ops : Array Oper} {Q : Exit → Act → World → Prop} {rest : List Nat} {i : Nat} {o : Oper} {a : Act} {w : World} (ho : ops[i]? = some o) (hw : Region.wanted o (yielded ops a.tmps) = true) (ty : TypeId) (x : Operand) (hop : o.op = .load ty x)
    (g : Nat) (cs : Array Value) (hx : a.eval x = .pointer (some ⟨g,0,none⟩)) (t : TypeId) (hg : Bk w g t cs) {fs : Array Field} (hu : P.underlying ty = some (.struct fs)) (hi : (P.info? ty).map (·.size) = some cs.size) (h : wpOps P ops Q rest (a.put o.dst (.agg cs)) w) : wpOps P ops Q (i :: rest) a w :=
  opsL_take ho hw (by
    unfold execOp
    simp only [hop,hx,Instr.loadAt,Instr.sureAddr,Sem.run_bind,Sem.run_pure,Result.andThen_ok,run_loadVar_row w g _ ty cs _ _ hg hu rfl hi]) h
set_option maxHeartbeats 400000 in
set_option maxRecDepth 1000000 in
theorem sl_s1 {G : Jb} {sa : Option Addr} {sn sc : Nat} {w0 w : World} {g1 : Nat} {Q : Exit → Act → World → Prop} {u0 u2 u3 u4 u5 u6 u7 u8 u9 A1 A2 A3 A4 A5 A6 A7 A8 A9 Aa Ab Ac Ad Ae Af Ag Ah Ai Aj Ak Al Am An Ao Ap Aq Ar As At Au Av Aw Ax Ay Az C0 C1 C2 C3 C4 : Value} (hS : NS G sa sn sc w0 g1 w) (hK : ∀ (u0 u2 u3 u4 u5 u6 u7 u8 u9 A1 A2 A3 A4 A5 A6 A7 A8 A9 Aa Ac Ad Ae Af Ag Ah Ai Aj Ak Al Am An Ao Ap Aq Ar As At Au Av Aw Ax Ay Az C0 C1 C2 C3 C4 : Value) (b : Bool),Hid (wpOps Try.prog slo Q [15,16,17,18,19,20,21,22,23,24,25,26,27,28,29,30,31,32,33,34,35,36,37,38,39,40,41,42,43,44] ⟨#[u0,(.pointer (some ⟨g1,0,none⟩)),u2,u3,u4,u5,u6,u7,u8,u9,(.bool true),A1,A2,A3,A4,A5,A6,A7,A8,A9,Aa,(.bool b),Ac,Ad,Ae,Af,Ag,Ah,Ai,Aj,Ak,Al,Am,An,Ao,Ap,Aq,Ar,As,At,Au,Av,Aw,Ax,Ay,Az,C0,C1,C2,C3,C4],[]⟩ w)) : Hid (wpOps Try.prog slo Q [4,5,6,7,8,9,10,11,12,13,14,15,16,17,18,19,20,21,22,23,24,25,26,27,28,29,30,31,32,33,34,35,36,37,38,39,40,41,42,43,44] ⟨#[u0,(.pointer (some ⟨g1,0,none⟩)),u2,u3,u4,u5,u6,u7,u8,u9,(.bool true),A1,A2,A3,A4,A5,A6,A7,A8,A9,Aa,Ab,Ac,Ad,Ae,Af,Ag,Ah,Ai,Aj,Ak,Al,Am,An,Ao,Ap,Aq,Ar,As,At,Au,Av,Aw,Ax,Ay,Az,C0,C1,C2,C3,C4],[]⟩ w) := by
  refine hL_take (o := ⟨some 11,.fieldAddr 30 (.tmp 1) 0,0,"law.go:16",#[⟨3,.guard⟩],some (3,true)⟩) (v := ?_) (by kernel_rfl) (by kernel_rfl) ?_ ?_
  rotate_left
  · (skip; go_simp <;> with_reducible rfl)
  (try simp only [Act.put,aT,aZ,aS])
  refine hL_take (o := ⟨some 12,.fieldAddr 25 (.tmp 11) 0,0,"law.go:16",#[⟨4,.data⟩,⟨3,.guard⟩],some (3,true)⟩) (v := ?_) (by kernel_rfl) (by kernel_rfl) ?_ ?_
  rotate_left
  · (skip; go_simp <;> with_reducible rfl)
  (try simp only [Act.put,aT,aZ,aS])
  refine hL_take (o := ⟨some 13,.fieldAddr 23 (.tmp 12) 1,0,"law.go:16",#[⟨5,.data⟩,⟨3,.guard⟩],some (3,true)⟩) (v := ?_) (by kernel_rfl) (by kernel_rfl) ?_ ?_
  rotate_left
  · (skip; go_simp <;> with_reducible rfl)
  (try simp only [Act.put,aT,aZ,aS])
  refine hL_take (o := ⟨some 14,.load 3 (.tmp 13),3,"law.go:16",#[⟨6,.data⟩,⟨3,.guard⟩],some (3,true)⟩) (v := ?_) (by kernel_rfl) (by kernel_rfl) ?_ ?_
  rotate_left
  · ((have dd := hS.job.at_ 1 (.int .i64 G.p2) rfl); go_simp <;> with_reducible rfl)
  (try simp only [Act.put,aT,aZ,aS])
  refine hL_take (o := ⟨some 15,.fieldAddr 30 (.tmp 1) 0,0,"law.go:16",#[⟨3,.guard⟩],some (3,true)⟩) (v := ?_) (by kernel_rfl) (by kernel_rfl) ?_ ?_
  rotate_left
  · (skip; go_simp <;> with_reducible rfl)
  (try simp only [Act.put,aT,aZ,aS])
  refine hL_take (o := ⟨some 16,.fieldAddr 25 (.tmp 15) 0,0,"law.go:16",#[⟨8,.data⟩,⟨3,.guard⟩],some (3,true)⟩) (v := ?_) (by kernel_rfl) (by kernel_rfl) ?_ ?_
  rotate_left
  · (skip; go_simp <;> with_reducible rfl)
  (try simp only [Act.put,aT,aZ,aS])
  refine hL_take (o := ⟨some 17,.fieldAddr 23 (.tmp 16) 0,0,"law.go:16",#[⟨9,.data⟩,⟨3,.guard⟩],some (3,true)⟩) (v := ?_) (by kernel_rfl) (by kernel_rfl) ?_ ?_
  rotate_left
  · (skip; go_simp <;> with_reducible rfl)
  (try simp only [Act.put,aT,aZ,aS])
  refine hL_take (o := ⟨some 18,.load 3 (.tmp 17),3,"law.go:16",#[⟨10,.data⟩,⟨3,.guard⟩],some (3,true)⟩) (v := ?_) (by kernel_rfl) (by kernel_rfl) ?_ ?_
  rotate_left
  · ((have dd := hS.job.at_ 0 (.int .i64 G.p1) rfl); go_simp <;> with_reducible rfl)
  (try simp only [Act.put,aT,aZ,aS])
  refine hL_take (o := ⟨some 19,.binOp .sub 3 (.tmp 14) (.tmp 18) 3,3,"law.go:16",#[⟨7,.data⟩,⟨11,.data⟩,⟨3,.guard⟩],some (3,true)⟩) (v := ?_) (by kernel_rfl) (by kernel_rfl) ?_ ?_
  rotate_left
  · (skip; go_simp <;> with_reducible rfl)
  (try simp only [Act.put,aT,aZ,aS])
  refine hL_take (o := ⟨some 20,.binOp .gtr 3 (.tmp 19) (.const (.int .i64 8)) 3,4,"law.go:16",#[⟨12,.data⟩,⟨3,.guard⟩],some (3,true)⟩) (v := ?_) (by kernel_rfl) (by kernel_rfl) ?_ ?_
  rotate_left
  · (skip; go_simp <;> with_reducible rfl)
  (try simp only [Act.put,aT,aZ,aS])
  refine hL_take (o := ⟨some 21,.move (.tmp 20),4,"law.go:16",#[⟨13,.data⟩,⟨3,.chain⟩,⟨3,.guard⟩],some (3,true)⟩) (v := ?_) (by kernel_rfl) (by kernel_rfl) ?_ ?_
  rotate_left
  · (skip; go_simp <;> with_reducible rfl)
  (try simp only [Act.put,aT,aZ,aS])
  exact hK _ _ _ _ _ _ _ _ _ _ _ _ _ _ _ _ _ _ _ _ _ _ _ _ _ _ _ _ _ _ _ _ _ _ _ _ _ _ _ _ _ _ _ _ _ _ _ _ _ 
set_option maxHeartbeats 400000 in
set_option maxRecDepth 1000000 in
theorem sl_s2_true {G : Jb} {sa : Option Addr} {sn sc : Nat} {w0 w : World} {g1 : Nat} {b1 : Bool} {Q : Exit → Act → World → Prop} {u0 u2 u3 u4 u5 u6 u7 u8 u9 A1 A2 A3 A4 A5 A6 A7 A8 A9 Aa Ac Ad Ae Af Ag Ah Ai Aj Ak Al Am An Ao Ap Aq Ar As At Au Av Aw Ax Ay Az C0 C1 C2 C3 C4 : Value} (hS : NS G sa sn sc w0 g1 w) (hb : b1 = true) (hK : ∀ (u0 u2 u3 u4 u5 u6 u7 u8 u9 A1 A2 A3 A4 A5 A6 A7 A8 A9 Aa Ab Ac Ad Ae Af Ag Ah Ai Aj Ak Al Am Ao Ap Aq Ar As At Au Av Aw Ax Ay Az C0 C1 C2 C3 C4 : Value) (b : Bool),Hid (wpOps Try.prog slo Q [27,28,29,30,31,32,33,34,35,36,37,38,39,40,41,42,43,44] ⟨#[u0,(.pointer (some ⟨g1,0,none⟩)),u2,u3,u4,u5,u6,u7,u8,u9,(.bool true),A1,A2,A3,A4,A5,A6,A7,A8,A9,Aa,Ab,Ac,Ad,Ae,Af,Ag,Ah,Ai,Aj,Ak,Al,Am,(.bool b),Ao,Ap,Aq,Ar,As,At,Au,Av,Aw,Ax,Ay,Az,C0,C1,C2,C3,C4],[]⟩ w)) : Hid (wpOps Try.prog slo Q [15,16,17,18,19,20,21,22,23,24,25,26,27,28,29,30,31,32,33,34,35,36,37,38,39,40,41,42,43,44] ⟨#[u0,(.pointer (some ⟨g1,0,none⟩)),u2,u3,u4,u5,u6,u7,u8,u9,(.bool true),A1,A2,A3,A4,A5,A6,A7,A8,A9,Aa,(.bool b1),Ac,Ad,Ae,Af,Ag,Ah,Ai,Aj,Ak,Al,Am,An,Ao,Ap,Aq,Ar,As,At,Au,Av,Aw,Ax,Ay,Az,C0,C1,C2,C3,C4],[]⟩ w) := by
  have hz := fun a rest => @hL_skipD Try.prog slo Q a w 15 rest (some 22)
  refine hz _ _ ?_ ?_
  · subst hb
    kernel_rfl
  clear hz
  (try simp only [Act.put,aT,aZ,aS])
  have hz := fun a rest => @hL_skipD Try.prog slo Q a w 16 rest (some 23)
  refine hz _ _ ?_ ?_
  · subst hb
    kernel_rfl
  clear hz
  (try simp only [Act.put,aT,aZ,aS])
  have hz := fun a rest => @hL_skipD Try.prog slo Q a w 17 rest (some 24)
  refine hz _ _ ?_ ?_
  · subst hb
    kernel_rfl
  clear hz
  (try simp only [Act.put,aT,aZ,aS])
  have hz := fun a rest => @hL_skipD Try.prog slo Q a w 18 rest (some 25)
  refine hz _ _ ?_ ?_
  · subst hb
    kernel_rfl
  clear hz
  (try simp only [Act.put,aT,aZ,aS])
  have hz := fun a rest => @hL_skipD Try.prog slo Q a w 19 rest (some 26)
  refine hz _ _ ?_ ?_
  · subst hb
    kernel_rfl
  clear hz
  (try simp only [Act.put,aT,aZ,aS])
  have hz := fun a rest => @hL_skipD Try.prog slo Q a w 20 rest (some 27)
  refine hz _ _ ?_ ?_
  · subst hb
    kernel_rfl
  clear hz
  (try simp only [Act.put,aT,aZ,aS])
  have hz := fun a rest => @hL_skipD Try.prog slo Q a w 21 rest (some 28)
  refine hz _ _ ?_ ?_
  · subst hb
    kernel_rfl
  clear hz
  (try simp only [Act.put,aT,aZ,aS])
  have hz := fun a rest => @hL_skipD Try.prog slo Q a w 22 rest (some 29)
  refine hz _ _ ?_ ?_
  · subst hb
    kernel_rfl
  clear hz
  (try simp only [Act.put,aT,aZ,aS])
  have hz := fun a rest => @hL_skipD Try.prog slo Q a w 23 rest (some 30)
  refine hz _ _ ?_ ?_
  · subst hb
    kernel_rfl
  clear hz
  (try simp only [Act.put,aT,aZ,aS])
  have hz := fun a rest => @hL_skipD Try.prog slo Q a w 24 rest (some 31)
  refine hz _ _ ?_ ?_
  · subst hb
    kernel_rfl
  clear hz
  (try simp only [Act.put,aT,aZ,aS])
  refine hL_take (o := ⟨some 32,.pick (.tmp 21) (.const (.bool true)) (.tmp 31),4,"law.go:16",#[⟨14,.data⟩,⟨24,.data⟩,⟨3,.guard⟩],some (3,true)⟩) (v := .bool b1) (by kernel_rfl) (by kernel_rfl) ?_ ?_
  · subst hb
    (go_simp <;> with_reducible rfl)
  (try simp only [Act.put,aT,aZ,aS])
  refine hL_take (o := ⟨some 33,.move (.tmp 32),4,"law.go:16",#[⟨25,.data⟩,⟨14,.chain⟩,⟨3,.guard⟩],some (3,true)⟩) (v := .bool b1) (by kernel_rfl) (by kernel_rfl) ?_ ?_
  · subst hb
    (go_simp <;> with_reducible rfl)
  (try simp only [Act.put,aT,aZ,aS])
  exact hK _ _ _ _ _ _ _ _ _ _ _ _ _ _ _ _ _ _ _ _ _ _ _ _ _ _ _ _ _ _ _ _ _ _ _ _ _ _ _ _ _ _ _ _ _ _ _ _ _ 
set_option maxHeartbeats 400000 in
set_option maxRecDepth 1000000 in
theorem sl_s2_false {G : Jb} {sa : Option Addr} {sn sc : Nat} {w0 w : World} {g1 : Nat} {Q : Exit → Act → World → Prop} {u0 u2 u3 u4 u5 u6 u7 u8 u9 A1 A2 A3 A4 A5 A6 A7 A8 A9 Aa Ac Ad Ae Af Ag Ah Ai Aj Ak Al Am An Ao Ap Aq Ar As At Au Av Aw Ax Ay Az C0 C1 C2 C3 C4 : Value} (hS : NS G sa sn sc w0 g1 w) (hK : ∀ (u0 u2 u3 u4 u5 u6 u7 u8 u9 A1 A2 A3 A4 A5 A6 A7 A8 A9 Aa Ab Ac Ad Ae Af Ag Ah Ai Aj Ak Al Am Ao Ap Aq Ar As At Au Av Aw Ax Ay Az C0 C1 C2 C3 C4 : Value) (b : Bool),Hid (wpOps Try.prog slo Q [27,28,29,30,31,32,33,34,35,36,37,38,39,40,41,42,43,44] ⟨#[u0,(.pointer (some ⟨g1,0,none⟩)),u2,u3,u4,u5,u6,u7,u8,u9,(.bool true),A1,A2,A3,A4,A5,A6,A7,A8,A9,Aa,Ab,Ac,Ad,Ae,Af,Ag,Ah,Ai,Aj,Ak,Al,Am,(.bool b),Ao,Ap,Aq,Ar,As,At,Au,Av,Aw,Ax,Ay,Az,C0,C1,C2,C3,C4],[]⟩ w)) : Hid (wpOps Try.prog slo Q [15,16,17,18,19,20,21,22,23,24,25,26,27,28,29,30,31,32,33,34,35,36,37,38,39,40,41,42,43,44] ⟨#[u0,(.pointer (some ⟨g1,0,none⟩)),u2,u3,u4,u5,u6,u7,u8,u9,(.bool true),A1,A2,A3,A4,A5,A6,A7,A8,A9,Aa,(.bool false),Ac,Ad,Ae,Af,Ag,Ah,Ai,Aj,Ak,Al,Am,An,Ao,Ap,Aq,Ar,As,At,Au,Av,Aw,Ax,Ay,Az,C0,C1,C2,C3,C4],[]⟩ w) := by
  refine hL_take (o := ⟨some 22,.fieldAddr 30 (.tmp 1) 1,0,"law.go:16",#[⟨14,.guard⟩],some (14,false)⟩) (v := ?_) (by kernel_rfl) (by kernel_rfl) ?_ ?_
  rotate_left
  · (skip; go_simp <;> with_reducible rfl)
  (try simp only [Act.put,aT,aZ,aS])
  refine hL_take (o := ⟨some 23,.fieldAddr 27 (.tmp 22) 0,0,"law.go:16",#[⟨15,.data⟩,⟨14,.guard⟩],some (14,false)⟩) (v := ?_) (by kernel_rfl) (by kernel_rfl) ?_ ?_
  rotate_left
  · (skip; go_simp <;> with_reducible rfl)
  (try simp only [Act.put,aT,aZ,aS])
  refine hL_take (o := ⟨some 24,.fieldAddr 23 (.tmp 23) 1,0,"law.go:16",#[⟨16,.data⟩,⟨14,.guard⟩],some (14,false)⟩) (v := ?_) (by kernel_rfl) (by kernel_rfl) ?_ ?_
  rotate_left
  · (skip; go_simp <;> with_reducible rfl)
  (try simp only [Act.put,aT,aZ,aS])
  refine hL_take (o := ⟨some 25,.load 3 (.tmp 24),3,"law.go:16",#[⟨17,.data⟩,⟨14,.guard⟩],some (14,false)⟩) (v := ?_) (by kernel_rfl) (by kernel_rfl) ?_ ?_
  rotate_left
  · ((have dd := hS.job.at_ 7 (.int .i64 G.u2) rfl); go_simp <;> with_reducible rfl)
  (try simp only [Act.put,aT,aZ,aS])
  refine hL_take (o := ⟨some 26,.fieldAddr 30 (.tmp 1) 1,0,"law.go:16",#[⟨14,.guard⟩],some (14,false)⟩) (v := ?_) (by kernel_rfl) (by kernel_rfl) ?_ ?_
  rotate_left
  · (skip; go_simp <;> with_reducible rfl)
  (try simp only [Act.put,aT,aZ,aS])
  refine hL_take (o := ⟨some 27,.fieldAddr 27 (.tmp 26) 0,0,"law.go:16",#[⟨19,.data⟩,⟨14,.guard⟩],some (14,false)⟩) (v := ?_) (by kernel_rfl) (by kernel_rfl) ?_ ?_
  rotate_left
  · (skip; go_simp <;> with_reducible rfl)
  (try simp only [Act.put,aT,aZ,aS])
  refine hL_take (o := ⟨some 28,.fieldAddr 23 (.tmp 27) 0,0,"law.go:16",#[⟨20,.data⟩,⟨14,.guard⟩],some (14,false)⟩) (v := ?_) (by kernel_rfl) (by kernel_rfl) ?_ ?_
  rotate_left
  · (skip; go_simp <;> with_reducible rfl)
  (try simp only [Act.put,aT,aZ,aS])
  refine hL_take (o := ⟨some 29,.load 3 (.tmp 28),3,"law.go:16",#[⟨21,.data⟩,⟨14,.guard⟩],some (14,false)⟩) (v := ?_) (by kernel_rfl) (by kernel_rfl) ?_ ?_
  rotate_left
  · ((have dd := hS.job.at_ 6 (.int .i64 G.u1) rfl); go_simp <;> with_reducible rfl)
  (try simp only [Act.put,aT,aZ,aS])
  refine hL_take (o := ⟨some 30,.binOp .sub 3 (.tmp 25) (.tmp 29) 3,3,"law.go:16",#[⟨18,.data⟩,⟨22,.data⟩,⟨14,.guard⟩],some (14,false)⟩) (v := ?_) (by kernel_rfl) (by kernel_rfl) ?_ ?_
  rotate_left
  · (skip; go_simp <;> with_reducible rfl)
  (try simp only [Act.put,aT,aZ,aS])
  refine hL_take (o := ⟨some 31,.binOp .gtr 3 (.tmp 30) (.const (.int .i64 3)) 3,4,"law.go:16",#[⟨23,.data⟩,⟨14,.guard⟩],some (14,false)⟩) (v := ?_) (by kernel_rfl) (by kernel_rfl) ?_ ?_
  rotate_left
  · (skip; go_simp <;> with_reducible rfl)
  (try simp only [Act.put,aT,aZ,aS])
  refine hL_take (o := ⟨some 32,.pick (.tmp 21) (.const (.bool true)) (.tmp 31),4,"law.go:16",#[⟨14,.data⟩,⟨24,.data⟩,⟨3,.guard⟩],some (3,true)⟩) (v := ?_) (by kernel_rfl) (by kernel_rfl) ?_ ?_
  rotate_left
  · (skip; go_simp <;> with_reducible rfl)
  (try simp only [Act.put,aT,aZ,aS])
  refine hL_take (o := ⟨some 33,.move (.tmp 32),4,"law.go:16",#[⟨25,.data⟩,⟨14,.chain⟩,⟨3,.guard⟩],some (3,true)⟩) (v := ?_) (by kernel_rfl) (by kernel_rfl) ?_ ?_
  rotate_left
  · (skip; go_simp <;> with_reducible rfl)
  (try simp only [Act.put,aT,aZ,aS])
  exact hK _ _ _ _ _ _ _ _ _ _ _ _ _ _ _ _ _ _ _ _ _ _ _ _ _ _ _ _ _ _ _ _ _ _ _ _ _ _ _ _ _ _ _ _ _ _ _ _ _ 
set_option maxHeartbeats 400000 in
set_option maxRecDepth 1000000 in
theorem sl_s2 {G : Jb} {sa : Option Addr} {sn sc : Nat} {w0 w : World} {g1 : Nat} {b0 : Bool} {Q : Exit → Act → World → Prop} {u0 u2 u3 u4 u5 u6 u7 u8 u9 A1 A2 A3 A4 A5 A6 A7 A8 A9 Aa Ac Ad Ae Af Ag Ah Ai Aj Ak Al Am An Ao Ap Aq Ar As At Au Av Aw Ax Ay Az C0 C1 C2 C3 C4 : Value} (hS : NS G sa sn sc w0 g1 w) (hK : ∀ (u0 u2 u3 u4 u5 u6 u7 u8 u9 A1 A2 A3 A4 A5 A6 A7 A8 A9 Aa Ab Ac Ad Ae Af Ag Ah Ai Aj Ak Al Am Ao Ap Aq Ar As At Au Av Aw Ax Ay Az C0 C1 C2 C3 C4 : Value) (b : Bool),Hid (wpOps Try.prog slo Q [27,28,29,30,31,32,33,34,35,36,37,38,39,40,41,42,43,44] ⟨#[u0,(.pointer (some ⟨g1,0,none⟩)),u2,u3,u4,u5,u6,u7,u8,u9,(.bool true),A1,A2,A3,A4,A5,A6,A7,A8,A9,Aa,Ab,Ac,Ad,Ae,Af,Ag,Ah,Ai,Aj,Ak,Al,Am,(.bool b),Ao,Ap,Aq,Ar,As,At,Au,Av,Aw,Ax,Ay,Az,C0,C1,C2,C3,C4],[]⟩ w)) : Hid (wpOps Try.prog slo Q [15,16,17,18,19,20,21,22,23,24,25,26,27,28,29,30,31,32,33,34,35,36,37,38,39,40,41,42,43,44] ⟨#[u0,(.pointer (some ⟨g1,0,none⟩)),u2,u3,u4,u5,u6,u7,u8,u9,(.bool true),A1,A2,A3,A4,A5,A6,A7,A8,A9,Aa,(.bool b0),Ac,Ad,Ae,Af,Ag,Ah,Ai,Aj,Ak,Al,Am,An,Ao,Ap,Aq,Ar,As,At,Au,Av,Aw,Ax,Ay,Az,C0,C1,C2,C3,C4],[]⟩ w) := by
  by_cases h : b0 = true
  · exact sl_s2_true hS h hK
  · have h : b0 = false := by simpa using h
    subst h
    exact sl_s2_false hS hK
set_option maxHeartbeats 400000 in
set_option maxRecDepth 1000000 in
theorem sl_s3_true {G : Jb} {sa : Option Addr} {sn sc : Nat} {w0 w : World} {g1 : Nat} {b1 : Bool} {Q : Exit → Act → World → Prop} {u0 u2 u3 u4 u5 u6 u7 u8 u9 A1 A2 A3 A4 A5 A6 A7 A8 A9 Aa Ab Ac Ad Ae Af Ag Ah Ai Aj Ak Al Am Ao Ap Aq Ar As At Au Av Aw Ax Ay Az C0 C1 C2 C3 C4 : Value} (hS : NS G sa sn sc w0 g1 w) (hb : b1 = true) (hK : ∀ (u0 u2 u3 u4 u5 u6 u7 u8 u9 A1 A2 A3 A4 A5 A6 A7 A8 A9 Aa Ab Ac Ad Ae Af Ag Ah Ai Aj Ak Al Am An Ao Ap Aq Ar As At Au Av Aw Ax Ay C0 C1 C2 C3 C4 : Value) (b : Bool),Hid (wpOps Try.prog slo Q [39,40,41,42,43,44] ⟨#[u0,(.pointer (some ⟨g1,0,none⟩)),u2,u3,u4,u5,u6,u7,u8,u9,(.bool true),A1,A2,A3,A4,A5,A6,A7,A8,A9,Aa,Ab,Ac,Ad,Ae,Af,Ag,Ah,Ai,Aj,Ak,Al,Am,An,Ao,Ap,Aq,Ar,As,At,Au,Av,Aw,Ax,Ay,(.bool b),C0,C1,C2,C3,C4],[]⟩ w)) : Hid (wpOps Try.prog slo Q [27,28,29,30,31,32,33,34,35,36,37,38,39,40,41,42,43,44] ⟨#[u0,(.pointer (some ⟨g1,0,none⟩)),u2,u3,u4,u5,u6,u7,u8,u9,(.bool true),A1,A2,A3,A4,A5,A6,A7,A8,A9,Aa,Ab,Ac,Ad,Ae,Af,Ag,Ah,Ai,Aj,Ak,Al,Am,(.bool b1),Ao,Ap,Aq,Ar,As,At,Au,Av,Aw,Ax,Ay,Az,C0,C1,C2,C3,C4],[]⟩ w) := by
  have hz := fun a rest => @hL_skipD Try.prog slo Q a w 27 rest (some 34)
  refine hz _ _ ?_ ?_
  · subst hb
    kernel_rfl
  clear hz
  (try simp only [Act.put,aT,aZ,aS])
  have hz := fun a rest => @hL_skipD Try.prog slo Q a w 28 rest (some 35)
  refine hz _ _ ?_ ?_
  · subst hb
    kernel_rfl
  clear hz
  (try simp only [Act.put,aT,aZ,aS])
  have hz := fun a rest => @hL_skipD Try.prog slo Q a w 29 rest (some 36)
  refine hz _ _ ?_ ?_
  · subst hb
    kernel_rfl
  clear hz
  (try simp only [Act.put,aT,aZ,aS])
  have hz := fun a rest => @hL_skipD Try.prog slo Q a w 30 rest (some 37)
  refine hz _ _ ?_ ?_
  · subst hb
    kernel_rfl
  clear hz
  (try simp only [Act.put,aT,aZ,aS])
  have hz := fun a rest => @hL_skipD Try.prog slo Q a w 31 rest (some 38)
  refine hz _ _ ?_ ?_
  · subst hb
    kernel_rfl
  clear hz
  (try simp only [Act.put,aT,aZ,aS])
  have hz := fun a rest => @hL_skipD Try.prog slo Q a w 32 rest (some 39)
  refine hz _ _ ?_ ?_
  · subst hb
    kernel_rfl
  clear hz
  (try simp only [Act.put,aT,aZ,aS])
  have hz := fun a rest => @hL_skipD Try.prog slo Q a w 33 rest (some 40)
  refine hz _ _ ?_ ?_
  · subst hb
    kernel_rfl
  clear hz
  (try simp only [Act.put,aT,aZ,aS])
  have hz := fun a rest => @hL_skipD Try.prog slo Q a w 34 rest (some 41)
  refine hz _ _ ?_ ?_
  · subst hb
    kernel_rfl
  clear hz
  (try simp only [Act.put,aT,aZ,aS])
  have hz := fun a rest => @hL_skipD Try.prog slo Q a w 35 rest (some 42)
  refine hz _ _ ?_ ?_
  · subst hb
    kernel_rfl
  clear hz
  (try simp only [Act.put,aT,aZ,aS])
  have hz := fun a rest => @hL_skipD Try.prog slo Q a w 36 rest (some 43)
  refine hz _ _ ?_ ?_
  · subst hb
    kernel_rfl
  clear hz
  (try simp only [Act.put,aT,aZ,aS])
  refine hL_take (o := ⟨some 44,.pick (.tmp 33) (.const (.bool true)) (.tmp 43),4,"law.go:16",#[⟨26,.data⟩,⟨36,.data⟩,⟨3,.guard⟩],some (3,true)⟩) (v := .bool b1) (by kernel_rfl) (by kernel_rfl) ?_ ?_
  · subst hb
    (go_simp <;> with_reducible rfl)
  (try simp only [Act.put,aT,aZ,aS])
  refine hL_take (o := ⟨some 45,.move (.tmp 44),4,"law.go:16",#[⟨37,.data⟩,⟨26,.chain⟩,⟨3,.guard⟩],some (3,true)⟩) (v := .bool b1) (by kernel_rfl) (by kernel_rfl) ?_ ?_
  · subst hb
    (go_simp <;> with_reducible rfl)
  (try simp only [Act.put,aT,aZ,aS])
  exact hK _ _ _ _ _ _ _ _ _ _ _ _ _ _ _ _ _ _ _ _ _ _ _ _ _ _ _ _ _ _ _ _ _ _ _ _ _ _ _ _ _ _ _ _ _ _ _ _ _ 
set_option maxHeartbeats 400000 in
set_option maxRecDepth 1000000 in
theorem sl_s3_false {G : Jb} {sa : Option Addr} {sn sc : Nat} {w0 w : World} {g1 : Nat} {Q : Exit → Act → World → Prop} {u0 u2 u3 u4 u5 u6 u7 u8 u9 A1 A2 A3 A4 A5 A6 A7 A8 A9 Aa Ab Ac Ad Ae Af Ag Ah Ai Aj Ak Al Am Ao Ap Aq Ar As At Au Av Aw Ax Ay Az C0 C1 C2 C3 C4 : Value} (hS : NS G sa sn sc w0 g1 w) (hK : ∀ (u0 u2 u3 u4 u5 u6 u7 u8 u9 A1 A2 A3 A4 A5 A6 A7 A8 A9 Aa Ab Ac Ad Ae Af Ag Ah Ai Aj Ak Al Am An Ao Ap Aq Ar As At Au Av Aw Ax Ay C0 C1 C2 C3 C4 : Value) (b : Bool),Hid (wpOps Try.prog slo Q [39,40,41,42,43,44] ⟨#[u0,(.pointer (some ⟨g1,0,none⟩)),u2,u3,u4,u5,u6,u7,u8,u9,(.bool true),A1,A2,A3,A4,A5,A6,A7,A8,A9,Aa,Ab,Ac,Ad,Ae,Af,Ag,Ah,Ai,Aj,Ak,Al,Am,An,Ao,Ap,Aq,Ar,As,At,Au,Av,Aw,Ax,Ay,(.bool b),C0,C1,C2,C3,C4],[]⟩ w)) : Hid (wpOps Try.prog slo Q [27,28,29,30,31,32,33,34,35,36,37,38,39,40,41,42,43,44] ⟨#[u0,(.pointer (some ⟨g1,0,none⟩)),u2,u3,u4,u5,u6,u7,u8,u9,(.bool true),A1,A2,A3,A4,A5,A6,A7,A8,A9,Aa,Ab,Ac,Ad,Ae,Af,Ag,Ah,Ai,Aj,Ak,Al,Am,(.bool false),Ao,Ap,Aq,Ar,As,At,Au,Av,Aw,Ax,Ay,Az,C0,C1,C2,C3,C4],[]⟩ w) := by
  refine hL_take (o := ⟨some 34,.fieldAddr 30 (.tmp 1) 1,0,"law.go:16",#[⟨26,.guard⟩],some (26,false)⟩) (v := ?_) (by kernel_rfl) (by kernel_rfl) ?_ ?_
  rotate_left
  · (skip; go_simp <;> with_reducible rfl)
  (try simp only [Act.put,aT,aZ,aS])
  refine hL_take (o := ⟨some 35,.fieldAddr 27 (.tmp 34) 1,0,"law.go:16",#[⟨27,.data⟩,⟨26,.guard⟩],some (26,false)⟩) (v := ?_) (by kernel_rfl) (by kernel_rfl) ?_ ?_
  rotate_left
  · (skip; go_simp <;> with_reducible rfl)
  (try simp only [Act.put,aT,aZ,aS])
  refine hL_take (o := ⟨some 36,.fieldAddr 23 (.tmp 35) 1,0,"law.go:16",#[⟨28,.data⟩,⟨26,.guard⟩],some (26,false)⟩) (v := ?_) (by kernel_rfl) (by kernel_rfl) ?_ ?_
  rotate_left
  · (skip; go_simp <;> with_reducible rfl)
  (try simp only [Act.put,aT,aZ,aS])
  refine hL_take (o := ⟨some 37,.load 3 (.tmp 36),3,"law.go:16",#[⟨29,.data⟩,⟨26,.guard⟩],some (26,false)⟩) (v := ?_) (by kernel_rfl) (by kernel_rfl) ?_ ?_
  rotate_left
  · ((have dd := hS.job.at_ 9 (.int .i64 G.d2) rfl); go_simp <;> with_reducible rfl)
  (try simp only [Act.put,aT,aZ,aS])
  refine hL_take (o := ⟨some 38,.fieldAddr 30 (.tmp 1) 1,0,"law.go:16",#[⟨26,.guard⟩],some (26,false)⟩) (v := ?_) (by kernel_rfl) (by kernel_rfl) ?_ ?_
  rotate_left
  · (skip; go_simp <;> with_reducible rfl)
  (try simp only [Act.put,aT,aZ,aS])
  refine hL_take (o := ⟨some 39,.fieldAddr 27 (.tmp 38) 1,0,"law.go:16",#[⟨31,.data⟩,⟨26,.guard⟩],some (26,false)⟩) (v := ?_) (by kernel_rfl) (by kernel_rfl) ?_ ?_
  rotate_left
  · (skip; go_simp <;> with_reducible rfl)
  (try simp only [Act.put,aT,aZ,aS])
  refine hL_take (o := ⟨some 40,.fieldAddr 23 (.tmp 39) 0,0,"law.go:16",#[⟨32,.data⟩,⟨26,.guard⟩],some (26,false)⟩) (v := ?_) (by kernel_rfl) (by kernel_rfl) ?_ ?_
  rotate_left
  · (skip; go_simp <;> with_reducible rfl)
  (try simp only [Act.put,aT,aZ,aS])
  refine hL_take (o := ⟨some 41,.load 3 (.tmp 40),3,"law.go:16",#[⟨33,.data⟩,⟨26,.guard⟩],some (26,false)⟩) (v := ?_) (by kernel_rfl) (by kernel_rfl) ?_ ?_
  rotate_left
  · ((have dd := hS.job.at_ 8 (.int .i64 G.d1) rfl); go_simp <;> with_reducible rfl)
  (try simp only [Act.put,aT,aZ,aS])
  refine hL_take (o := ⟨some 42,.binOp .sub 3 (.tmp 37) (.tmp 41) 3,3,"law.go:16",#[⟨30,.data⟩,⟨34,.data⟩,⟨26,.guard⟩],some (26,false)⟩) (v := ?_) (by kernel_rfl) (by kernel_rfl) ?_ ?_
  rotate_left
  · (skip; go_simp <;> with_reducible rfl)
  (try simp only [Act.put,aT,aZ,aS])
  refine hL_take (o := ⟨some 43,.binOp .gtr 3 (.tmp 42) (.const (.int .i64 3)) 3,4,"law.go:16",#[⟨35,.data⟩,⟨26,.guard⟩],some (26,false)⟩) (v := ?_) (by kernel_rfl) (by kernel_rfl) ?_ ?_
  rotate_left
  · (skip; go_simp <;> with_reducible rfl)
  (try simp only [Act.put,aT,aZ,aS])
  refine hL_take (o := ⟨some 44,.pick (.tmp 33) (.const (.bool true)) (.tmp 43),4,"law.go:16",#[⟨26,.data⟩,⟨36,.data⟩,⟨3,.guard⟩],some (3,true)⟩) (v := ?_) (by kernel_rfl) (by kernel_rfl) ?_ ?_
  rotate_left
  · (skip; go_simp <;> with_reducible rfl)
  (try simp only [Act.put,aT,aZ,aS])
  refine hL_take (o := ⟨some 45,.move (.tmp 44),4,"law.go:16",#[⟨37,.data⟩,⟨26,.chain⟩,⟨3,.guard⟩],some (3,true)⟩) (v := ?_) (by kernel_rfl) (by kernel_rfl) ?_ ?_
  rotate_left
  · (skip; go_simp <;> with_reducible rfl)
  (try simp only [Act.put,aT,aZ,aS])
  exact hK _ _ _ _ _ _ _ _ _ _ _ _ _ _ _ _ _ _ _ _ _ _ _ _ _ _ _ _ _ _ _ _ _ _ _ _ _ _ _ _ _ _ _ _ _ _ _ _ _ 
set_option maxHeartbeats 400000 in
set_option maxRecDepth 1000000 in
theorem sl_s3 {G : Jb} {sa : Option Addr} {sn sc : Nat} {w0 w : World} {g1 : Nat} {b0 : Bool} {Q : Exit → Act → World → Prop} {u0 u2 u3 u4 u5 u6 u7 u8 u9 A1 A2 A3 A4 A5 A6 A7 A8 A9 Aa Ab Ac Ad Ae Af Ag Ah Ai Aj Ak Al Am Ao Ap Aq Ar As At Au Av Aw Ax Ay Az C0 C1 C2 C3 C4 : Value} (hS : NS G sa sn sc w0 g1 w) (hK : ∀ (u0 u2 u3 u4 u5 u6 u7 u8 u9 A1 A2 A3 A4 A5 A6 A7 A8 A9 Aa Ab Ac Ad Ae Af Ag Ah Ai Aj Ak Al Am An Ao Ap Aq Ar As At Au Av Aw Ax Ay C0 C1 C2 C3 C4 : Value) (b : Bool),Hid (wpOps Try.prog slo Q [39,40,41,42,43,44] ⟨#[u0,(.pointer (some ⟨g1,0,none⟩)),u2,u3,u4,u5,u6,u7,u8,u9,(.bool true),A1,A2,A3,A4,A5,A6,A7,A8,A9,Aa,Ab,Ac,Ad,Ae,Af,Ag,Ah,Ai,Aj,Ak,Al,Am,An,Ao,Ap,Aq,Ar,As,At,Au,Av,Aw,Ax,Ay,(.bool b),C0,C1,C2,C3,C4],[]⟩ w)) : Hid (wpOps Try.prog slo Q [27,28,29,30,31,32,33,34,35,36,37,38,39,40,41,42,43,44] ⟨#[u0,(.pointer (some ⟨g1,0,none⟩)),u2,u3,u4,u5,u6,u7,u8,u9,(.bool true),A1,A2,A3,A4,A5,A6,A7,A8,A9,Aa,Ab,Ac,Ad,Ae,Af,Ag,Ah,Ai,Aj,Ak,Al,Am,(.bool b0),Ao,Ap,Aq,Ar,As,At,Au,Av,Aw,Ax,Ay,Az,C0,C1,C2,C3,C4],[]⟩ w) := by
  by_cases h : b0 = true
  · exact sl_s3_true hS h hK
  · have h : b0 = false := by simpa using h
    subst h
    exact sl_s3_false hS hK
set_option maxHeartbeats 400000 in
set_option maxRecDepth 1000000 in
theorem sl_s4_true {G : Jb} {sa : Option Addr} {sn sc : Nat} {w0 w : World} {g1 : Nat} {b1 : Bool} {Q : Exit → Act → World → Prop} {u0 u2 u3 u4 u5 u6 u7 u8 u9 A1 A2 A3 A4 A5 A6 A7 A8 A9 Aa Ab Ac Ad Ae Af Ag Ah Ai Aj Ak Al Am An Ao Ap Aq Ar As At Au Av Aw Ax Ay C0 C1 C2 C3 C4 : Value} (hS : NS G sa sn sc w0 g1 w) (hb : b1 = true) (hK : ∀ (u0 u3 u4 u5 u6 u7 u8 u9 A1 A2 A3 A4 A5 A6 A7 A8 A9 Aa Ab Ac Ad Ae Af Ag Ah Ai Aj Ak Al Am An Ao Ap Aq Ar As At Au Av Aw Ax Ay Az C0 C1 C2 C3 C4 : Value) (b : Bool),Hid (wpOps Try.prog slo Q [] ⟨#[u0,(.pointer (some ⟨g1,0,none⟩)),(.bool b),u3,u4,u5,u6,u7,u8,u9,(.bool true),A1,A2,A3,A4,A5,A6,A7,A8,A9,Aa,Ab,Ac,Ad,Ae,Af,Ag,Ah,Ai,Aj,Ak,Al,Am,An,Ao,Ap,Aq,Ar,As,At,Au,Av,Aw,Ax,Ay,Az,C0,C1,C2,C3,C4],[]⟩ w)) : Hid (wpOps Try.prog slo Q [39,40,41,42,43,44] ⟨#[u0,(.pointer (some ⟨g1,0,none⟩)),u2,u3,u4,u5,u6,u7,u8,u9,(.bool true),A1,A2,A3,A4,A5,A6,A7,A8,A9,Aa,Ab,Ac,Ad,Ae,Af,Ag,Ah,Ai,Aj,Ak,Al,Am,An,Ao,Ap,Aq,Ar,As,At,Au,Av,Aw,Ax,Ay,(.bool b1),C0,C1,C2,C3,C4],[]⟩ w) := by
  have hz := fun a rest => @hL_skipD Try.prog slo Q a w 39 rest (some 46)
  refine hz _ _ ?_ ?_
  · subst hb
    kernel_rfl
  clear hz
  (try simp only [Act.put,aT,aZ,aS])
  have hz := fun a rest => @hL_skipD Try.prog slo Q a w 40 rest (some 47)
  refine hz _ _ ?_ ?_
  · subst hb
    kernel_rfl
  clear hz
  (try simp only [Act.put,aT,aZ,aS])
  have hz := fun a rest => @hL_skipD Try.prog slo Q a w 41 rest (some 48)
  refine hz _ _ ?_ ?_
  · subst hb
    kernel_rfl
  clear hz
  (try simp only [Act.put,aT,aZ,aS])
  refine hL_take (o := ⟨some 49,.pick (.tmp 45) (.const (.bool true)) (.tmp 48),4,"law.go:16",#[⟨38,.data⟩,⟨41,.data⟩,⟨3,.guard⟩],some (3,true)⟩) (v := .bool b1) (by kernel_rfl) (by kernel_rfl) ?_ ?_
  · subst hb
    (go_simp <;> with_reducible rfl)
  (try simp only [Act.put,aT,aZ,aS])
  refine hL_take (o := ⟨some 50,.pick (.tmp 10) (.tmp 49) (.const (.bool false)),4,"law.go:16",#[⟨3,.data⟩,⟨42,.data⟩],none⟩) (v := .bool b1) (by kernel_rfl) (by kernel_rfl) ?_ ?_
  · subst hb
    (go_simp <;> with_reducible rfl)
  (try simp only [Act.put,aT,aZ,aS])
  refine hL_take (o := ⟨some 2,.assign (.tmp 50),4,"law.go:16",#[⟨43,.data⟩,⟨38,.chain⟩,⟨0,.phase⟩,⟨1,.phase⟩,⟨2,.phase⟩,⟨3,.phase⟩,⟨4,.phase⟩,⟨5,.phase⟩,⟨6,.phase⟩,⟨7,.phase⟩,⟨8,.phase⟩,⟨9,.phase⟩,⟨10,.phase⟩,⟨11,.phase⟩,⟨12,.phase⟩,⟨13,.phase⟩,⟨14,.phase⟩,⟨15,.phase⟩,⟨16,.phase⟩,⟨17,.phase⟩,⟨18,.phase⟩,⟨19,.phase⟩,⟨20,.phase⟩,⟨21,.phase⟩,⟨22,.phase⟩,⟨23,.phase⟩,⟨24,.phase⟩,⟨25,.phase⟩,⟨26,.phase⟩,⟨27,.phase⟩,⟨28,.phase⟩,⟨29,.phase⟩,⟨30,.phase⟩,⟨31,.phase⟩,⟨32,.phase⟩,⟨33,.phase⟩,⟨34,.phase⟩,⟨35,.phase⟩,⟨36,.phase⟩,⟨37,.phase⟩,⟨38,.phase⟩,⟨39,.phase⟩,⟨40,.phase⟩,⟨41,.phase⟩,⟨42,.phase⟩,⟨43,.phase⟩],none⟩) (v := ?_) (by kernel_rfl) (by kernel_rfl) ?_ ?_
  rotate_left
  · (skip; go_simp <;> with_reducible rfl)
  (try simp only [Act.put,aT,aZ,aS])
  exact hK _ _ _ _ _ _ _ _ _ _ _ _ _ _ _ _ _ _ _ _ _ _ _ _ _ _ _ _ _ _ _ _ _ _ _ _ _ _ _ _ _ _ _ _ _ _ _ _ _ 
set_option maxHeartbeats 400000 in
set_option maxRecDepth 1000000 in
theorem sl_s4_false {G : Jb} {sa : Option Addr} {sn sc : Nat} {w0 w : World} {g1 : Nat} {Q : Exit → Act → World → Prop} {u0 u2 u3 u4 u5 u6 u7 u8 u9 A1 A2 A3 A4 A5 A6 A7 A8 A9 Aa Ab Ac Ad Ae Af Ag Ah Ai Aj Ak Al Am An Ao Ap Aq Ar As At Au Av Aw Ax Ay C0 C1 C2 C3 C4 : Value} (hS : NS G sa sn sc w0 g1 w) (hK : ∀ (u0 u3 u4 u5 u6 u7 u8 u9 A1 A2 A3 A4 A5 A6 A7 A8 A9 Aa Ab Ac Ad Ae Af Ag Ah Ai Aj Ak Al Am An Ao Ap Aq Ar As At Au Av Aw Ax Ay Az C0 C1 C2 C3 C4 : Value) (b : Bool),Hid (wpOps Try.prog slo Q [] ⟨#[u0,(.pointer (some ⟨g1,0,none⟩)),(.bool b),u3,u4,u5,u6,u7,u8,u9,(.bool true),A1,A2,A3,A4,A5,A6,A7,A8,A9,Aa,Ab,Ac,Ad,Ae,Af,Ag,Ah,Ai,Aj,Ak,Al,Am,An,Ao,Ap,Aq,Ar,As,At,Au,Av,Aw,Ax,Ay,Az,C0,C1,C2,C3,C4],[]⟩ w)) : Hid (wpOps Try.prog slo Q [39,40,41,42,43,44] ⟨#[u0,(.pointer (some ⟨g1,0,none⟩)),u2,u3,u4,u5,u6,u7,u8,u9,(.bool true),A1,A2,A3,A4,A5,A6,A7,A8,A9,Aa,Ab,Ac,Ad,Ae,Af,Ag,Ah,Ai,Aj,Ak,Al,Am,An,Ao,Ap,Aq,Ar,As,At,Au,Av,Aw,Ax,Ay,(.bool false),C0,C1,C2,C3,C4],[]⟩ w) := by
  refine hL_take (o := ⟨some 46,.fieldAddr 30 (.tmp 1) 4,0,"law.go:16",#[⟨38,.guard⟩],some (38,false)⟩) (v := ?_) (by kernel_rfl) (by kernel_rfl) ?_ ?_
  rotate_left
  · (skip; go_simp <;> with_reducible rfl)
  (try simp only [Act.put,aT,aZ,aS])
  refine hL_take (o := ⟨some 47,.load 3 (.tmp 46),3,"law.go:16",#[⟨39,.data⟩,⟨38,.guard⟩],some (38,false)⟩) (v := ?_) (by kernel_rfl) (by kernel_rfl) ?_ ?_
  rotate_left
  · ((have dd := hS.job.at_ 17 (.int .i64 G.me) rfl); go_simp <;> with_reducible rfl)
  (try simp only [Act.put,aT,aZ,aS])
  refine hL_take (o := ⟨some 48,.binOp .gtr 3 (.tmp 47) (.const (.int .i64 3)) 3,4,"law.go:16",#[⟨40,.data⟩,⟨38,.guard⟩],some (38,false)⟩) (v := ?_) (by kernel_rfl) (by kernel_rfl) ?_ ?_
  rotate_left
  · (skip; go_simp <;> with_reducible rfl)
  (try simp only [Act.put,aT,aZ,aS])
  refine hL_take (o := ⟨some 49,.pick (.tmp 45) (.const (.bool true)) (.tmp 48),4,"law.go:16",#[⟨38,.data⟩,⟨41,.data⟩,⟨3,.guard⟩],some (3,true)⟩) (v := ?_) (by kernel_rfl) (by kernel_rfl) ?_ ?_
  rotate_left
  · (skip; go_simp <;> with_reducible rfl)
  (try simp only [Act.put,aT,aZ,aS])
  refine hL_take (o := ⟨some 50,.pick (.tmp 10) (.tmp 49) (.const (.bool false)),4,"law.go:16",#[⟨3,.data⟩,⟨42,.data⟩],none⟩) (v := ?_) (by kernel_rfl) (by kernel_rfl) ?_ ?_
  rotate_left
  · (skip; go_simp <;> with_reducible rfl)
  (try simp only [Act.put,aT,aZ,aS])
  refine hL_take (o := ⟨some 2,.assign (.tmp 50),4,"law.go:16",#[⟨43,.data⟩,⟨38,.chain⟩,⟨0,.phase⟩,⟨1,.phase⟩,⟨2,.phase⟩,⟨3,.phase⟩,⟨4,.phase⟩,⟨5,.phase⟩,⟨6,.phase⟩,⟨7,.phase⟩,⟨8,.phase⟩,⟨9,.phase⟩,⟨10,.phase⟩,⟨11,.phase⟩,⟨12,.phase⟩,⟨13,.phase⟩,⟨14,.phase⟩,⟨15,.phase⟩,⟨16,.phase⟩,⟨17,.phase⟩,⟨18,.phase⟩,⟨19,.phase⟩,⟨20,.phase⟩,⟨21,.phase⟩,⟨22,.phase⟩,⟨23,.phase⟩,⟨24,.phase⟩,⟨25,.phase⟩,⟨26,.phase⟩,⟨27,.phase⟩,⟨28,.phase⟩,⟨29,.phase⟩,⟨30,.phase⟩,⟨31,.phase⟩,⟨32,.phase⟩,⟨33,.phase⟩,⟨34,.phase⟩,⟨35,.phase⟩,⟨36,.phase⟩,⟨37,.phase⟩,⟨38,.phase⟩,⟨39,.phase⟩,⟨40,.phase⟩,⟨41,.phase⟩,⟨42,.phase⟩,⟨43,.phase⟩],none⟩) (v := ?_) (by kernel_rfl) (by kernel_rfl) ?_ ?_
  rotate_left
  · (skip; go_simp <;> with_reducible rfl)
  (try simp only [Act.put,aT,aZ,aS])
  exact hK _ _ _ _ _ _ _ _ _ _ _ _ _ _ _ _ _ _ _ _ _ _ _ _ _ _ _ _ _ _ _ _ _ _ _ _ _ _ _ _ _ _ _ _ _ _ _ _ _ 
set_option maxHeartbeats 400000 in
set_option maxRecDepth 1000000 in
theorem sl_s4 {G : Jb} {sa : Option Addr} {sn sc : Nat} {w0 w : World} {g1 : Nat} {b0 : Bool} {Q : Exit → Act → World → Prop} {u0 u2 u3 u4 u5 u6 u7 u8 u9 A1 A2 A3 A4 A5 A6 A7 A8 A9 Aa Ab Ac Ad Ae Af Ag Ah Ai Aj Ak Al Am An Ao Ap Aq Ar As At Au Av Aw Ax Ay C0 C1 C2 C3 C4 : Value} (hS : NS G sa sn sc w0 g1 w) (hK : ∀ (u0 u3 u4 u5 u6 u7 u8 u9 A1 A2 A3 A4 A5 A6 A7 A8 A9 Aa Ab Ac Ad Ae Af Ag Ah Ai Aj Ak Al Am An Ao Ap Aq Ar As At Au Av Aw Ax Ay Az C0 C1 C2 C3 C4 : Value) (b : Bool),Hid (wpOps Try.prog slo Q [] ⟨#[u0,(.pointer (some ⟨g1,0,none⟩)),(.bool b),u3,u4,u5,u6,u7,u8,u9,(.bool true),A1,A2,A3,A4,A5,A6,A7,A8,A9,Aa,Ab,Ac,Ad,Ae,Af,Ag,Ah,Ai,Aj,Ak,Al,Am,An,Ao,Ap,Aq,Ar,As,At,Au,Av,Aw,Ax,Ay,Az,C0,C1,C2,C3,C4],[]⟩ w)) : Hid (wpOps Try.prog slo Q [39,40,41,42,43,44] ⟨#[u0,(.pointer (some ⟨g1,0,none⟩)),u2,u3,u4,u5,u6,u7,u8,u9,(.bool true),A1,A2,A3,A4,A5,A6,A7,A8,A9,Aa,Ab,Ac,Ad,Ae,Af,Ag,Ah,Ai,Aj,Ak,Al,Am,An,Ao,Ap,Aq,Ar,As,At,Au,Av,Aw,Ax,Ay,(.bool b0),C0,C1,C2,C3,C4],[]⟩ w) := by
  by_cases h : b0 = true
  · exact sl_s4_true hS h hK
  · have h : b0 = false := by simpa using h
    subst h
    exact sl_s4_false hS hK
set_option maxHeartbeats 400000 in
set_option maxRecDepth 1000000 in
theorem sl_s5 {G : Jb} {sa : Option Addr} {sn sc : Nat} {w0 w : World} {g1 : Nat} {b1 : Bool} {Q : Exit → Act → World → Prop} {u0 u2 u3 u4 u5 u6 u7 u8 u9 A1 A2 A3 A4 A5 A6 A7 A8 A9 Aa Ab Ac Ad Ae Af Ag Ah Ai Aj Ak Al Am An Ao Ap Aq Ar As At Au Av Aw Ax Ay Az C0 C1 C2 C3 C4 : Value} (hS : NS G sa sn sc w0 g1 w) (hb : b1 = false) (hK : ∀ (u0 u3 u4 u5 u6 u7 u8 u9 A0 A1 A2 A3 A4 A5 A6 A7 A8 A9 Aa Ab Ac Ad Ae Af Ag Ah Ai Aj Ak Al Am An Ao Ap Aq Ar As At Au Av Aw Ax Ay Az C0 C1 C2 C3 C4 : Value) (b : Bool),Hid (wpOps Try.prog slo Q [] ⟨#[u0,(.pointer (some ⟨g1,0,none⟩)),(.bool b),u3,u4,u5,u6,u7,u8,u9,A0,A1,A2,A3,A4,A5,A6,A7,A8,A9,Aa,Ab,Ac,Ad,Ae,Af,Ag,Ah,Ai,Aj,Ak,Al,Am,An,Ao,Ap,Aq,Ar,As,At,Au,Av,Aw,Ax,Ay,Az,C0,C1,C2,C3,C4],[]⟩ w)) : Hid (wpOps Try.prog slo Q [4,5,6,7,8,9,10,11,12,13,14,15,16,17,18,19,20,21,22,23,24,25,26,27,28,29,30,31,32,33,34,35,36,37,38,39,40,41,42,43,44] ⟨#[u0,(.pointer (some ⟨g1,0,none⟩)),u2,u3,u4,u5,u6,u7,u8,u9,(.bool b1),A1,A2,A3,A4,A5,A6,A7,A8,A9,Aa,Ab,Ac,Ad,Ae,Af,Ag,Ah,Ai,Aj,Ak,Al,Am,An,Ao,Ap,Aq,Ar,As,At,Au,Av,Aw,Ax,Ay,Az,C0,C1,C2,C3,C4],[]⟩ w) := by
  have hz := fun a rest => @hL_skipD Try.prog slo Q a w 4 rest (some 11)
  refine hz _ _ ?_ ?_
  · subst hb
    kernel_rfl
  clear hz
  (try simp only [Act.put,aT,aZ,aS])
  have hz := fun a rest => @hL_skipD Try.prog slo Q a w 5 rest (some 12)
  refine hz _ _ ?_ ?_
  · subst hb
    kernel_rfl
  clear hz
  (try simp only [Act.put,aT,aZ,aS])
  have hz := fun a rest => @hL_skipD Try.prog slo Q a w 6 rest (some 13)
  refine hz _ _ ?_ ?_
  · subst hb
    kernel_rfl
  clear hz
  (try simp only [Act.put,aT,aZ,aS])
  have hz := fun a rest => @hL_skipD Try.prog slo Q a w 7 rest (some 14)
  refine hz _ _ ?_ ?_
  · subst hb
    kernel_rfl
  clear hz
  (try simp only [Act.put,aT,aZ,aS])
  have hz := fun a rest => @hL_skipD Try.prog slo Q a w 8 rest (some 15)
  refine hz _ _ ?_ ?_
  · subst hb
    kernel_rfl
  clear hz
  (try simp only [Act.put,aT,aZ,aS])
  have hz := fun a rest => @hL_skipD Try.prog slo Q a w 9 rest (some 16)
  refine hz _ _ ?_ ?_
  · subst hb
    kernel_rfl
  clear hz
  (try simp only [Act.put,aT,aZ,aS])
  have hz := fun a rest => @hL_skipD Try.prog slo Q a w 10 rest (some 17)
  refine hz _ _ ?_ ?_
  · subst hb
    kernel_rfl
  clear hz
  (try simp only [Act.put,aT,aZ,aS])
  have hz := fun a rest => @hL_skipD Try.prog slo Q a w 11 rest (some 18)
  refine hz _ _ ?_ ?_
  · subst hb
    kernel_rfl
  clear hz
  (try simp only [Act.put,aT,aZ,aS])
  have hz := fun a rest => @hL_skipD Try.prog slo Q a w 12 rest (some 19)
  refine hz _ _ ?_ ?_
  · subst hb
    kernel_rfl
  clear hz
  (try simp only [Act.put,aT,aZ,aS])
  have hz := fun a rest => @hL_skipD Try.prog slo Q a w 13 rest (some 20)
  refine hz _ _ ?_ ?_
  · subst hb
    kernel_rfl
  clear hz
  (try simp only [Act.put,aT,aZ,aS])
  have hz := fun a rest => @hL_skipD Try.prog slo Q a w 14 rest (some 21)
  refine hz _ _ ?_ ?_
  · subst hb
    kernel_rfl
  clear hz
  (try simp only [Act.put,aT,aZ,aS])
  have hz := fun a rest => @hL_skipD Try.prog slo Q a w 15 rest (some 22)
  refine hz _ _ ?_ ?_
  · subst hb
    kernel_rfl
  clear hz
  (try simp only [Act.put,aT,aZ,aS])
  have hz := fun a rest => @hL_skipD Try.prog slo Q a w 16 rest (some 23)
  refine hz _ _ ?_ ?_
  · subst hb
    kernel_rfl
  clear hz
  (try simp only [Act.put,aT,aZ,aS])
  have hz := fun a rest => @hL_skipD Try.prog slo Q a w 17 rest (some 24)
  refine hz _ _ ?_ ?_
  · subst hb
    kernel_rfl
  clear hz
  (try simp only [Act.put,aT,aZ,aS])
  have hz := fun a rest => @hL_skipD Try.prog slo Q a w 18 rest (some 25)
  refine hz _ _ ?_ ?_
  · subst hb
    kernel_rfl
  clear hz
  (try simp only [Act.put,aT,aZ,aS])
  have hz := fun a rest => @hL_skipD Try.prog slo Q a w 19 rest (some 26)
  refine hz _ _ ?_ ?_
  · subst hb
    kernel_rfl
  clear hz
  (try simp only [Act.put,aT,aZ,aS])
  have hz := fun a rest => @hL_skipD Try.prog slo Q a w 20 rest (some 27)
  refine hz _ _ ?_ ?_
  · subst hb
    kernel_rfl
  clear hz
  (try simp only [Act.put,aT,aZ,aS])
  have hz := fun a rest => @hL_skipD Try.prog slo Q a w 21 rest (some 28)
  refine hz _ _ ?_ ?_
  · subst hb
    kernel_rfl
  clear hz
  (try simp only [Act.put,aT,aZ,aS])
  have hz := fun a rest => @hL_skipD Try.prog slo Q a w 22 rest (some 29)
  refine hz _ _ ?_ ?_
  · subst hb
    kernel_rfl
  clear hz
  (try simp only [Act.put,aT,aZ,aS])
  have hz := fun a rest => @hL_skipD Try.prog slo Q a w 23 rest (some 30)
  refine hz _ _ ?_ ?_
  · subst hb
    kernel_rfl
  clear hz
  (try simp only [Act.put,aT,aZ,aS])
  have hz := fun a rest => @hL_skipD Try.prog slo Q a w 24 rest (some 31)
  refine hz _ _ ?_ ?_
  · subst hb
    kernel_rfl
  clear hz
  (try simp only [Act.put,aT,aZ,aS])
  have hz := fun a rest => @hL_skipD Try.prog slo Q a w 25 rest (some 32)
  refine hz _ _ ?_ ?_
  · subst hb
    kernel_rfl
  clear hz
  (try simp only [Act.put,aT,aZ,aS])
  have hz := fun a rest => @hL_skipD Try.prog slo Q a w 26 rest (some 33)
  refine hz _ _ ?_ ?_
  · subst hb
    kernel_rfl
  clear hz
  (try simp only [Act.put,aT,aZ,aS])
  have hz := fun a rest => @hL_skipD Try.prog slo Q a w 27 rest (some 34)
  refine hz _ _ ?_ ?_
  · subst hb
    kernel_rfl
  clear hz
  (try simp only [Act.put,aT,aZ,aS])
  have hz := fun a rest => @hL_skipD Try.prog slo Q a w 28 rest (some 35)
  refine hz _ _ ?_ ?_
  · subst hb
    kernel_rfl
  clear hz
  (try simp only [Act.put,aT,aZ,aS])
  have hz := fun a rest => @hL_skipD Try.prog slo Q a w 29 rest (some 36)
  refine hz _ _ ?_ ?_
  · subst hb
    kernel_rfl
  clear hz
  (try simp only [Act.put,aT,aZ,aS])
  have hz := fun a rest => @hL_skipD Try.prog slo Q a w 30 rest (some 37)
  refine hz _ _ ?_ ?_
  · subst hb
    kernel_rfl
  clear hz
  (try simp only [Act.put,aT,aZ,aS])
  have hz := fun a rest => @hL_skipD Try.prog slo Q a w 31 rest (some 38)
  refine hz _ _ ?_ ?_
  · subst hb
    kernel_rfl
  clear hz
  (try simp only [Act.put,aT,aZ,aS])
  have hz := fun a rest => @hL_skipD Try.prog slo Q a w 32 rest (some 39)
  refine hz _ _ ?_ ?_
  · subst hb
    kernel_rfl
  clear hz
  (try simp only [Act.put,aT,aZ,aS])
  have hz := fun a rest => @hL_skipD Try.prog slo Q a w 33 rest (some 40)
  refine hz _ _ ?_ ?_
  · subst hb
    kernel_rfl
  clear hz
  (try simp only [Act.put,aT,aZ,aS])
  have hz := fun a rest => @hL_skipD Try.prog slo Q a w 34 rest (some 41)
  refine hz _ _ ?_ ?_
  · subst hb
    kernel_rfl
  clear hz
  (try simp only [Act.put,aT,aZ,aS])
  have hz := fun a rest => @hL_skipD Try.prog slo Q a w 35 rest (some 42)
  refine hz _ _ ?_ ?_
  · subst hb
    kernel_rfl
  clear hz
  (try simp only [Act.put,aT,aZ,aS])
  have hz := fun a rest => @hL_skipD Try.prog slo Q a w 36 rest (some 43)
  refine hz _ _ ?_ ?_
  · subst hb
    kernel_rfl
  clear hz
  (try simp only [Act.put,aT,aZ,aS])
  have hz := fun a rest => @hL_skipD Try.prog slo Q a w 37 rest (some 44)
  refine hz _ _ ?_ ?_
  · subst hb
    kernel_rfl
  clear hz
  (try simp only [Act.put,aT,aZ,aS])
  have hz := fun a rest => @hL_skipD Try.prog slo Q a w 38 rest (some 45)
  refine hz _ _ ?_ ?_
  · subst hb
    kernel_rfl
  clear hz
  (try simp only [Act.put,aT,aZ,aS])
  have hz := fun a rest => @hL_skipD Try.prog slo Q a w 39 rest (some 46)
  refine hz _ _ ?_ ?_
  · subst hb
    kernel_rfl
  clear hz
  (try simp only [Act.put,aT,aZ,aS])
  have hz := fun a rest => @hL_skipD Try.prog slo Q a w 40 rest (some 47)
  refine hz _ _ ?_ ?_
  · subst hb
    kernel_rfl
  clear hz
  (try simp only [Act.put,aT,aZ,aS])
  have hz := fun a rest => @hL_skipD Try.prog slo Q a w 41 rest (some 48)
  refine hz _ _ ?_ ?_
  · subst hb
    kernel_rfl
  clear hz
  (try simp only [Act.put,aT,aZ,aS])
  have hz := fun a rest => @hL_skipD Try.prog slo Q a w 42 rest (some 49)
  refine hz _ _ ?_ ?_
  · subst hb
    kernel_rfl
  clear hz
  (try simp only [Act.put,aT,aZ,aS])
  refine hL_take (o := ⟨some 50,.pick (.tmp 10) (.tmp 49) (.const (.bool false)),4,"law.go:16",#[⟨3,.data⟩,⟨42,.data⟩],none⟩) (v := .bool b1) (by kernel_rfl) (by kernel_rfl) ?_ ?_
  · subst hb
    (go_simp <;> with_reducible rfl)
  (try simp only [Act.put,aT,aZ,aS])
  refine hL_take (o := ⟨some 2,.assign (.tmp 50),4,"law.go:16",#[⟨43,.data⟩,⟨38,.chain⟩,⟨0,.phase⟩,⟨1,.phase⟩,⟨2,.phase⟩,⟨3,.phase⟩,⟨4,.phase⟩,⟨5,.phase⟩,⟨6,.phase⟩,⟨7,.phase⟩,⟨8,.phase⟩,⟨9,.phase⟩,⟨10,.phase⟩,⟨11,.phase⟩,⟨12,.phase⟩,⟨13,.phase⟩,⟨14,.phase⟩,⟨15,.phase⟩,⟨16,.phase⟩,⟨17,.phase⟩,⟨18,.phase⟩,⟨19,.phase⟩,⟨20,.phase⟩,⟨21,.phase⟩,⟨22,.phase⟩,⟨23,.phase⟩,⟨24,.phase⟩,⟨25,.phase⟩,⟨26,.phase⟩,⟨27,.phase⟩,⟨28,.phase⟩,⟨29,.phase⟩,⟨30,.phase⟩,⟨31,.phase⟩,⟨32,.phase⟩,⟨33,.phase⟩,⟨34,.phase⟩,⟨35,.phase⟩,⟨36,.phase⟩,⟨37,.phase⟩,⟨38,.phase⟩,⟨39,.phase⟩,⟨40,.phase⟩,⟨41,.phase⟩,⟨42,.phase⟩,⟨43,.phase⟩],none⟩) (v := .bool b1) (by kernel_rfl) (by kernel_rfl) ?_ ?_
  · subst hb
    (go_simp <;> with_reducible rfl)
  (try simp only [Act.put,aT,aZ,aS])
  exact hK _ _ _ _ _ _ _ _ _ _ _ _ _ _ _ _ _ _ _ _ _ _ _ _ _ _ _ _ _ _ _ _ _ _ _ _ _ _ _ _ _ _ _ _ _ _ _ _ _ _ 

def QSL (sn : Nat) (w0 : World) : Exit → Act → World → Prop := bodyPost Try.prog Try.f7 fun e w' => (∃ b,e = .returned (.bool b) ∧ (b = false → sn ≤ 20)) ∧ Below w0.heap.size w0 w'
set_option maxHeartbeats 4000000 in
set_option maxRecDepth 1000000 in
theorem slow_any {G : Jb} {sa : Option Addr} {sn sc : Nat} (hn : sn = G.sh.length) (hm : sn ≤ 9223372036854775807) (w : World) (hrg : Rg w w.heap.size sa G.sh) :
    Calls Try.prog 7 #[.agg (jobC G (.slice sa sn sc))] w fun e w' => (∃ b,e = .returned (.bool b) ∧ (b = false → sn ≤ 20)) ∧ Below w.heap.size w w' := by
  have q0 : Below w.heap.size w (w.alloc (.cells (jobC G (.slice sa sn sc)) 30)) := (Below.refl _ _).alloc (Nat.le_refl _) _
  have hs : NS G sa sn sc w w.heap.size (w.alloc (.cells (jobC G (.slice sa sn sc)) 30)) := ⟨q0,Bk.new _ _ _,hrg.below q0⟩
  have HS := hidMk hs
  have HN := hidMk hn
  clear q0 hs hrg hn
  go_enter Try.func7,Try.ntmps7
  show Code.wp Try.prog slbody (QSL sn w) _ _
  rw [slbody_eq]
  go_wp2_with fail
  generalize hG3 : w.heap.size = g3 at HS ⊢
  generalize hW1 : (w.alloc (.cells (jobC G (.slice sa sn sc)) 30)) = w1 at HS ⊢
  clear hG3 hW1
  rw [slrest1_eq]
  have d15 := HS.out.job.at_ 15 (.slice sa sn sc) rfl
  by_cases hl : (20 : Int) < (sn : Int)
  · go_wp2_with fail
    go_ret
    exact ⟨⟨_,rfl,fun h => by cases h⟩,HS.out.b0⟩
  · go_wp2_with fail
    have HL20 := hidMk (show sn ≤ 20 by omega)
    clear d15 hl
    rw [slrest2_eq]
    refine wp_seq_k fun K0 hK0 => ?_
    refine wp_region_l [0,1,2,3,4,5,6,7,8,9,10,11,12,13,14,15,16,17,18,19,20,21,22,23,24,25,26,27,28,29,30,31,32,33,34,35,36,37,38,39,40,41,42,43,44] (by kernel_rfl) ?_
    refine opsL_row (o := ⟨some 7,.load 30 (.tmp 1),30,"law.go:16",#[],none⟩) (by kernel_rfl) (by kernel_rfl) 30 _ rfl g3 (jobC G (.slice sa sn sc)) rfl _ HS.out.job Try.underlying30 szJob ?_
    (try simp only [Act.put,aT,aZ,aS])
    refine opsL_step (o := ⟨some 8,.call { callee := .value (.func 39),args := #[.tmp 7],argTypes := #[30] },39,"law.go:16",#[⟨0,.data⟩],none⟩) rfl (fun K hK => ?_)
    rw [if_pos]
    rotate_left
    · kernel_rfl
    go_simp
    go_at_call 39
    refine (refCheck_any G sa sn sc _ HN.out hm HS.out.rg).mono ?_
    rintro e w2 ⟨rfl,hb⟩
    have HS2 := hidMk (HS.out.next hb)
    clear hb HS
    have HS := HS2
    clear HS2
    go_wp2_with fail
    refine hK.out _ _ ?_
    clear hK K
    (try simp only [Act.put,aT,aZ,aS])
    by_cases hc : G.check = 0
    · have e2 : (G.check == 0) = true := by simp [hc]
      clear hc
      refine Hid.out ?_
      refine hL_take (o := ⟨some 9,.binOp .eql 39 (.tmp 8) (.const (.int .i64 0)) 39,4,"law.go:16",#[⟨1,.data⟩],none⟩) (v := .bool true) (by kernel_rfl) (by kernel_rfl) ?_ ?_
      · (go_simp <;> with_reducible rfl)
      (try simp only [Act.put,aT,aZ,aS])
      refine hL_take (o := ⟨some 10,.move (.tmp 9),4,"law.go:16",#[⟨2,.data⟩,⟨1,.chain⟩],none⟩) (v := .bool true) (by kernel_rfl) (by kernel_rfl) ?_ ?_
      · (go_simp <;> with_reducible rfl)
      (try simp only [Act.put,aT,aZ,aS])
      refine sl_s1 HS.out ?_
      intro _ _ _ _ _ _ _ _ _ _ _ _ _ _ _ _ _ _ _ _ _ _ _ _ _ _ _ _ _ _ _ _ _ _ _ _ _ _ _ _ _ _ _ _ _ _ _ _ b0
      refine sl_s2 HS.out ?_
      intro _ _ _ _ _ _ _ _ _ _ _ _ _ _ _ _ _ _ _ _ _ _ _ _ _ _ _ _ _ _ _ _ _ _ _ _ _ _ _ _ _ _ _ _ _ _ _ _ b1
      refine sl_s3 HS.out ?_
      intro _ _ _ _ _ _ _ _ _ _ _ _ _ _ _ _ _ _ _ _ _ _ _ _ _ _ _ _ _ _ _ _ _ _ _ _ _ _ _ _ _ _ _ _ _ _ _ _ b2
      refine sl_s4 HS.out ?_
      intro _ _ _ _ _ _ _ _ _ _ _ _ _ _ _ _ _ _ _ _ _ _ _ _ _ _ _ _ _ _ _ _ _ _ _ _ _ _ _ _ _ _ _ _ _ _ _ _ b3
      refine hidMk ?_
      refine hK0 _ _ ?_
      refine wp_ret ?_
      go_ret
      exact ⟨⟨_,rfl,fun _ => HL20.out⟩,HS.out.b0⟩
    · obtain ⟨b1,hb⟩ : ∃ b,b = (G.check == 0) := ⟨_,rfl⟩
      have hb1 : b1 = false := by rw [hb]; simp [hc]
      have HB1 := hidMk hb1
      clear hc hb1
      refine Hid.out ?_
      refine hL_take (o := ⟨some 9,.binOp .eql 39 (.tmp 8) (.const (.int .i64 0)) 39,4,"law.go:16",#[⟨1,.data⟩],none⟩) (v := .bool b1) (by kernel_rfl) (by kernel_rfl) ?_ ?_
      · (rw [hb]; go_simp <;> with_reducible rfl)
      (try simp only [Act.put,aT,aZ,aS])
      refine hL_take (o := ⟨some 10,.move (.tmp 9),4,"law.go:16",#[⟨2,.data⟩,⟨1,.chain⟩],none⟩) (v := .bool b1) (by kernel_rfl) (by kernel_rfl) ?_ ?_
      · (go_simp <;> with_reducible rfl)
      (try simp only [Act.put,aT,aZ,aS])
      refine sl_s5 HS.out HB1.out ?_
      intro _ _ _ _ _ _ _ _ _ _ _ _ _ _ _ _ _ _ _ _ _ _ _ _ _ _ _ _ _ _ _ _ _ _ _ _ _ _ _ _ _ _ _ _ _ _ _ _ _ b
      refine hidMk ?_
      refine hK0 _ _ ?_
      refine wp_ret ?_
      go_ret
      exact ⟨⟨_,rfl,fun _ => HL20.out⟩,HS.out.b0⟩
end Go.Proofs.Ytadmcafbffjjbaa
/- The law ReedBlanks: facts. -/
namespace Go.Proofs.Ytadmcafbffjjbaa
set_option linter.all false
open Go.RowKit

def QBK (w0 : World) : Exit → Act → World → Prop := bodyPost Try.prog Try.f4 fun e w' => e = .returned (.bool true) ∧ Below w0.heap.size w0 w'
structure LW (w0 w : World) (g5 : Nat) (X : Jb) (xa : Option Addr) (xn xc : Nat) (ja : Option Addr) (jn : Nat) (es : List Ent) : Prop where
  b0 : Below w0.heap.size w0 w
  box : Bk w g5 30 (jobC X (.slice xa xn xc))
  xrg : Rg w w.heap.size xa X.sh
  js : Js w w.heap.size ja jn es
section
variable {w0 w w' : World} {g5 b : Nat} {X : Jb} {xa : Option Addr} {xn xc : Nat} {ja : Option Addr} {jn : Nat} {es : List Ent}
theorem LW.next (h : LW w0 w g5 X xa xn xc ja jn es) (hb : Below w.heap.size w w') : LW w0 w' g5 X xa xn xc ja jn es :=
  ⟨h.b0.trans (hb.mono h.b0.size),h.box.below hb h.box.lt,h.xrg.up hb,h.js.up hb⟩
theorem LW.pb (h : LW w0 w g5 X xa xn xc ja jn es) (hp : Pt w b) (hk : PB b w.heap.size w w') (hb : w0.heap.size ≤ b) : LW w0 w' g5 X xa xn xc ja jn es :=
  ⟨h.b0.trans ((hk.mono h.b0.size).toBelow hb),h.box.pb hk h.box.lt (hp.ne h.box (by simp [jobC])),h.xrg.pb hp hk,h.js.pb hp hk⟩
/-- The cells of a list of jobs, out of its slice. -/
theorem Js.news {ad : Addr} {n B : Nat} (h : Js w B (some ad) n es) : ∀ j u,(flatE es)[j]? = some u → w.cell? (ad.add j) = some u := by
  intro j u hj
  have hjl := (List.getElem?_eq_some_iff.1 hj).1
  rw [flatE_len] at hjl
  have hk : j / 18 < es.length := by omega
  obtain ⟨b,off,e,_,hr⟩ := h.row (j / 18) es[j / 18] (List.getElem?_eq_getElem hk)
  cases e
  rw [Addr.add_mid]
  have hi : j % 18 < (es[j / 18].V.toList).length := by rw [Ent.V_len]; omega
  have h1 := flat_at (fun e : Ent => e.V.toList) Ent.V_len es (j / 18) es[j / 18] (List.getElem?_eq_getElem hk) (j % 18) _ (List.getElem?_eq_getElem hi)
  have hjj : j / 18 * 18 + j % 18 = j := by omega
  have h2 : (flatE es)[j / 18 * 18 + j % 18]? = some (es[j / 18].V.toList[j % 18]'hi) := h1
  rw [hjj] at h2
  have h3 : u = es[j / 18].V.toList[j % 18]'hi := by
    rw [hj] at h2
    exact Option.some.inj h2
  have h4 := hr (j % 18) _ (List.getElem?_eq_getElem hi)
  rw [show off + j / 18 * 18 + j % 18 = off + j from by omega] at h4
  rw [h3]
  exact h4
end
def bko : Array Oper := #[⟨some 25,.move (.tmp 0),37,"law.go:117",#[],none⟩,⟨some 26,.call { callee := .builtin .len,args := #[.tmp 25],argTypes := #[37] },3,"law.go:117",#[⟨0,.data⟩],none⟩,⟨some 27,.binOp .gtr 3 (.tmp 26) (.const (.int .i64 20)) 3,4,"law.go:117",#[⟨1,.data⟩],none⟩,⟨some 28,.move (.tmp 27),4,"law.go:117",#[⟨2,.data⟩],none⟩,⟨some 29,.load 30 (.tmp 5),30,"law.go:117",#[⟨3,.guard⟩],some (3,false)⟩,⟨some 30,.call { callee := .value (.func 7),args := #[.tmp 29],argTypes := #[30] },4,"law.go:117",#[⟨4,.data⟩,⟨3,.chain⟩,⟨3,.guard⟩],some (3,false)⟩,⟨some 31,.pick (.tmp 28) (.const (.bool true)) (.tmp 30),4,"law.go:117",#[⟨3,.data⟩,⟨5,.data⟩],none⟩]
set_option maxRecDepth 1000000 in
theorem bkrest1_cut : bkrest1 = .seq (.seq (Code.region 1 bko false) (.cond (.tmp 31) (.seq (Code.region 2 #[⟨some 32,.call { callee := .value (.func 8),args := #[],argTypes := #[] },4,"law.go:118",#[],none⟩,⟨some 8,.assign (.tmp 32),4,"law.go:118",#[⟨0,.data⟩,⟨0,.chain⟩,⟨0,.phase⟩],none⟩] false) .ret) .skip)) bkrest2 := by kernel_rfl
end Go.Proofs.Ytadmcafbffjjbaa
