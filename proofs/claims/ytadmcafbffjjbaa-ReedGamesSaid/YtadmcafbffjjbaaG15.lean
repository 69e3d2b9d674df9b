/- Part 15 of the proof: GgA. -/
import Derived.Deep.WholeRow
import Derived.Test.YtadmcafbffjjbaaG11
import Derived.Test.YtadmcafbffjjbaaG12
import Derived.Test.YtadmcafbffjjbaaG06
import Derived.Test.YtadmcafbffjjbaaG05
import Derived.Test.YtadmcafbffjjbaaG13
import Derived.Test.YtadmcafbffjjbaaG14
import Derived.Test.YtadmcafbffjjbaaG01
/- The law ReedGames: the loop. -/
namespace Go.Proofs.Ytadmcafbffjjbaa
set_option linter.all false
open Go.RowKit
noncomputable def ggbody : Code := Try.f3.body.getD .skip
noncomputable def ggrest1 : Code := sndB ggbody
noncomputable def ggrest2 : Code := sndB ggrest1
noncomputable def ggrest3 : Code := sndB ggrest2
noncomputable def ggrest4 : Code := sndB ggrest3
noncomputable def ggrest5 : Code := sndB ggrest4
set_option maxRecDepth 1000000 in
theorem ggbody_eq : ggbody = .seq (Code.region 0 #[⟨some 2,.box 30 (.tmp 0),0,"law.go:95",#[],none⟩,⟨some 4,.assign (.const (.bool false)),4,"law.go:95",#[],none⟩] false) ggrest1 := by kernel_rfl
set_option maxRecDepth 1000000 in
theorem ggrest1_eq : ggrest1 = .seq (.seq (Code.region 1 #[⟨some 19,.load 30 (.tmp 2),30,"law.go:96",#[],none⟩,⟨some 20,.call { callee := .value (.func 7),args := #[.tmp 19],argTypes := #[30] },4,"law.go:96",#[⟨0,.data⟩],none⟩] false) (.cond (.tmp 20) (.seq (Code.region 2 #[⟨some 21,.call { callee := .value (.func 8),args := #[],argTypes := #[] },4,"law.go:97",#[],none⟩,⟨some 4,.assign (.tmp 21),4,"law.go:97",#[⟨0,.data⟩,⟨0,.chain⟩,⟨0,.phase⟩],none⟩] false) .ret) .skip)) ggrest2 := by kernel_rfl
set_option maxRecDepth 1000000 in
theorem ggrest2_eq : ggrest2 = .seq (Code.region 3 #[⟨some 22,.move (.tmp 1),31,"law.go:99",#[],none⟩,⟨some 23,.call { callee := .value (.func 9),args := #[.tmp 22],argTypes := #[31] },34,"law.go:99",#[⟨0,.data⟩],none⟩,⟨some 5,.assign (.tmp 23),34,"law.go:99",#[⟨1,.data⟩,⟨1,.chain⟩,⟨0,.phase⟩,⟨1,.phase⟩],none⟩] false) ggrest3 := by kernel_rfl
set_option maxRecDepth 1000000 in
theorem ggrest3_eq : ggrest3 = .seq (Code.region 4 #[⟨some 24,.load 30 (.tmp 2),30,"law.go:100",#[],none⟩,⟨some 25,.move (.tmp 5),34,"law.go:100",#[],none⟩,⟨some 26,.call { callee := .value (.func 10),args := #[.tmp 25,.const (.int .i64 3),.const (.int .i64 1)],argTypes := #[34,3,3] },30,"law.go:100",#[⟨1,.data⟩],none⟩,⟨some 27,.move (.tmp 5),34,"law.go:100",#[],none⟩,⟨some 28,.call { callee := .value (.func 10),args := #[.tmp 27,.const (.int .i64 4),.const (.int .i64 2)],argTypes := #[34,3,3] },30,"law.go:100",#[⟨3,.data⟩,⟨2,.chain⟩],none⟩,⟨some 29,.buildSlice 37 3 #[(0,.tmp 24),(1,.tmp 26),(2,.tmp 28)],37,"law.go:100",#[⟨0,.data⟩,⟨2,.data⟩,⟨4,.data⟩],none⟩,⟨some 6,.assign (.tmp 29),37,"law.go:100",#[⟨5,.data⟩,⟨4,.chain⟩,⟨0,.phase⟩,⟨1,.phase⟩,⟨2,.phase⟩,⟨3,.phase⟩,⟨4,.phase⟩,⟨5,.phase⟩],none⟩] true) ggrest4 := by kernel_rfl
set_option maxRecDepth 1000000 in
theorem ggrest5_eq : ggrest5 = .seq (Code.region 15 #[⟨some 101,.call { callee := .value (.func 8),args := #[],argTypes := #[] },4,"law.go:111",#[],none⟩,⟨some 4,.assign (.tmp 101),4,"law.go:111",#[⟨0,.data⟩,⟨0,.chain⟩,⟨0,.phase⟩],none⟩] false) .ret := by kernel_rfl

def QGG (w0 : World) : Exit → Act → World → Prop := bodyPost Try.prog Try.f3 fun e w' => e = .returned (.bool true) ∧ Below w0.heap.size w0 w'
/-- A job and where its shifts lie. -/
structure Ent where
  J : Jb
  a : Option Addr
  n : Nat
  c : Nat
def Ent.V (e : Ent) : Array Value := jobC e.J (.slice e.a e.n e.c)
theorem Ent.V_len (e : Ent) : e.V.toList.length = 18 := rfl
theorem flat_at {α β : Type} (F : α → List β) (hF : ∀ x,(F x).length = 18) : ∀ (es : List α) (k : Nat) (e : α),es[k]? = some e → ∀ (j : Nat) (v : β),(F e)[j]? = some v → (es.flatMap F)[k * 18 + j]? = some v
  | e0 :: es,0,e,h,j,v,hv => by
    obtain rfl : e0 = e := by simpa using h
    have hj := (List.getElem?_eq_some_iff.1 hv).1
    rw [List.flatMap_cons,Nat.zero_mul,Nat.zero_add,List.getElem?_append_left hj]
    exact hv
  | e0 :: es,k + 1,e,h,j,v,hv => by
    have ih := flat_at F hF es k e (by simpa using h) j v hv
    rw [List.flatMap_cons,List.getElem?_append_right (by rw [hF]; omega),hF]
    have : (k + 1) * 18 + j - 18 = k * 18 + j := by omega
    rw [this]
    exact ih

structure SL (w0 w1 : World) (g : Nat) (es : List Ent) : Prop where
  b0 : Below w0.heap.size w0 w1
  arr : Bk w1 g 30 (es.flatMap fun e => e.V.toList).toArray
  len : es.length = 3
  each : ∀ e ∈ es,Rg w1 w1.heap.size e.a e.J.sh ∧ e.n = e.J.sh.length ∧ e.n ≤ 30
structure T3 (w0 w : World) (g2 b : Nat) (J : Jb) (a : Option Addr) (n c : Nat) : Prop where
  b0 : Below w0.heap.size w0 w
  hb : w0.heap.size ≤ b
  pt : Pt w b
  job : Bk w g2 30 (jobC J (.slice a n c))
  rg : Rg w w.heap.size a J.sh
section
variable {w0 w w' : World} {g2 b : Nat} {J : Jb} {a : Option Addr} {n c : Nat}
theorem T3.next (h : T3 w0 w g2 b J a n c) (hb : Below w.heap.size w w') : T3 w0 w' g2 b J a n c :=
  ⟨h.b0.trans (hb.mono h.b0.size),h.hb,h.pt.below hb h.pt.lt,h.job.below hb h.job.lt,h.rg.up hb⟩
theorem Pt.ne {g : Nat} {t : TypeId} {cs : Array Value} (h : Pt w b) (hk : Bk w g t cs) (hc : cs.size ≠ 1) : g ≠ b := by
  rintro rfl
  obtain ⟨t',s,h⟩ := h
  have e := hk.symm.trans h
  cases e
  exact hc rfl
theorem T3.pot (h : T3 w0 w g2 b J a n c) (hk : PB b w.heap.size w w') (hp : Pt w' b) : T3 w0 w' g2 b J a n c :=
  ⟨h.b0.trans ((hk.mono h.b0.size).toBelow h.hb),h.hb,hp,h.job.pb hk h.job.lt (h.pt.ne h.job (by simp [jobC])),h.rg.pb h.pt hk⟩
end
noncomputable def blk1 : Code → Option Code
  | .block 1 c => some c
  | .block _ c => blk1 c
  | .seq a b => match blk1 a with
    | some c => some c
    | none => blk1 b
  | .loop c => blk1 c
  | _ => none
noncomputable def lb0 : Code := (blk1 ggrest4).getD .skip
noncomputable def lb1 : Code := sndB lb0
noncomputable def lb2 : Code := sndB lb1
noncomputable def lb3 : Code := sndB lb2
noncomputable def lb4 : Code := sndB lb3
noncomputable def lb5 : Code := sndB lb4
set_option maxRecDepth 1000000 in
theorem lb0_eq : lb0 = .seq (Code.region 8 #[⟨some 36,.move (.tmp 6),37,"law.go:102",#[],none⟩,⟨some 37,.move (.tmp 7),3,"law.go:102",#[],none⟩,⟨some 38,.indexAddr 37 (.tmp 36) (.tmp 37),0,"law.go:102",#[⟨0,.data⟩,⟨1,.data⟩],none⟩,⟨some 39,.load 30 (.tmp 38),30,"law.go:102",#[⟨2,.data⟩],none⟩,⟨some 40,.call { callee := .value (.func 11),args := #[.tmp 39],argTypes := #[30] },30,"law.go:102",#[⟨3,.data⟩],none⟩,⟨some 8,.alloc 30,0,"law.go:102",#[],none⟩,⟨none,.store 30 (.tmp 8) (.tmp 40),0,"law.go:102",#[⟨5,.data⟩,⟨4,.data⟩,⟨4,.chain⟩,⟨0,.phase⟩,⟨1,.phase⟩,⟨2,.phase⟩,⟨3,.phase⟩,⟨4,.phase⟩,⟨5,.phase⟩],none⟩] false) lb1 := by kernel_rfl
set_option maxRecDepth 1000000 in
theorem lb1_eq : lb1 = .seq (Code.region 9 #[⟨some 42,.load 30 (.tmp 8),30,"law.go:103",#[],none⟩,⟨some 43,.call { callee := .value (.func 12),args := #[.tmp 42],argTypes := #[30] },40,"law.go:103",#[⟨0,.data⟩],none⟩,⟨some 41,.move (.tmp 43),40,"law.go:103",#[⟨1,.data⟩],none⟩,⟨some 44,.extract (.tmp 41) 0,3,"law.go:103",#[⟨2,.data⟩],none⟩,⟨some 45,.extract (.tmp 41) 1,39,"law.go:103",#[⟨2,.data⟩,⟨5,.gcOnly .lateStores⟩],none⟩,⟨some 9,.assign (.tmp 44),3,"law.go:103",#[⟨3,.data⟩,⟨1,.chain⟩,⟨0,.phase⟩,⟨1,.phase⟩,⟨2,.phase⟩,⟨3,.phase⟩,⟨4,.textOnly .lateStores⟩],none⟩,⟨some 10,.assign (.tmp 45),39,"law.go:103",#[⟨4,.data⟩,⟨5,.chain⟩,⟨0,.phase⟩,⟨1,.phase⟩,⟨2,.phase⟩,⟨3,.phase⟩,⟨4,.phase⟩,⟨5,.phase⟩],none⟩] false) lb2 := by kernel_rfl
set_option maxRecDepth 1000000 in
theorem lb2_eq : lb2 = .seq (Code.region 10 #[⟨some 47,.move (.tmp 6),37,"law.go:104",#[],none⟩,⟨some 48,.move (.tmp 7),3,"law.go:104",#[],none⟩,⟨some 49,.indexAddr 37 (.tmp 47) (.tmp 48),0,"law.go:104",#[⟨0,.data⟩,⟨1,.data⟩],none⟩,⟨some 50,.load 30 (.tmp 49),30,"law.go:104",#[⟨2,.data⟩],none⟩,⟨some 51,.call { callee := .value (.func 13),args := #[.tmp 50],argTypes := #[30] },40,"law.go:104",#[⟨3,.data⟩],none⟩,⟨some 46,.move (.tmp 51),40,"law.go:104",#[⟨4,.data⟩],none⟩,⟨some 52,.extract (.tmp 46) 0,3,"law.go:104",#[⟨5,.data⟩],none⟩,⟨some 53,.extract (.tmp 46) 1,39,"law.go:104",#[⟨5,.data⟩,⟨8,.gcOnly .lateStores⟩],none⟩,⟨some 11,.assign (.tmp 52),3,"law.go:104",#[⟨6,.data⟩,⟨4,.chain⟩,⟨0,.phase⟩,⟨1,.phase⟩,⟨2,.phase⟩,⟨3,.phase⟩,⟨4,.phase⟩,⟨5,.phase⟩,⟨6,.phase⟩,⟨7,.textOnly .lateStores⟩],none⟩,⟨some 12,.assign (.tmp 53),39,"law.go:104",#[⟨7,.data⟩,⟨8,.chain⟩,⟨0,.phase⟩,⟨1,.phase⟩,⟨2,.phase⟩,⟨3,.phase⟩,⟨4,.phase⟩,⟨5,.phase⟩,⟨6,.phase⟩,⟨7,.phase⟩,⟨8,.phase⟩],none⟩] false) lb3 := by kernel_rfl
set_option maxRecDepth 1000000 in
theorem lb3_eq : lb3 = .seq (Code.region 11 #[⟨some 55,.load 30 (.tmp 8),30,"law.go:105",#[],none⟩,⟨some 56,.call { callee := .value (.func 14),args := #[.tmp 55],argTypes := #[30] },42,"law.go:105",#[⟨0,.data⟩],none⟩,⟨some 54,.move (.tmp 56),42,"law.go:105",#[⟨1,.data⟩],none⟩,⟨some 57,.extract (.tmp 54) 0,3,"law.go:105",#[⟨2,.data⟩],none⟩,⟨some 58,.extract (.tmp 54) 1,3,"law.go:105",#[⟨2,.data⟩,⟨6,.gcOnly .lateStores⟩],none⟩,⟨some 59,.extract (.tmp 54) 2,39,"law.go:105",#[⟨2,.data⟩,⟨7,.gcOnly .lateStores⟩],none⟩,⟨some 13,.assign (.tmp 57),3,"law.go:105",#[⟨3,.data⟩,⟨1,.chain⟩,⟨0,.phase⟩,⟨1,.phase⟩,⟨2,.phase⟩,⟨3,.phase⟩,⟨4,.textOnly .lateStores⟩,⟨5,.textOnly .lateStores⟩],none⟩,⟨some 14,.assign (.tmp 58),3,"law.go:105",#[⟨4,.data⟩,⟨6,.chain⟩,⟨0,.phase⟩,⟨1,.phase⟩,⟨2,.phase⟩,⟨3,.phase⟩,⟨4,.phase⟩,⟨5,.textOnly .lateStores⟩,⟨6,.phase⟩],none⟩,⟨some 15,.assign (.tmp 59),39,"law.go:105",#[⟨5,.data⟩,⟨7,.chain⟩,⟨0,.phase⟩,⟨1,.phase⟩,⟨2,.phase⟩,⟨3,.phase⟩,⟨4,.phase⟩,⟨5,.phase⟩,⟨6,.phase⟩,⟨7,.phase⟩],none⟩] false) lb4 := by kernel_rfl
set_option maxRecDepth 1000000 in
theorem lb4_eq : lb4 = .seq (Code.region 12 #[⟨some 61,.move (.tmp 6),37,"law.go:106",#[],none⟩,⟨some 62,.move (.tmp 7),3,"law.go:106",#[],none⟩,⟨some 63,.indexAddr 37 (.tmp 61) (.tmp 62),0,"law.go:106",#[⟨0,.data⟩,⟨1,.data⟩],none⟩,⟨some 64,.load 30 (.tmp 63),30,"law.go:106",#[⟨2,.data⟩],none⟩,⟨some 65,.call { callee := .value (.func 15),args := #[.tmp 64],argTypes := #[30] },42,"law.go:106",#[⟨3,.data⟩],none⟩,⟨some 60,.move (.tmp 65),42,"law.go:106",#[⟨4,.data⟩],none⟩,⟨some 66,.extract (.tmp 60) 0,3,"law.go:106",#[⟨5,.data⟩],none⟩,⟨some 67,.extract (.tmp 60) 1,3,"law.go:106",#[⟨5,.data⟩,⟨9,.gcOnly .lateStores⟩],none⟩,⟨some 68,.extract (.tmp 60) 2,39,"law.go:106",#[⟨5,.data⟩,⟨10,.gcOnly .lateStores⟩],none⟩,⟨some 16,.assign (.tmp 66),3,"law.go:106",#[⟨6,.data⟩,⟨4,.chain⟩,⟨0,.phase⟩,⟨1,.phase⟩,⟨2,.phase⟩,⟨3,.phase⟩,⟨4,.phase⟩,⟨5,.phase⟩,⟨6,.phase⟩,⟨7,.textOnly .lateStores⟩,⟨8,.textOnly .lateStores⟩],none⟩,⟨some 17,.assign (.tmp 67),3,"law.go:106",#[⟨7,.data⟩,⟨9,.chain⟩,⟨0,.phase⟩,⟨1,.phase⟩,⟨2,.phase⟩,⟨3,.phase⟩,⟨4,.phase⟩,⟨5,.phase⟩,⟨6,.phase⟩,⟨7,.phase⟩,⟨8,.textOnly .lateStores⟩,⟨9,.phase⟩],none⟩,⟨some 18,.assign (.tmp 68),39,"law.go:106",#[⟨8,.data⟩,⟨10,.chain⟩,⟨0,.phase⟩,⟨1,.phase⟩,⟨2,.phase⟩,⟨3,.phase⟩,⟨4,.phase⟩,⟨5,.phase⟩,⟨6,.phase⟩,⟨7,.phase⟩,⟨8,.phase⟩,⟨9,.phase⟩,⟨10,.phase⟩],none⟩] false) lb5 := by kernel_rfl
set_option maxRecDepth 1000000 in
theorem lb5_eq : lb5 = .seq (Code.region 13 #[⟨some 69,.move (.tmp 9),3,"law.go:107",#[],none⟩,⟨some 70,.move (.tmp 11),3,"law.go:107",#[],none⟩,⟨some 71,.binOp .neq 3 (.tmp 69) (.tmp 70) 3,4,"law.go:107",#[⟨0,.data⟩,⟨1,.data⟩],none⟩,⟨some 72,.move (.tmp 71),4,"law.go:107",#[⟨2,.data⟩],none⟩,⟨some 73,.move (.tmp 10),39,"law.go:107",#[⟨3,.guard⟩],some (3,false)⟩,⟨some 74,.move (.tmp 12),39,"law.go:107",#[⟨3,.guard⟩],some (3,false)⟩,⟨some 75,.binOp .neq 39 (.tmp 73) (.tmp 74) 39,4,"law.go:107",#[⟨4,.data⟩,⟨5,.data⟩,⟨3,.guard⟩],some (3,false)⟩,⟨some 76,.pick (.tmp 72) (.const (.bool true)) (.tmp 75),4,"law.go:107",#[⟨3,.data⟩,⟨6,.data⟩],none⟩,⟨some 77,.move (.tmp 76),4,"law.go:107",#[⟨7,.data⟩,⟨3,.chain⟩],none⟩,⟨some 78,.move (.tmp 13),3,"law.go:107",#[⟨8,.guard⟩],some (8,false)⟩,⟨some 79,.move (.tmp 16),3,"law.go:107",#[⟨8,.guard⟩],some (8,false)⟩,⟨some 80,.binOp .neq 3 (.tmp 78) (.tmp 79) 3,4,"law.go:107",#[⟨9,.data⟩,⟨10,.data⟩,⟨8,.guard⟩],some (8,false)⟩,⟨some 81,.pick (.tmp 77) (.const (.bool true)) (.tmp 80),4,"law.go:107",#[⟨8,.data⟩,⟨11,.data⟩],none⟩,⟨some 82,.move (.tmp 81),4,"law.go:107",#[⟨12,.data⟩,⟨8,.chain⟩],none⟩,⟨some 83,.move (.tmp 14),3,"law.go:107",#[⟨13,.guard⟩],some (13,false)⟩,⟨some 84,.move (.tmp 17),3,"law.go:107",#[⟨13,.guard⟩],some (13,false)⟩,⟨some 85,.binOp .neq 3 (.tmp 83) (.tmp 84) 3,4,"law.go:107",#[⟨14,.data⟩,⟨15,.data⟩,⟨13,.guard⟩],some (13,false)⟩,⟨some 86,.pick (.tmp 82) (.const (.bool true)) (.tmp 85),4,"law.go:107",#[⟨13,.data⟩,⟨16,.data⟩],none⟩,⟨some 87,.move (.tmp 86),4,"law.go:107",#[⟨17,.data⟩,⟨13,.chain⟩],none⟩,⟨some 88,.move (.tmp 15),39,"law.go:107",#[⟨18,.guard⟩],some (18,false)⟩,⟨some 89,.move (.tmp 18),39,"law.go:107",#[⟨18,.guard⟩],some (18,false)⟩,⟨some 90,.binOp .neq 39 (.tmp 88) (.tmp 89) 39,4,"law.go:107",#[⟨19,.data⟩,⟨20,.data⟩,⟨18,.guard⟩],some (18,false)⟩,⟨some 91,.pick (.tmp 87) (.const (.bool true)) (.tmp 90),4,"law.go:107",#[⟨18,.data⟩,⟨21,.data⟩],none⟩,⟨some 92,.move (.tmp 91),4,"law.go:107",#[⟨22,.data⟩,⟨18,.chain⟩],none⟩,⟨some 93,.load 30 (.tmp 8),30,"law.go:107",#[⟨23,.guard⟩],some (23,false)⟩,⟨some 94,.move (.tmp 6),37,"law.go:107",#[⟨23,.guard⟩],some (23,false)⟩,⟨some 95,.move (.tmp 7),3,"law.go:107",#[⟨23,.guard⟩],some (23,false)⟩,⟨some 96,.indexAddr 37 (.tmp 94) (.tmp 95),0,"law.go:107",#[⟨25,.data⟩,⟨26,.data⟩,⟨23,.guard⟩],some (23,false)⟩,⟨some 97,.load 30 (.tmp 96),30,"law.go:107",#[⟨27,.data⟩,⟨23,.guard⟩],some (23,false)⟩,⟨some 98,.call { callee := .value (.func 16),args := #[.tmp 93,.tmp 97],argTypes := #[30,30] },4,"law.go:107",#[⟨24,.data⟩,⟨28,.data⟩,⟨23,.chain⟩,⟨23,.guard⟩],some (23,false)⟩,⟨some 99,.unOp .not 4 (.tmp 98),4,"law.go:107",#[⟨29,.data⟩,⟨23,.guard⟩],some (23,false)⟩,⟨some 100,.pick (.tmp 92) (.const (.bool true)) (.tmp 99),4,"law.go:107",#[⟨23,.data⟩,⟨30,.data⟩],none⟩] true) (.cond (.tmp 100) (.seq (Code.region 14 #[⟨some 4,.assign (.const (.bool false)),4,"law.go:108",#[],none⟩] false) .ret) .skip) := by kernel_rfl
set_option maxRecDepth 1000000 in
theorem ggrest4_cut : ggrest4 = .seq (.seq (Code.region 5 #[⟨some 7,.assign (.const (.int .i64 0)),3,"law.go:101",#[],none⟩] false) (.block 0 (.loop (.seq (.seq (Code.region 6 #[⟨some 30,.move (.tmp 7),3,"law.go:101",#[],none⟩,⟨some 31,.move (.tmp 6),37,"law.go:101",#[],none⟩,⟨some 32,.call { callee := .builtin .len,args := #[.tmp 31],argTypes := #[37] },3,"law.go:101",#[⟨1,.data⟩],none⟩,⟨some 33,.binOp .lss 3 (.tmp 30) (.tmp 32) 3,4,"law.go:101",#[⟨0,.data⟩,⟨2,.data⟩],none⟩] false) (.cond (.tmp 33) .skip (.exit 0))) (.seq (.block 1 lb0) (Code.region 7 #[⟨some 34,.move (.tmp 7),3,"law.go:101",#[],none⟩,⟨some 35,.binOp .add 3 (.tmp 34) (.const (.int .i64 1)) 3,3,"law.go:101",#[⟨0,.data⟩],none⟩,⟨some 7,.assign (.tmp 35),3,"law.go:101",#[⟨1,.data⟩,⟨0,.phase⟩,⟨1,.phase⟩],none⟩] false)))))) ggrest5 := by kernel_rfl
def LQ (Q : Exit → Act → World → Prop) (w1 : World) (g k : Nat) : Prop := ∀ (u0 u1 u2 u3 u4 u5 u8 u9 A0 A1 A2 A3 A4 A5 A6 A7 A8 A9 Aa Ab Ac Ad Ae Af Ag Ah Ai Aj Ak Al Am An Ao Ap Aq Ar As At Au Av Aw Ax Ay Az C0 C1 C2 C3 C4 C5 C6 C7 C8 C9 Ca Cb Cc Cd Ce Cf Cg Ch Ci Cj Ck Cl Cm Cn Co Cp Cq Cr Cs Ct Cu Cv Cw Cx Cy Cz D0 D1 D2 D3 D4 D5 D6 D7 D8 D9 Da Db Dc Dd De Df Dg Dh Di Dj : Value) (w' : World),Below w1.heap.size w1 w' → Q .normal ⟨#[u0,u1,u2,u3,u4,u5,(.slice (some ⟨g,0,none⟩) 3 3),(.int .i64 ↑k),u8,u9,A0,A1,A2,A3,A4,A5,A6,A7,A8,A9,Aa,Ab,Ac,Ad,Ae,Af,Ag,Ah,Ai,Aj,Ak,Al,Am,An,Ao,Ap,Aq,Ar,As,At,Au,Av,Aw,Ax,Ay,Az,C0,C1,C2,C3,C4,C5,C6,C7,C8,C9,Ca,Cb,Cc,Cd,Ce,Cf,Cg,Ch,Ci,Cj,Ck,Cl,Cm,Cn,Co,Cp,Cq,Cr,Cs,Ct,Cu,Cv,Cw,Cx,Cy,Cz,D0,D1,D2,D3,D4,D5,D6,D7,D8,D9,Da,Db,Dc,Dd,De,Df,Dg,Dh,Di,Dj],[]⟩ w'
theorem wpList_load_midA {P : Program} {ops : Array Oper} {rest : List Oper} {op : Oper} {a : Act} {w : World} {Q : Exit → Act → World → Prop} (hgd : op.guard = none) (ty : TypeId) (x : Operand) (ho : op.op = .load ty x)
    (b o : Nat) (hx : a.eval x = .pointer (some ⟨b,o,none⟩)) (cs : Array Value) (d : TypeDesc) (hc : w.rangeAt b o cs.toList)
    (hu : P.underlying ty = some d) (hd : d.isRow = true) (hi : (P.info? ty).map (·.size) = some cs.size)
    (h : wpList P ops Q rest (a.put op.dst (.agg cs)) w) : wpList P ops Q (op :: rest) a w :=
  wpList_load_mid hgd ty x ho b o hx cs.toList d hc hu hd (by rw [Array.length_toList]; exact hi) (by rw [Array.toArray_toList]; exact h)
theorem yields_mid {P : Program} {ops : Array Oper} {S : World → Prop} {op : Oper} {a : Act} (hw : Region.wanted op (yielded ops a.tmps) = true) (ty : TypeId) (x : Operand) (ho : op.op = .load ty x)
    (b o : Nat) (hx : a.eval x = .pointer (some ⟨b,o,none⟩)) (cs : Array Value) (d : TypeDesc) (hS : ∀ w,S w → w.rangeAt b o cs.toList)
    (hu : P.underlying ty = some d) (hd : d.isRow = true) (hi : (P.info? ty).map (·.size) = some cs.size) : YieldsIf P ops S op (.agg cs) a := by
  have := yieldsIf_load_mid (P := P) (ops := ops) (S := S) hw ty x ho b o hx cs.toList d hS hu hd (by rw [Array.length_toList]; exact hi)
  rw [Array.toArray_toList] at this
  exact this
theorem SL.row {w0 w1 : World} {g : Nat} {es : List Ent} (hs : SL w0 w1 g es) {k : Nat} {e : Ent} (hk : es[k]? = some e) {w : World} (hB : Below w1.heap.size w1 w) : w.rangeAt g (k * 18) (jobC e.J (.slice e.a e.n e.c)).toList := fun j v hv => by
  have h1 := flat_at (fun e : Ent => e.V.toList) Ent.V_len es k e hk j v hv
  have hb := hs.arr.below hB hs.arr.lt
  exact hb.at_ (k * 18 + j) v (by simpa using h1)
set_option maxHeartbeats 4000000 in
set_option maxRecDepth 1000000 in
theorem lbp5 {w1 : World} {g : Nat} {es : List Ent} {w0 : World} {k : Nat} {e : Ent} {Q : Exit → Act → World → Prop} {oa : Option Addr} {oc g8 : Nat} {gv ge : Int} {nv nm ne : Int} {w : World} {u0 u1 u2 u3 u4 u5 A9 Aa Ab Ac Ad Ae Af Ag Ah Ai Aj Ak Al Am An Ao Ap Aq Ar As At Au Av Aw Ax Ay Az C0 C1 C2 C3 C4 C5 C6 C7 C8 C9 Ca Cb Cc Cd Ce Cf Cg Ch Ci Cj Ck Cl Cm Cn Co Cp Cq Cr Cs Ct Cu Cv Cw Cx Cy Cz D0 D1 D2 D3 D4 D5 D6 D7 D8 D9 Da Db Dc Dd De Df Dg Dh Di Dj : Value} (hs : SL w0 w1 g es) (hk : es[k]? = some e) (hk3 : k < 3) (hQ : LQ Q w1 g k) (hB : Below w1.heap.size w1 w) (h8 : Bk w g8 30 (jobC e.J (.slice oa e.n oc))) (ho : Rg w w.heap.size oa e.J.sh) (hg : gv = (guidedI e.J).1 ∧ ge = (guidedI e.J).2) (hx : nv = (nextI e.J).1 ∧ nm = (nextI e.J).2.1 ∧ ne = (nextI e.J).2.2) : Code.wp Try.prog lb5 Q ⟨#[u0,u1,u2,u3,u4,u5,(.slice (some ⟨g,0,none⟩) 3 3),(.int .i64 ↑k),(.pointer (some ⟨g8,0,none⟩)),(.int .i64 gv),(.int .i64 ge),(.int .i64 gv),(.int .i64 ge),(.int .i64 nv),(.int .i64 nm),(.int .i64 ne),(.int .i64 nv),(.int .i64 nm),(.int .i64 ne),A9,Aa,Ab,Ac,Ad,Ae,Af,Ag,Ah,Ai,Aj,Ak,Al,Am,An,Ao,Ap,Aq,Ar,As,At,Au,Av,Aw,Ax,Ay,Az,C0,C1,C2,C3,C4,C5,C6,C7,C8,C9,Ca,Cb,Cc,Cd,Ce,Cf,Cg,Ch,Ci,Cj,Ck,Cl,Cm,Cn,Co,Cp,Cq,Cr,Cs,Ct,Cu,Cv,Cw,Cx,Cy,Cz,D0,D1,D2,D3,D4,D5,D6,D7,D8,D9,Da,Db,Dc,Dd,De,Df,Dg,Dh,Di,Dj],[]⟩ w := by
  rw [lb5_eq]
  obtain ⟨hrg,hen,hen30⟩ := hs.each e (List.mem_of_getElem? hk)
  have HEN := hidMk hen
  have HRG := hidMk (hrg.up hB)
  have HS := hidMk hs
  have HQ := hidMk hQ
  have HR := hidMk (hs.row hk hB)
  have HB := hidMk hB
  have HK := hidMk hk
  have hwz := hB.size
  have hnm : e.n ≤ 9223372036854775807 := by omega
  have H8 := hidMk h8
  have HO := hidMk ho
  have HG := hidMk hg
  clear hg
  have HX := hidMk hx
  clear hx
  clear h8 ho
  clear hs hQ hB hk hrg hen
  have hki : (0 : Int) ≤ (k : Int) := by omega
  have hki2 : (k : Int) < 3 := by omega
  refine wp_seq_k fun K0 hK0 => ?_
  refine region_via (R := fun a_ e_ a' w' => e_ = .normal ∧ ∃ (v69 v70 v71 v72 v73 v74 v75 v76 v77 v78 v79 v80 v81 v82 v83 v84 v85 v86 v87 v88 v89 v90 v91 v92 v93 v94 v95 v96 v97 v98 v99 : Value),a' = ((((((((((((((((((((((((((((((((a_.put (some 69) v69).put (some 70) v70).put (some 71) v71).put (some 72) v72).put (some 73) v73).put (some 74) v74).put (some 75) v75).put (some 76) v76).put (some 77) v77).put (some 78) v78).put (some 79) v79).put (some 80) v80).put (some 81) v81).put (some 82) v82).put (some 83) v83).put (some 84) v84).put (some 85) v85).put (some 86) v86).put (some 87) v87).put (some 88) v88).put (some 89) v89).put (some 90) v90).put (some 91) v91).put (some 92) v92).put (some 93) v93).put (some 94) v94).put (some 95) v95).put (some 96) v96).put (some 97) v97).put (some 98) v98).put (some 99) v99).put (some 100) (.bool false)) ∧ Below w.heap.size w w') ?_ ?_
  rotate_left
  · rintro e_ a' w' ⟨rfl,v69,v70,v71,v72,v73,v74,v75,v76,v77,v78,v79,v80,v81,v82,v83,v84,v85,v86,v87,v88,v89,v90,v91,v92,v93,v94,v95,v96,v97,v98,v99,rfl,al⟩
    refine hK0 _ _ ?_
    simp only [Act.put,aT,aZ,aS]
    have HB2 := hidMk (HB.out.trans (al.mono hwz))
    clear al
    go_wp2_with fail
    apply HQ.out
    exact HB2.out
  have hBW : Below w.heap.size w w.drew := (Below.refl _ _).drew
  refine wp_region_held_drew (S := fun w' => Below w.heap.size w w') (by kernel_rfl) hBW (fun hS0 => ?_)
  generalize hWd : w.drew = wd at hS0 hBW ⊢
  clear hWd
  refine wpAnyH_take (i := 0) (oi := ⟨some 69,.move (.tmp 9),3,"law.go:107",#[],none⟩) (v := ?_) rfl (by kernel_rfl) (by kernel_rfl) (by kernel_rfl) (fun _ _ _ h => by cases h.1) (.inl ⟨by rfl,?_⟩) (by assumption) ?_
  rotate_left
  · (intro w' hSw; (try dsimp only at hSw); skip; go_simp <;> with_reducible rfl)
  (try simp only [Act.put,aT,aZ,aS])
  refine wpAnyH_take (i := 1) (oi := ⟨some 70,.move (.tmp 11),3,"law.go:107",#[],none⟩) (v := ?_) rfl (by kernel_rfl) (by kernel_rfl) (by kernel_rfl) (fun _ _ _ h => by cases h.1) (.inl ⟨by rfl,?_⟩) (by assumption) ?_
  rotate_left
  · (intro w' hSw; (try dsimp only at hSw); skip; go_simp <;> with_reducible rfl)
  (try simp only [Act.put,aT,aZ,aS])
  refine wpAnyH_take (i := 2) (oi := ⟨some 71,.binOp .neq 3 (.tmp 69) (.tmp 70) 3,4,"law.go:107",#[⟨0,.data⟩,⟨1,.data⟩],none⟩) (v := ?_) rfl (by kernel_rfl) (by kernel_rfl) (by kernel_rfl) (fun _ _ _ h => by cases h.1) (.inl ⟨by rfl,?_⟩) (by assumption) ?_
  rotate_left
  · (intro w' hSw; (try dsimp only at hSw); skip; go_simp <;> with_reducible rfl)
  (try simp only [Act.put,aT,aZ,aS])
  refine wpAnyH_take (i := 3) (oi := ⟨some 72,.move (.tmp 71),4,"law.go:107",#[⟨2,.data⟩],none⟩) (v := ?_) rfl (by kernel_rfl) (by kernel_rfl) (by kernel_rfl) (fun _ _ _ h => by cases h.1) (.inl ⟨by rfl,?_⟩) (by assumption) ?_
  rotate_left
  · (intro w' hSw; (try dsimp only at hSw); skip; go_simp <;> with_reducible rfl)
  (try simp only [Act.put,aT,aZ,aS])
  refine wpAnyH_take (i := 4) (oi := ⟨some 73,.move (.tmp 10),39,"law.go:107",#[⟨3,.guard⟩],some (3,false)⟩) (v := ?_) rfl (by kernel_rfl) (by kernel_rfl) (by kernel_rfl) (fun _ _ _ h => by cases h.1) (.inl ⟨by rfl,?_⟩) (by assumption) ?_
  rotate_left
  · (intro w' hSw; (try dsimp only at hSw); skip; go_simp <;> with_reducible rfl)
  (try simp only [Act.put,aT,aZ,aS])
  refine wpAnyH_take (i := 5) (oi := ⟨some 74,.move (.tmp 12),39,"law.go:107",#[⟨3,.guard⟩],some (3,false)⟩) (v := ?_) rfl (by kernel_rfl) (by kernel_rfl) (by kernel_rfl) (fun _ _ _ h => by cases h.1) (.inl ⟨by rfl,?_⟩) (by assumption) ?_
  rotate_left
  · (intro w' hSw; (try dsimp only at hSw); skip; go_simp <;> with_reducible rfl)
  (try simp only [Act.put,aT,aZ,aS])
  refine wpAnyH_take (i := 6) (oi := ⟨some 75,.binOp .neq 39 (.tmp 73) (.tmp 74) 39,4,"law.go:107",#[⟨4,.data⟩,⟨5,.data⟩,⟨3,.guard⟩],some (3,false)⟩) (v := ?_) rfl (by kernel_rfl) (by kernel_rfl) (by kernel_rfl) (fun _ _ _ h => by cases h.1) (.inl ⟨by rfl,?_⟩) (by assumption) ?_
  rotate_left
  · (intro w' hSw; (try dsimp only at hSw); skip; go_simp <;> with_reducible rfl)
  (try simp only [Act.put,aT,aZ,aS])
  refine wpAnyH_take (i := 7) (oi := ⟨some 76,.pick (.tmp 72) (.const (.bool true)) (.tmp 75),4,"law.go:107",#[⟨3,.data⟩,⟨6,.data⟩],none⟩) (v := ?_) rfl (by kernel_rfl) (by kernel_rfl) (by kernel_rfl) (fun _ _ _ h => by cases h.1) (.inl ⟨by rfl,?_⟩) (by assumption) ?_
  rotate_left
  · (intro w' hSw; (try dsimp only at hSw); skip; go_simp <;> with_reducible rfl)
  (try simp only [Act.put,aT,aZ,aS])
  refine wpAnyH_take (i := 8) (oi := ⟨some 77,.move (.tmp 76),4,"law.go:107",#[⟨7,.data⟩,⟨3,.chain⟩],none⟩) (v := ?_) rfl (by kernel_rfl) (by kernel_rfl) (by kernel_rfl) (fun _ _ _ h => by cases h.1) (.inl ⟨by rfl,?_⟩) (by assumption) ?_
  rotate_left
  · (intro w' hSw; (try dsimp only at hSw); skip; go_simp <;> with_reducible rfl)
  (try simp only [Act.put,aT,aZ,aS])
  refine wpAnyH_take (i := 9) (oi := ⟨some 78,.move (.tmp 13),3,"law.go:107",#[⟨8,.guard⟩],some (8,false)⟩) (v := ?_) rfl (by kernel_rfl) (by kernel_rfl) (by kernel_rfl) (fun _ _ _ h => by cases h.1) (.inl ⟨by rfl,?_⟩) (by assumption) ?_
  rotate_left
  · (intro w' hSw; (try dsimp only at hSw); skip; go_simp <;> with_reducible rfl)
  (try simp only [Act.put,aT,aZ,aS])
  refine wpAnyH_take (i := 10) (oi := ⟨some 79,.move (.tmp 16),3,"law.go:107",#[⟨8,.guard⟩],some (8,false)⟩) (v := ?_) rfl (by kernel_rfl) (by kernel_rfl) (by kernel_rfl) (fun _ _ _ h => by cases h.1) (.inl ⟨by rfl,?_⟩) (by assumption) ?_
  rotate_left
  · (intro w' hSw; (try dsimp only at hSw); skip; go_simp <;> with_reducible rfl)
  (try simp only [Act.put,aT,aZ,aS])
  refine wpAnyH_take (i := 11) (oi := ⟨some 80,.binOp .neq 3 (.tmp 78) (.tmp 79) 3,4,"law.go:107",#[⟨9,.data⟩,⟨10,.data⟩,⟨8,.guard⟩],some (8,false)⟩) (v := ?_) rfl (by kernel_rfl) (by kernel_rfl) (by kernel_rfl) (fun _ _ _ h => by cases h.1) (.inl ⟨by rfl,?_⟩) (by assumption) ?_
  rotate_left
  · (intro w' hSw; (try dsimp only at hSw); skip; go_simp <;> with_reducible rfl)
  (try simp only [Act.put,aT,aZ,aS])
  refine wpAnyH_take (i := 12) (oi := ⟨some 81,.pick (.tmp 77) (.const (.bool true)) (.tmp 80),4,"law.go:107",#[⟨8,.data⟩,⟨11,.data⟩],none⟩) (v := ?_) rfl (by kernel_rfl) (by kernel_rfl) (by kernel_rfl) (fun _ _ _ h => by cases h.1) (.inl ⟨by rfl,?_⟩) (by assumption) ?_
  rotate_left
  · (intro w' hSw; (try dsimp only at hSw); skip; go_simp <;> with_reducible rfl)
  (try simp only [Act.put,aT,aZ,aS])
  refine wpAnyH_take (i := 13) (oi := ⟨some 82,.move (.tmp 81),4,"law.go:107",#[⟨12,.data⟩,⟨8,.chain⟩],none⟩) (v := ?_) rfl (by kernel_rfl) (by kernel_rfl) (by kernel_rfl) (fun _ _ _ h => by cases h.1) (.inl ⟨by rfl,?_⟩) (by assumption) ?_
  rotate_left
  · (intro w' hSw; (try dsimp only at hSw); skip; go_simp <;> with_reducible rfl)
  (try simp only [Act.put,aT,aZ,aS])
  refine wpAnyH_take (i := 14) (oi := ⟨some 83,.move (.tmp 14),3,"law.go:107",#[⟨13,.guard⟩],some (13,false)⟩) (v := ?_) rfl (by kernel_rfl) (by kernel_rfl) (by kernel_rfl) (fun _ _ _ h => by cases h.1) (.inl ⟨by rfl,?_⟩) (by assumption) ?_
  rotate_left
  · (intro w' hSw; (try dsimp only at hSw); skip; go_simp <;> with_reducible rfl)
  (try simp only [Act.put,aT,aZ,aS])
  refine wpAnyH_take (i := 15) (oi := ⟨some 84,.move (.tmp 17),3,"law.go:107",#[⟨13,.guard⟩],some (13,false)⟩) (v := ?_) rfl (by kernel_rfl) (by kernel_rfl) (by kernel_rfl) (fun _ _ _ h => by cases h.1) (.inl ⟨by rfl,?_⟩) (by assumption) ?_
  rotate_left
  · (intro w' hSw; (try dsimp only at hSw); skip; go_simp <;> with_reducible rfl)
  (try simp only [Act.put,aT,aZ,aS])
  refine wpAnyH_take (i := 16) (oi := ⟨some 85,.binOp .neq 3 (.tmp 83) (.tmp 84) 3,4,"law.go:107",#[⟨14,.data⟩,⟨15,.data⟩,⟨13,.guard⟩],some (13,false)⟩) (v := ?_) rfl (by kernel_rfl) (by kernel_rfl) (by kernel_rfl) (fun _ _ _ h => by cases h.1) (.inl ⟨by rfl,?_⟩) (by assumption) ?_
  rotate_left
  · (intro w' hSw; (try dsimp only at hSw); skip; go_simp <;> with_reducible rfl)
  (try simp only [Act.put,aT,aZ,aS])
  refine wpAnyH_take (i := 17) (oi := ⟨some 86,.pick (.tmp 82) (.const (.bool true)) (.tmp 85),4,"law.go:107",#[⟨13,.data⟩,⟨16,.data⟩],none⟩) (v := ?_) rfl (by kernel_rfl) (by kernel_rfl) (by kernel_rfl) (fun _ _ _ h => by cases h.1) (.inl ⟨by rfl,?_⟩) (by assumption) ?_
  rotate_left
  · (intro w' hSw; (try dsimp only at hSw); skip; go_simp <;> with_reducible rfl)
  (try simp only [Act.put,aT,aZ,aS])
  refine wpAnyH_take (i := 18) (oi := ⟨some 87,.move (.tmp 86),4,"law.go:107",#[⟨17,.data⟩,⟨13,.chain⟩],none⟩) (v := ?_) rfl (by kernel_rfl) (by kernel_rfl) (by kernel_rfl) (fun _ _ _ h => by cases h.1) (.inl ⟨by rfl,?_⟩) (by assumption) ?_
  rotate_left
  · (intro w' hSw; (try dsimp only at hSw); skip; go_simp <;> with_reducible rfl)
  (try simp only [Act.put,aT,aZ,aS])
  refine wpAnyH_take (i := 19) (oi := ⟨some 88,.move (.tmp 15),39,"law.go:107",#[⟨18,.guard⟩],some (18,false)⟩) (v := ?_) rfl (by kernel_rfl) (by kernel_rfl) (by kernel_rfl) (fun _ _ _ h => by cases h.1) (.inl ⟨by rfl,?_⟩) (by assumption) ?_
  rotate_left
  · (intro w' hSw; (try dsimp only at hSw); skip; go_simp <;> with_reducible rfl)
  (try simp only [Act.put,aT,aZ,aS])
  refine wpAnyH_take (i := 20) (oi := ⟨some 89,.move (.tmp 18),39,"law.go:107",#[⟨18,.guard⟩],some (18,false)⟩) (v := ?_) rfl (by kernel_rfl) (by kernel_rfl) (by kernel_rfl) (fun _ _ _ h => by cases h.1) (.inl ⟨by rfl,?_⟩) (by assumption) ?_
  rotate_left
  · (intro w' hSw; (try dsimp only at hSw); skip; go_simp <;> with_reducible rfl)
  (try simp only [Act.put,aT,aZ,aS])
  refine wpAnyH_take (i := 21) (oi := ⟨some 90,.binOp .neq 39 (.tmp 88) (.tmp 89) 39,4,"law.go:107",#[⟨19,.data⟩,⟨20,.data⟩,⟨18,.guard⟩],some (18,false)⟩) (v := ?_) rfl (by kernel_rfl) (by kernel_rfl) (by kernel_rfl) (fun _ _ _ h => by cases h.1) (.inl ⟨by rfl,?_⟩) (by assumption) ?_
  rotate_left
  · (intro w' hSw; (try dsimp only at hSw); skip; go_simp <;> with_reducible rfl)
  (try simp only [Act.put,aT,aZ,aS])
  refine wpAnyH_take (i := 22) (oi := ⟨some 91,.pick (.tmp 87) (.const (.bool true)) (.tmp 90),4,"law.go:107",#[⟨18,.data⟩,⟨21,.data⟩],none⟩) (v := ?_) rfl (by kernel_rfl) (by kernel_rfl) (by kernel_rfl) (fun _ _ _ h => by cases h.1) (.inl ⟨by rfl,?_⟩) (by assumption) ?_
  rotate_left
  · (intro w' hSw; (try dsimp only at hSw); skip; go_simp <;> with_reducible rfl)
  (try simp only [Act.put,aT,aZ,aS])
  refine wpAnyH_take (i := 23) (oi := ⟨some 92,.move (.tmp 91),4,"law.go:107",#[⟨22,.data⟩,⟨18,.chain⟩],none⟩) (v := ?_) rfl (by kernel_rfl) (by kernel_rfl) (by kernel_rfl) (fun _ _ _ h => by cases h.1) (.inl ⟨by rfl,?_⟩) (by assumption) ?_
  rotate_left
  · (intro w' hSw; (try dsimp only at hSw); skip; go_simp <;> with_reducible rfl)
  (try simp only [Act.put,aT,aZ,aS])
  refine wpAnyH_take (i := 24) (oi := ⟨some 93,.load 30 (.tmp 8),30,"law.go:107",#[⟨23,.guard⟩],some (23,false)⟩) rfl (by kernel_rfl) (by kernel_rfl) (by kernel_rfl) (fun _ _ _ h => by cases h.1) (yields_row (by rfl) 30 _ rfl g8 (jobC e.J (.slice oa e.n oc)) rfl 30 (fun w' hw => H8.out.below hw H8.out.lt) Try.underlying30 szJob) (by assumption) ?_
  (try simp only [Act.put,aT,aZ,aS])
  refine wpAnyH_take (i := 25) (oi := ⟨some 94,.move (.tmp 6),37,"law.go:107",#[⟨23,.guard⟩],some (23,false)⟩) (v := ?_) rfl (by kernel_rfl) (by kernel_rfl) (by kernel_rfl) (fun _ _ _ h => by cases h.1) (.inl ⟨by rfl,?_⟩) (by assumption) ?_
  rotate_left
  · (intro w' hSw; (try dsimp only at hSw); skip; go_simp <;> with_reducible rfl)
  (try simp only [Act.put,aT,aZ,aS])
  refine wpAnyH_take (i := 26) (oi := ⟨some 95,.move (.tmp 7),3,"law.go:107",#[⟨23,.guard⟩],some (23,false)⟩) (v := ?_) rfl (by kernel_rfl) (by kernel_rfl) (by kernel_rfl) (fun _ _ _ h => by cases h.1) (.inl ⟨by rfl,?_⟩) (by assumption) ?_
  rotate_left
  · (intro w' hSw; (try dsimp only at hSw); skip; go_simp <;> with_reducible rfl)
  (try simp only [Act.put,aT,aZ,aS])
  refine wpAnyH_take (i := 27) (oi := ⟨some 96,.indexAddr 37 (.tmp 94) (.tmp 95),0,"law.go:107",#[⟨25,.data⟩,⟨26,.data⟩,⟨23,.guard⟩],some (23,false)⟩) (v := ?_) rfl (by kernel_rfl) (by kernel_rfl) (by kernel_rfl) (fun _ _ _ h => by cases h.1) (.inl ⟨by rfl,?_⟩) (by assumption) ?_
  rotate_left
  · (intro w' hSw; (try dsimp only at hSw); skip; go_simp <;> with_reducible rfl)
  (try simp only [Act.put,aT,aZ,aS])
  refine wpAnyH_take (i := 28) (oi := ⟨some 97,.load 30 (.tmp 96),30,"law.go:107",#[⟨27,.data⟩,⟨23,.guard⟩],some (23,false)⟩) rfl (by kernel_rfl) (by kernel_rfl) (by kernel_rfl) (fun _ _ _ h => by cases h.1) (yields_mid (by rfl) 30 _ rfl g (k * 18) rfl (jobC e.J (.slice e.a e.n e.c)) _ (fun w' hw => HS.out.row HK.out (HB.out.trans (hw.mono hwz))) Try.underlying30 rfl szJob) (by assumption) ?_
  (try simp only [Act.put,aT,aZ,aS])
  refine wpAnyH_ready (rs := [29]) (by kernel_rfl) (by simp) ?_
  refine AllReadyH.cons (o := ⟨some 98,.call { callee := .value (.func 16),args := #[.tmp 93,.tmp 97],argTypes := #[30,30] },4,"law.go:107",#[⟨24,.data⟩,⟨28,.data⟩,⟨23,.chain⟩,⟨23,.guard⟩],some (23,false)⟩) rfl (fun K hK => ?_) ?_
  · go_simp
    go_at_call 16
    refine (sameJobs_any e.J oa e.a e.n oc e.c _ HEN.out (by omega) (HO.out.up hBW) (HRG.out.up hBW)).mono ?_
    rintro e' wX ⟨rfl,hbX⟩
    have hBW_ := hBW.trans (hbX.mono hBW.size)
    clear hBW
    have hBW := hBW_
    clear hBW_ hbX
    go_wp2_with fail
    refine hK.out _ _ hBW (fun _ => ?_)
    clear hK K
    (try simp only [Act.put,aT,aZ,aS])
    refine wpAnyH_take (i := 30) (oi := ⟨some 99,.unOp .not 4 (.tmp 98),4,"law.go:107",#[⟨29,.data⟩,⟨23,.guard⟩],some (23,false)⟩) (v := ?_) rfl (by kernel_rfl) (by kernel_rfl) (by kernel_rfl) (fun _ _ _ h => by cases h.1) (.inl ⟨by rfl,?_⟩) (by assumption) ?_
    rotate_left
    · (intro w' hSw; (try dsimp only at hSw); skip; go_simp <;> with_reducible rfl)
    (try simp only [Act.put,aT,aZ,aS])
    refine wpAnyH_take (i := 31) (oi := ⟨some 100,.pick (.tmp 92) (.const (.bool true)) (.tmp 99),4,"law.go:107",#[⟨23,.data⟩,⟨30,.data⟩],none⟩) (v := ?_) rfl (by kernel_rfl) (by kernel_rfl) (by kernel_rfl) (fun _ _ _ h => by cases h.1) (.inl ⟨by rfl,?_⟩) (by assumption) ?_
    rotate_left
    · (intro w' hSw; (try dsimp only at hSw); skip; go_simp <;> with_reducible rfl)
    (try simp only [Act.put,aT,aZ,aS])
    refine wpAnyH_done (by kernel_rfl) ?_ _
    exact ⟨rfl,_,_,_,_,_,_,_,_,_,_,_,_,_,_,_,_,_,_,_,_,_,_,_,_,_,_,_,_,_,_,_,rfl,hBW⟩
  exact AllReadyH.nil
set_option maxHeartbeats 4000000 in
set_option maxRecDepth 1000000 in
theorem lbp4 {w1 : World} {g : Nat} {es : List Ent} {w0 : World} {k : Nat} {e : Ent} {Q : Exit → Act → World → Prop} {oa : Option Addr} {oc g8 : Nat} {gv ge : Int} {nv nm ne : Int} {w : World} {u0 u1 u2 u3 u4 u5 A6 A7 A8 A9 Aa Ab Ac Ad Ae Af Ag Ah Ai Aj Ak Al Am An Ao Ap Aq Ar As At Au Av Aw Ax Ay Az C0 C1 C2 C3 C4 C5 C6 C7 C8 C9 Ca Cb Cc Cd Ce Cf Cg Ch Ci Cj Ck Cl Cm Cn Co Cp Cq Cr Cs Ct Cu Cv Cw Cx Cy Cz D0 D1 D2 D3 D4 D5 D6 D7 D8 D9 Da Db Dc Dd De Df Dg Dh Di Dj : Value} (hs : SL w0 w1 g es) (hk : es[k]? = some e) (hk3 : k < 3) (hQ : LQ Q w1 g k) (hB : Below w1.heap.size w1 w) (h8 : Bk w g8 30 (jobC e.J (.slice oa e.n oc))) (ho : Rg w w.heap.size oa e.J.sh) (hg : gv = (guidedI e.J).1 ∧ ge = (guidedI e.J).2) (hx : nv = (nextI e.J).1 ∧ nm = (nextI e.J).2.1 ∧ ne = (nextI e.J).2.2) : Code.wp Try.prog lb4 Q ⟨#[u0,u1,u2,u3,u4,u5,(.slice (some ⟨g,0,none⟩) 3 3),(.int .i64 ↑k),(.pointer (some ⟨g8,0,none⟩)),(.int .i64 gv),(.int .i64 ge),(.int .i64 gv),(.int .i64 ge),(.int .i64 nv),(.int .i64 nm),(.int .i64 ne),A6,A7,A8,A9,Aa,Ab,Ac,Ad,Ae,Af,Ag,Ah,Ai,Aj,Ak,Al,Am,An,Ao,Ap,Aq,Ar,As,At,Au,Av,Aw,Ax,Ay,Az,C0,C1,C2,C3,C4,C5,C6,C7,C8,C9,Ca,Cb,Cc,Cd,Ce,Cf,Cg,Ch,Ci,Cj,Ck,Cl,Cm,Cn,Co,Cp,Cq,Cr,Cs,Ct,Cu,Cv,Cw,Cx,Cy,Cz,D0,D1,D2,D3,D4,D5,D6,D7,D8,D9,Da,Db,Dc,Dd,De,Df,Dg,Dh,Di,Dj],[]⟩ w := by
  rw [lb4_eq]
  obtain ⟨hrg,hen,hen30⟩ := hs.each e (List.mem_of_getElem? hk)
  have HEN := hidMk hen
  have HRG := hidMk (hrg.up hB)
  have HS := hidMk hs
  have HQ := hidMk hQ
  have HR := hidMk (hs.row hk hB)
  have HB := hidMk hB
  have HK := hidMk hk
  have hwz := hB.size
  have hnm : e.n ≤ 9223372036854775807 := by omega
  have H8 := hidMk h8
  have HO := hidMk ho
  have HG := hidMk hg
  clear hg
  have HX := hidMk hx
  clear hx
  clear h8 ho
  clear hs hQ hB hk hrg hen
  go_wp2_with (refine wpList_load_midA rfl 30 _ rfl g (k * 18) rfl (jobC e.J (.slice e.a e.n e.c)) _ HR.out Try.underlying30 rfl szJob ?_)
  refine (refNext_any (G := e.J) HEN.out hnm _ HRG.out).mono ?_
  rintro e' w2 ⟨rfl,hb2⟩
  rw [← HX.out.1,← HX.out.2.1,← HX.out.2.2]
  have HB2 := hidMk (HB.out.trans (hb2.mono hwz))
  have H8' := hidMk (H8.out.below hb2 H8.out.lt)
  have HO' := hidMk (HO.out.up hb2)
  clear hb2
  go_wp2_with fail
  exact lbp5 HS.out HK.out hk3 HQ.out HB2.out H8'.out HO'.out HG.out HX.out
set_option maxHeartbeats 4000000 in
set_option maxRecDepth 1000000 in
theorem lbp3 {w1 : World} {g : Nat} {es : List Ent} {w0 : World} {k : Nat} {e : Ent} {Q : Exit → Act → World → Prop} {oa : Option Addr} {oc g8 : Nat} {gv ge : Int} {w : World} {u0 u1 u2 u3 u4 u5 A3 A4 A5 A6 A7 A8 A9 Aa Ab Ac Ad Ae Af Ag Ah Ai Aj Ak Al Am An Ao Ap Aq Ar As At Au Av Aw Ax Ay Az C0 C1 C2 C3 C4 C5 C6 C7 C8 C9 Ca Cb Cc Cd Ce Cf Cg Ch Ci Cj Ck Cl Cm Cn Co Cp Cq Cr Cs Ct Cu Cv Cw Cx Cy Cz D0 D1 D2 D3 D4 D5 D6 D7 D8 D9 Da Db Dc Dd De Df Dg Dh Di Dj : Value} (hs : SL w0 w1 g es) (hk : es[k]? = some e) (hk3 : k < 3) (hQ : LQ Q w1 g k) (hB : Below w1.heap.size w1 w) (h8 : Bk w g8 30 (jobC e.J (.slice oa e.n oc))) (ho : Rg w w.heap.size oa e.J.sh) (hg : gv = (guidedI e.J).1 ∧ ge = (guidedI e.J).2) : Code.wp Try.prog lb3 Q ⟨#[u0,u1,u2,u3,u4,u5,(.slice (some ⟨g,0,none⟩) 3 3),(.int .i64 ↑k),(.pointer (some ⟨g8,0,none⟩)),(.int .i64 gv),(.int .i64 ge),(.int .i64 gv),(.int .i64 ge),A3,A4,A5,A6,A7,A8,A9,Aa,Ab,Ac,Ad,Ae,Af,Ag,Ah,Ai,Aj,Ak,Al,Am,An,Ao,Ap,Aq,Ar,As,At,Au,Av,Aw,Ax,Ay,Az,C0,C1,C2,C3,C4,C5,C6,C7,C8,C9,Ca,Cb,Cc,Cd,Ce,Cf,Cg,Ch,Ci,Cj,Ck,Cl,Cm,Cn,Co,Cp,Cq,Cr,Cs,Ct,Cu,Cv,Cw,Cx,Cy,Cz,D0,D1,D2,D3,D4,D5,D6,D7,D8,D9,Da,Db,Dc,Dd,De,Df,Dg,Dh,Di,Dj],[]⟩ w := by
  rw [lb3_eq]
  obtain ⟨hrg,hen,hen30⟩ := hs.each e (List.mem_of_getElem? hk)
  have HEN := hidMk hen
  have HRG := hidMk (hrg.up hB)
  have HS := hidMk hs
  have HQ := hidMk hQ
  have HR := hidMk (hs.row hk hB)
  have HB := hidMk hB
  have HK := hidMk hk
  have hwz := hB.size
  have hnm : e.n ≤ 9223372036854775807 := by omega
  have H8 := hidMk h8
  have HO := hidMk ho
  have HG := hidMk hg
  clear hg
  clear h8 ho
  clear hs hQ hB hk hrg hen
  go_wp2_with (refine wpList_load_row rfl 30 _ rfl g8 rfl _ (jobC e.J (.slice oa e.n oc)) _ _ H8.out Try.underlying30 rfl szJob ?_)
  refine (next_any e.J oa e.n oc _ HEN.out hnm HO.out).mono ?_
  rintro e' w2 ⟨rfl,hb2⟩
  obtain ⟨nv,hnv⟩ : ∃ x,x = (nextI e.J).1 := ⟨_,rfl⟩
  obtain ⟨nm,hnm2⟩ : ∃ x,x = (nextI e.J).2.1 := ⟨_,rfl⟩
  obtain ⟨ne,hne⟩ : ∃ x,x = (nextI e.J).2.2 := ⟨_,rfl⟩
  rw [← hnv,← hnm2,← hne]
  have HX := hidMk (And.intro hnv (And.intro hnm2 hne))
  clear hnv hnm2 hne
  have HB2 := hidMk (HB.out.trans (hb2.mono hwz))
  have H8' := hidMk (H8.out.below hb2 H8.out.lt)
  have HO' := hidMk (HO.out.up hb2)
  clear hb2
  go_wp2_with fail
  exact lbp4 HS.out HK.out hk3 HQ.out HB2.out H8'.out HO'.out HG.out HX.out
set_option maxHeartbeats 4000000 in
set_option maxRecDepth 1000000 in
theorem lbp2 {w1 : World} {g : Nat} {es : List Ent} {w0 : World} {k : Nat} {e : Ent} {Q : Exit → Act → World → Prop} {oa : Option Addr} {oc g8 : Nat} {gv ge : Int} {w : World} {u0 u1 u2 u3 u4 u5 A1 A2 A3 A4 A5 A6 A7 A8 A9 Aa Ab Ac Ad Ae Af Ag Ah Ai Aj Ak Al Am An Ao Ap Aq Ar As At Au Av Aw Ax Ay Az C0 C1 C2 C3 C4 C5 C6 C7 C8 C9 Ca Cb Cc Cd Ce Cf Cg Ch Ci Cj Ck Cl Cm Cn Co Cp Cq Cr Cs Ct Cu Cv Cw Cx Cy Cz D0 D1 D2 D3 D4 D5 D6 D7 D8 D9 Da Db Dc Dd De Df Dg Dh Di Dj : Value} (hs : SL w0 w1 g es) (hk : es[k]? = some e) (hk3 : k < 3) (hQ : LQ Q w1 g k) (hB : Below w1.heap.size w1 w) (h8 : Bk w g8 30 (jobC e.J (.slice oa e.n oc))) (ho : Rg w w.heap.size oa e.J.sh) (hg : gv = (guidedI e.J).1 ∧ ge = (guidedI e.J).2) : Code.wp Try.prog lb2 Q ⟨#[u0,u1,u2,u3,u4,u5,(.slice (some ⟨g,0,none⟩) 3 3),(.int .i64 ↑k),(.pointer (some ⟨g8,0,none⟩)),(.int .i64 gv),(.int .i64 ge),A1,A2,A3,A4,A5,A6,A7,A8,A9,Aa,Ab,Ac,Ad,Ae,Af,Ag,Ah,Ai,Aj,Ak,Al,Am,An,Ao,Ap,Aq,Ar,As,At,Au,Av,Aw,Ax,Ay,Az,C0,C1,C2,C3,C4,C5,C6,C7,C8,C9,Ca,Cb,Cc,Cd,Ce,Cf,Cg,Ch,Ci,Cj,Ck,Cl,Cm,Cn,Co,Cp,Cq,Cr,Cs,Ct,Cu,Cv,Cw,Cx,Cy,Cz,D0,D1,D2,D3,D4,D5,D6,D7,D8,D9,Da,Db,Dc,Dd,De,Df,Dg,Dh,Di,Dj],[]⟩ w := by
  rw [lb2_eq]
  obtain ⟨hrg,hen,hen30⟩ := hs.each e (List.mem_of_getElem? hk)
  have HEN := hidMk hen
  have HRG := hidMk (hrg.up hB)
  have HS := hidMk hs
  have HQ := hidMk hQ
  have HR := hidMk (hs.row hk hB)
  have HB := hidMk hB
  have HK := hidMk hk
  have hwz := hB.size
  have hnm : e.n ≤ 9223372036854775807 := by omega
  have H8 := hidMk h8
  have HO := hidMk ho
  have HG := hidMk hg
  clear hg
  clear h8 ho
  clear hs hQ hB hk hrg hen
  go_wp2_with (refine wpList_load_midA rfl 30 _ rfl g (k * 18) rfl (jobC e.J (.slice e.a e.n e.c)) _ HR.out Try.underlying30 rfl szJob ?_)
  refine (refGuided_any (G := e.J) HEN.out hnm _ HRG.out).mono ?_
  rintro e' w2 ⟨rfl,hb2⟩
  rw [← HG.out.1,← HG.out.2]
  have HB2 := hidMk (HB.out.trans (hb2.mono hwz))
  have H8' := hidMk (H8.out.below hb2 H8.out.lt)
  have HO' := hidMk (HO.out.up hb2)
  clear hb2
  go_wp2_with fail
  exact lbp3 HS.out HK.out hk3 HQ.out HB2.out H8'.out HO'.out HG.out
set_option maxHeartbeats 4000000 in
set_option maxRecDepth 1000000 in
theorem lbp1 {w1 : World} {g : Nat} {es : List Ent} {w0 : World} {k : Nat} {e : Ent} {Q : Exit → Act → World → Prop} {oa : Option Addr} {oc g8 : Nat} {w : World} {u0 u1 u2 u3 u4 u5 u9 A0 A1 A2 A3 A4 A5 A6 A7 A8 A9 Aa Ab Ac Ad Ae Af Ag Ah Ai Aj Ak Al Am An Ao Ap Aq Ar As At Au Av Aw Ax Ay Az C0 C1 C2 C3 C4 C5 C6 C7 C8 C9 Ca Cb Cc Cd Ce Cf Cg Ch Ci Cj Ck Cl Cm Cn Co Cp Cq Cr Cs Ct Cu Cv Cw Cx Cy Cz D0 D1 D2 D3 D4 D5 D6 D7 D8 D9 Da Db Dc Dd De Df Dg Dh Di Dj : Value} (hs : SL w0 w1 g es) (hk : es[k]? = some e) (hk3 : k < 3) (hQ : LQ Q w1 g k) (hB : Below w1.heap.size w1 w) (h8 : Bk w g8 30 (jobC e.J (.slice oa e.n oc))) (ho : Rg w w.heap.size oa e.J.sh) : Code.wp Try.prog lb1 Q ⟨#[u0,u1,u2,u3,u4,u5,(.slice (some ⟨g,0,none⟩) 3 3),(.int .i64 ↑k),(.pointer (some ⟨g8,0,none⟩)),u9,A0,A1,A2,A3,A4,A5,A6,A7,A8,A9,Aa,Ab,Ac,Ad,Ae,Af,Ag,Ah,Ai,Aj,Ak,Al,Am,An,Ao,Ap,Aq,Ar,As,At,Au,Av,Aw,Ax,Ay,Az,C0,C1,C2,C3,C4,C5,C6,C7,C8,C9,Ca,Cb,Cc,Cd,Ce,Cf,Cg,Ch,Ci,Cj,Ck,Cl,Cm,Cn,Co,Cp,Cq,Cr,Cs,Ct,Cu,Cv,Cw,Cx,Cy,Cz,D0,D1,D2,D3,D4,D5,D6,D7,D8,D9,Da,Db,Dc,Dd,De,Df,Dg,Dh,Di,Dj],[]⟩ w := by
  rw [lb1_eq]
  obtain ⟨hrg,hen,hen30⟩ := hs.each e (List.mem_of_getElem? hk)
  have HEN := hidMk hen
  have HRG := hidMk (hrg.up hB)
  have HS := hidMk hs
  have HQ := hidMk hQ
  have HR := hidMk (hs.row hk hB)
  have HB := hidMk hB
  have HK := hidMk hk
  have hwz := hB.size
  have hnm : e.n ≤ 9223372036854775807 := by omega
  have H8 := hidMk h8
  have HO := hidMk ho
  clear h8 ho
  clear hs hQ hB hk hrg hen
  go_wp2_with (refine wpList_load_row rfl 30 _ rfl g8 rfl _ (jobC e.J (.slice oa e.n oc)) _ _ H8.out Try.underlying30 rfl szJob ?_)
  refine (guided_any e.J oa e.n oc _ HEN.out hnm HO.out).mono ?_
  rintro e' w2 ⟨rfl,hb2⟩
  obtain ⟨gv,hgv⟩ : ∃ x,x = (guidedI e.J).1 := ⟨_,rfl⟩
  obtain ⟨ge,hge⟩ : ∃ x,x = (guidedI e.J).2 := ⟨_,rfl⟩
  rw [← hgv,← hge]
  have HG := hidMk (And.intro hgv hge)
  clear hgv hge
  have HB2 := hidMk (HB.out.trans (hb2.mono hwz))
  have H8' := hidMk (H8.out.below hb2 H8.out.lt)
  have HO' := hidMk (HO.out.up hb2)
  clear hb2
  go_wp2_with fail
  exact lbp2 HS.out HK.out hk3 HQ.out HB2.out H8'.out HO'.out HG.out
set_option maxHeartbeats 4000000 in
set_option maxRecDepth 1000000 in
theorem lbp0 {w1 : World} {g : Nat} {es : List Ent} {w0 : World} {k : Nat} {e : Ent} {Q : Exit → Act → World → Prop} {w : World} {u0 u1 u2 u3 u4 u5 u8 u9 A0 A1 A2 A3 A4 A5 A6 A7 A8 A9 Aa Ab Ac Ad Ae Af Ag Ah Ai Aj Ak Al Am An Ao Ap Aq Ar As At Au Av Aw Ax Ay Az C0 C1 C2 C3 C4 C5 C6 C7 C8 C9 Ca Cb Cc Cd Ce Cf Cg Ch Ci Cj Ck Cl Cm Cn Co Cp Cq Cr Cs Ct Cu Cv Cw Cx Cy Cz D0 D1 D2 D3 D4 D5 D6 D7 D8 D9 Da Db Dc Dd De Df Dg Dh Di Dj : Value} (hs : SL w0 w1 g es) (hk : es[k]? = some e) (hk3 : k < 3) (hQ : LQ Q w1 g k) (hB : Below w1.heap.size w1 w) : Code.wp Try.prog lb0 Q ⟨#[u0,u1,u2,u3,u4,u5,(.slice (some ⟨g,0,none⟩) 3 3),(.int .i64 ↑k),u8,u9,A0,A1,A2,A3,A4,A5,A6,A7,A8,A9,Aa,Ab,Ac,Ad,Ae,Af,Ag,Ah,Ai,Aj,Ak,Al,Am,An,Ao,Ap,Aq,Ar,As,At,Au,Av,Aw,Ax,Ay,Az,C0,C1,C2,C3,C4,C5,C6,C7,C8,C9,Ca,Cb,Cc,Cd,Ce,Cf,Cg,Ch,Ci,Cj,Ck,Cl,Cm,Cn,Co,Cp,Cq,Cr,Cs,Ct,Cu,Cv,Cw,Cx,Cy,Cz,D0,D1,D2,D3,D4,D5,D6,D7,D8,D9,Da,Db,Dc,Dd,De,Df,Dg,Dh,Di,Dj],[]⟩ w := by
  rw [lb0_eq]
  obtain ⟨hrg,hen,hen30⟩ := hs.each e (List.mem_of_getElem? hk)
  have HEN := hidMk hen
  have HRG := hidMk (hrg.up hB)
  have HS := hidMk hs
  have HQ := hidMk hQ
  have HR := hidMk (hs.row hk hB)
  have HB := hidMk hB
  have HK := hidMk hk
  have hwz := hB.size
  have hnm : e.n ≤ 9223372036854775807 := by omega
  clear hs hQ hB hk hrg hen
  go_wp2_with (refine wpList_load_midA rfl 30 _ rfl g (k * 18) rfl (jobC e.J (.slice e.a e.n e.c)) _ HR.out Try.underlying30 rfl szJob ?_)
  refine (copyJob_any e.J e.a e.n e.c _ HEN.out (by omega) HRG.out).mono ?_
  rintro e' w2 ⟨oa,oc,rfl,own,hb2⟩
  obtain ⟨_,_,e2,-,hog⟩ := Rg.of_own own
  cases e2
  have hz2 := hb2.size
  have HOG := hidMk hog
  have HB2 := hidMk (HB.out.trans (hb2.mono hwz))
  clear own hog hb2
  go_wp2_with (first | (refine wpList_store_row rfl 30 _ _ rfl w2.heap.size (jobC e.J (.slice oa e.n oc)) rfl rfl _ _ (Bk.new _ _ _) szJob rfl (oneJob _ _ _ _) ?_; rw [World.setRow_alloc_new]))
  exact lbp1 HS.out HK.out hk3 HQ.out (HB2.out.alloc (by omega) _) (Bk.new _ _ _) (HOG.out.up ((Below.refl _ _).alloc (Nat.le_refl _) _))
end Go.Proofs.Ytadmcafbffjjbaa
