/- Part 14 of the proof: BkE. -/
import Derived.Deep.WholeRow
import Derived.Deep.MidRow
import Derived.Test.YtadmcafbffjjbaaB12
import Derived.Test.YtadmcafbffjjbaaB13
import Derived.Test.YtadmcafbffjjbaaB01
/- The law ReedBlanks: what is done with one list. -/
namespace Go.Proofs.Ytadmcafbffjjbaa
set_option linter.all false
open Go.RowKit
noncomputable def bkbody : Code := Try.f4.body.getD .skip
noncomputable def bkrest1 : Code := sndB bkbody
noncomputable def bkrest2 : Code := sndB bkrest1
noncomputable def bkrest3 : Code := sndB bkrest2
noncomputable def bkrest4 : Code := sndB bkrest3
noncomputable def bkrest5 : Code := sndB bkrest4
noncomputable def bkrest6 : Code := sndB bkrest5
noncomputable def bkrest7 : Code := sndB bkrest6
noncomputable def bkrest8 : Code := sndB bkrest7
noncomputable def bkrest9 : Code := sndB bkrest8
noncomputable def bkrest10 : Code := sndB bkrest9
set_option maxRecDepth 1000000 in
theorem bkbody_eq : bkbody = .seq (Code.region 0 #[⟨some 5,.box 30 (.tmp 1),0,"law.go:116",#[],none⟩,⟨some 8,.assign (.const (.bool false)),4,"law.go:116",#[],none⟩] false) bkrest1 := by kernel_rfl
set_option maxRecDepth 1000000 in
theorem bkrest1_eq : bkrest1 = .seq (.seq (Code.region 1 #[⟨some 25,.move (.tmp 0),37,"law.go:117",#[],none⟩,⟨some 26,.call { callee := .builtin .len,args := #[.tmp 25],argTypes := #[37] },3,"law.go:117",#[⟨0,.data⟩],none⟩,⟨some 27,.binOp .gtr 3 (.tmp 26) (.const (.int .i64 20)) 3,4,"law.go:117",#[⟨1,.data⟩],none⟩,⟨some 28,.move (.tmp 27),4,"law.go:117",#[⟨2,.data⟩],none⟩,⟨some 29,.load 30 (.tmp 5),30,"law.go:117",#[⟨3,.guard⟩],some (3,false)⟩,⟨some 30,.call { callee := .value (.func 7),args := #[.tmp 29],argTypes := #[30] },4,"law.go:117",#[⟨4,.data⟩,⟨3,.chain⟩,⟨3,.guard⟩],some (3,false)⟩,⟨some 31,.pick (.tmp 28) (.const (.bool true)) (.tmp 30),4,"law.go:117",#[⟨3,.data⟩,⟨5,.data⟩],none⟩] false) (.cond (.tmp 31) (.seq (Code.region 2 #[⟨some 32,.call { callee := .value (.func 8),args := #[],argTypes := #[] },4,"law.go:118",#[],none⟩,⟨some 8,.assign (.tmp 32),4,"law.go:118",#[⟨0,.data⟩,⟨0,.chain⟩,⟨0,.phase⟩],none⟩] false) .ret) .skip)) bkrest2 := by kernel_rfl
set_option maxRecDepth 1000000 in
theorem bkrest2_eq : bkrest2 = .seq (.seq (Code.region 3 #[⟨some 9,.assign (.const (.int .i64 0)),3,"law.go:120",#[],none⟩] false) (.block 0 (.loop (.seq (.seq (Code.region 4 #[⟨some 33,.move (.tmp 9),3,"law.go:120",#[],none⟩,⟨some 34,.move (.tmp 0),37,"law.go:120",#[],none⟩,⟨some 35,.call { callee := .builtin .len,args := #[.tmp 34],argTypes := #[37] },3,"law.go:120",#[⟨1,.data⟩],none⟩,⟨some 36,.binOp .lss 3 (.tmp 33) (.tmp 35) 3,4,"law.go:120",#[⟨0,.data⟩,⟨2,.data⟩],none⟩] false) (.cond (.tmp 36) .skip (.exit 0))) (.seq (.block 1 (.seq (Code.region 6 #[⟨some 39,.move (.tmp 0),37,"law.go:121",#[],none⟩,⟨some 40,.move (.tmp 9),3,"law.go:121",#[],none⟩,⟨some 41,.indexAddr 37 (.tmp 39) (.tmp 40),0,"law.go:121",#[⟨0,.data⟩,⟨1,.data⟩],none⟩,⟨some 42,.load 30 (.tmp 41),30,"law.go:121",#[⟨2,.data⟩],none⟩,⟨some 43,.call { callee := .value (.func 7),args := #[.tmp 42],argTypes := #[30] },4,"law.go:121",#[⟨3,.data⟩],none⟩] false) (.cond (.tmp 43) (.seq (Code.region 7 #[⟨some 44,.call { callee := .value (.func 8),args := #[],argTypes := #[] },4,"law.go:122",#[],none⟩,⟨some 8,.assign (.tmp 44),4,"law.go:122",#[⟨0,.data⟩,⟨0,.chain⟩,⟨0,.phase⟩],none⟩] false) .ret) .skip))) (Code.region 5 #[⟨some 37,.move (.tmp 9),3,"law.go:120",#[],none⟩,⟨some 38,.binOp .add 3 (.tmp 37) (.const (.int .i64 1)) 3,3,"law.go:120",#[⟨0,.data⟩],none⟩,⟨some 9,.assign (.tmp 38),3,"law.go:120",#[⟨1,.data⟩,⟨0,.phase⟩,⟨1,.phase⟩],none⟩] false)))))) bkrest3 := by kernel_rfl
set_option maxRecDepth 1000000 in
theorem bkrest3_eq : bkrest3 = .seq (Code.region 8 #[⟨some 45,.move (.tmp 3),31,"law.go:125",#[],none⟩,⟨some 46,.call { callee := .value (.func 9),args := #[.tmp 45],argTypes := #[31] },34,"law.go:125",#[⟨0,.data⟩],none⟩,⟨some 10,.assign (.tmp 46),34,"law.go:125",#[⟨1,.data⟩,⟨1,.chain⟩,⟨0,.phase⟩,⟨1,.phase⟩],none⟩] false) bkrest4 := by kernel_rfl
set_option maxRecDepth 1000000 in
theorem bkrest4_eq : bkrest4 = .seq (Code.region 9 #[⟨some 11,.assign (.const (.slice none 0 0)),37,"law.go:126",#[],none⟩] false) bkrest5 := by kernel_rfl
set_option maxRecDepth 1000000 in
theorem bkrest5_eq : bkrest5 = .seq (.seq (Code.region 10 #[⟨some 47,.move (.tmp 10),34,"law.go:127",#[],none⟩,⟨some 48,.call { callee := .value (.func 17),args := #[.tmp 47,.const (.int .i64 1),.const (.int .i64 4)],argTypes := #[34,3,3] },3,"law.go:127",#[⟨0,.data⟩],none⟩,⟨some 12,.assign (.tmp 48),3,"law.go:127",#[⟨1,.data⟩,⟨1,.chain⟩,⟨0,.phase⟩,⟨1,.phase⟩],none⟩] false) (.block 2 (.loop (.seq (.seq (Code.region 11 #[⟨some 49,.move (.tmp 12),3,"law.go:127",#[],none⟩,⟨some 50,.binOp .gtr 3 (.tmp 49) (.const (.int .i64 0)) 3,4,"law.go:127",#[⟨0,.data⟩],none⟩] false) (.cond (.tmp 50) .skip (.exit 2))) (.seq (.block 3 (Code.region 13 #[⟨some 53,.move (.tmp 11),37,"law.go:128",#[],none⟩,⟨some 54,.move (.tmp 10),34,"law.go:128",#[],none⟩,⟨some 55,.call { callee := .value (.func 10),args := #[.tmp 54,.const (.int .i64 2),.const (.int .i64 1)],argTypes := #[34,3,3] },30,"law.go:128",#[⟨1,.data⟩],none⟩,⟨some 56,.buildSlice 37 1 #[(0,.tmp 55)],37,"law.go:128",#[⟨2,.data⟩],none⟩,⟨some 57,.call { callee := .builtin .append,args := #[.tmp 53,.tmp 56],argTypes := #[37,37] },37,"law.go:128",#[⟨0,.data⟩,⟨3,.data⟩,⟨2,.chain⟩],none⟩,⟨some 11,.assign (.tmp 57),37,"law.go:128",#[⟨4,.data⟩,⟨4,.chain⟩,⟨0,.phase⟩,⟨1,.phase⟩,⟨2,.phase⟩,⟨3,.phase⟩,⟨4,.phase⟩],none⟩] false)) (Code.region 12 #[⟨some 51,.move (.tmp 12),3,"law.go:127",#[],none⟩,⟨some 52,.binOp .sub 3 (.tmp 51) (.const (.int .i64 1)) 3,3,"law.go:127",#[⟨0,.data⟩],none⟩,⟨some 12,.assign (.tmp 52),3,"law.go:127",#[⟨1,.data⟩,⟨0,.phase⟩,⟨1,.phase⟩],none⟩] false)))))) bkrest6 := by kernel_rfl
set_option maxRecDepth 1000000 in
theorem bkrest6_eq : bkrest6 = .seq (Code.region 14 #[⟨some 58,.buildSlice 37 0 #[],37,"law.go:130",#[],none⟩,⟨some 59,.move (.tmp 11),37,"law.go:130",#[],none⟩,⟨some 60,.call { callee := .builtin .append,args := #[.tmp 58,.tmp 59],argTypes := #[37,37] },37,"law.go:130",#[⟨0,.data⟩,⟨1,.data⟩],none⟩,⟨some 13,.assign (.tmp 60),37,"law.go:130",#[⟨2,.data⟩,⟨2,.chain⟩,⟨0,.phase⟩,⟨1,.phase⟩,⟨2,.phase⟩],none⟩] false) bkrest7 := by kernel_rfl
set_option maxRecDepth 1000000 in
theorem bkrest7_eq : bkrest7 = .seq (Code.region 15 #[⟨some 61,.move (.tmp 13),37,"law.go:131",#[],none⟩,⟨some 62,.move (.tmp 2),3,"law.go:131",#[],none⟩,⟨some 63,.move (.tmp 13),37,"law.go:131",#[],none⟩,⟨some 64,.call { callee := .builtin .len,args := #[.tmp 63],argTypes := #[37] },3,"law.go:131",#[⟨2,.data⟩],none⟩,⟨some 65,.call { callee := .value (.func 18),args := #[.tmp 62,.tmp 64],argTypes := #[3,3] },3,"law.go:131",#[⟨1,.data⟩,⟨3,.data⟩],none⟩,⟨some 66,.load 30 (.tmp 5),30,"law.go:131",#[],none⟩,⟨some 67,.indexAddr 37 (.tmp 61) (.tmp 65),0,"law.go:131",#[⟨0,.data⟩,⟨4,.data⟩,⟨0,.phase⟩,⟨1,.phase⟩,⟨2,.phase⟩,⟨3,.phase⟩,⟨4,.phase⟩,⟨5,.phase⟩],none⟩,⟨none,.store 30 (.tmp 67) (.tmp 66),0,"law.go:131",#[⟨6,.data⟩,⟨5,.data⟩,⟨4,.chain⟩,⟨0,.phase⟩,⟨1,.phase⟩,⟨2,.phase⟩,⟨3,.phase⟩,⟨4,.phase⟩,⟨5,.phase⟩],none⟩] true) bkrest8 := by kernel_rfl
set_option maxRecDepth 1000000 in
theorem bkrest8_eq : bkrest8 = .seq (Code.region 16 #[⟨some 68,.move (.tmp 0),37,"law.go:132",#[],none⟩,⟨some 69,.move (.tmp 11),37,"law.go:132",#[],none⟩,⟨some 70,.move (.tmp 13),37,"law.go:132",#[],none⟩,⟨some 71,.buildSlice 47 3 #[(0,.tmp 68),(1,.tmp 69),(2,.tmp 70)],47,"law.go:132",#[⟨0,.data⟩,⟨1,.data⟩,⟨2,.data⟩],none⟩,⟨some 14,.assign (.tmp 71),47,"law.go:132",#[⟨3,.data⟩,⟨0,.phase⟩,⟨1,.phase⟩,⟨2,.phase⟩,⟨3,.phase⟩],none⟩] false) bkrest9 := by kernel_rfl
set_option maxRecDepth 1000000 in
theorem bkrest10_eq : bkrest10 = .seq (Code.region 34 #[⟨some 145,.call { callee := .value (.func 8),args := #[],argTypes := #[] },4,"law.go:149",#[],none⟩,⟨some 8,.assign (.tmp 145),4,"law.go:149",#[⟨0,.data⟩,⟨0,.chain⟩,⟨0,.phase⟩],none⟩] false) .ret := by kernel_rfl
noncomputable def blkN (n : Nat) : Code → Option Code
  | .block k c => if k = n then some c else blkN n c
  | .seq a b => match blkN n a with
    | some c => some c
    | none => blkN n b
  | .loop c => blkN n c
  | _ => none
noncomputable def kb0 : Code := (blkN 5 bkrest9).getD .skip
noncomputable def kb1 : Code := sndB kb0
noncomputable def kb2 : Code := sndB kb1
noncomputable def kb3 : Code := sndB kb2
noncomputable def kb4 : Code := sndB kb3
noncomputable def kb5 : Code := sndB kb4
set_option maxRecDepth 1000000 in
theorem kb0_eq : kb0 = .seq (Code.region 20 #[⟨some 16,.assign (.const (.slice none 0 0)),37,"law.go:134",#[],none⟩] false) kb1 := by kernel_rfl
set_option maxRecDepth 1000000 in
theorem kb1_eq : kb1 = .seq (.seq (Code.region 21 #[⟨some 17,.assign (.const (.int .i64 0)),3,"law.go:135",#[],none⟩] false) (.block 6 (.loop (.seq (.seq (Code.region 22 #[⟨some 78,.move (.tmp 17),3,"law.go:135",#[],none⟩,⟨some 79,.move (.tmp 14),47,"law.go:135",#[],none⟩,⟨some 80,.move (.tmp 15),3,"law.go:135",#[],none⟩,⟨some 81,.indexAddr 47 (.tmp 79) (.tmp 80),0,"law.go:135",#[⟨1,.data⟩,⟨2,.data⟩],none⟩,⟨some 82,.load 37 (.tmp 81),37,"law.go:135",#[⟨3,.data⟩],none⟩,⟨some 83,.call { callee := .builtin .len,args := #[.tmp 82],argTypes := #[37] },3,"law.go:135",#[⟨4,.data⟩],none⟩,⟨some 84,.binOp .lss 3 (.tmp 78) (.tmp 83) 3,4,"law.go:135",#[⟨0,.data⟩,⟨5,.data⟩],none⟩] false) (.cond (.tmp 84) .skip (.exit 6))) (.seq (.block 7 (Code.region 24 #[⟨some 87,.move (.tmp 16),37,"law.go:136",#[],none⟩,⟨some 88,.move (.tmp 14),47,"law.go:136",#[],none⟩,⟨some 89,.move (.tmp 15),3,"law.go:136",#[],none⟩,⟨some 90,.indexAddr 47 (.tmp 88) (.tmp 89),0,"law.go:136",#[⟨1,.data⟩,⟨2,.data⟩],none⟩,⟨some 91,.load 37 (.tmp 90),37,"law.go:136",#[⟨3,.data⟩],none⟩,⟨some 92,.move (.tmp 17),3,"law.go:136",#[],none⟩,⟨some 93,.indexAddr 37 (.tmp 91) (.tmp 92),0,"law.go:136",#[⟨4,.data⟩,⟨5,.data⟩],none⟩,⟨some 94,.load 30 (.tmp 93),30,"law.go:136",#[⟨6,.data⟩],none⟩,⟨some 95,.call { callee := .value (.func 11),args := #[.tmp 94],argTypes := #[30] },30,"law.go:136",#[⟨7,.data⟩],none⟩,⟨some 96,.buildSlice 37 1 #[(0,.tmp 95)],37,"law.go:136",#[⟨8,.data⟩],none⟩,⟨some 97,.call { callee := .builtin .append,args := #[.tmp 87,.tmp 96],argTypes := #[37,37] },37,"law.go:136",#[⟨0,.data⟩,⟨9,.data⟩,⟨8,.chain⟩],none⟩,⟨some 16,.assign (.tmp 97),37,"law.go:136",#[⟨10,.data⟩,⟨10,.chain⟩,⟨0,.phase⟩,⟨1,.phase⟩,⟨2,.phase⟩,⟨3,.phase⟩,⟨4,.phase⟩,⟨5,.phase⟩,⟨6,.phase⟩,⟨7,.phase⟩,⟨8,.phase⟩,⟨9,.phase⟩,⟨10,.phase⟩],none⟩] false)) (Code.region 23 #[⟨some 85,.move (.tmp 17),3,"law.go:135",#[],none⟩,⟨some 86,.binOp .add 3 (.tmp 85) (.const (.int .i64 1)) 3,3,"law.go:135",#[⟨0,.data⟩],none⟩,⟨some 17,.assign (.tmp 86),3,"law.go:135",#[⟨1,.data⟩,⟨0,.phase⟩,⟨1,.phase⟩],none⟩] false)))))) kb2 := by kernel_rfl
set_option maxRecDepth 1000000 in
theorem kb2_eq : kb2 = .seq (Code.region 25 #[⟨some 99,.move (.tmp 16),37,"law.go:138",#[],none⟩,⟨some 100,.call { callee := .value (.func 19),args := #[.tmp 99],argTypes := #[37] },42,"law.go:138",#[⟨0,.data⟩],none⟩,⟨some 98,.move (.tmp 100),42,"law.go:138",#[⟨1,.data⟩],none⟩,⟨some 101,.extract (.tmp 98) 0,3,"law.go:138",#[⟨2,.data⟩],none⟩,⟨some 102,.extract (.tmp 98) 1,3,"law.go:138",#[⟨2,.data⟩,⟨6,.gcOnly .lateStores⟩],none⟩,⟨some 103,.extract (.tmp 98) 2,39,"law.go:138",#[⟨2,.data⟩,⟨7,.gcOnly .lateStores⟩],none⟩,⟨some 18,.assign (.tmp 101),3,"law.go:138",#[⟨3,.data⟩,⟨1,.chain⟩,⟨0,.phase⟩,⟨1,.phase⟩,⟨2,.phase⟩,⟨3,.phase⟩,⟨4,.textOnly .lateStores⟩,⟨5,.textOnly .lateStores⟩],none⟩,⟨some 19,.assign (.tmp 102),3,"law.go:138",#[⟨4,.data⟩,⟨6,.chain⟩,⟨0,.phase⟩,⟨1,.phase⟩,⟨2,.phase⟩,⟨3,.phase⟩,⟨4,.phase⟩,⟨5,.textOnly .lateStores⟩,⟨6,.phase⟩],none⟩,⟨some 20,.assign (.tmp 103),39,"law.go:138",#[⟨5,.data⟩,⟨7,.chain⟩,⟨0,.phase⟩,⟨1,.phase⟩,⟨2,.phase⟩,⟨3,.phase⟩,⟨4,.phase⟩,⟨5,.phase⟩,⟨6,.phase⟩,⟨7,.phase⟩],none⟩] false) kb3 := by kernel_rfl
set_option maxRecDepth 1000000 in
theorem kb3_eq : kb3 = .seq (Code.region 26 #[⟨some 105,.move (.tmp 14),47,"law.go:139",#[],none⟩,⟨some 106,.move (.tmp 15),3,"law.go:139",#[],none⟩,⟨some 107,.indexAddr 47 (.tmp 105) (.tmp 106),0,"law.go:139",#[⟨0,.data⟩,⟨1,.data⟩],none⟩,⟨some 108,.load 37 (.tmp 107),37,"law.go:139",#[⟨2,.data⟩],none⟩,⟨some 109,.call { callee := .value (.func 20),args := #[.tmp 108],argTypes := #[37] },42,"law.go:139",#[⟨3,.data⟩],none⟩,⟨some 104,.move (.tmp 109),42,"law.go:139",#[⟨4,.data⟩],none⟩,⟨some 110,.extract (.tmp 104) 0,3,"law.go:139",#[⟨5,.data⟩],none⟩,⟨some 111,.extract (.tmp 104) 1,3,"law.go:139",#[⟨5,.data⟩,⟨9,.gcOnly .lateStores⟩],none⟩,⟨some 112,.extract (.tmp 104) 2,39,"law.go:139",#[⟨5,.data⟩,⟨10,.gcOnly .lateStores⟩],none⟩,⟨some 21,.assign (.tmp 110),3,"law.go:139",#[⟨6,.data⟩,⟨4,.chain⟩,⟨0,.phase⟩,⟨1,.phase⟩,⟨2,.phase⟩,⟨3,.phase⟩,⟨4,.phase⟩,⟨5,.phase⟩,⟨6,.phase⟩,⟨7,.textOnly .lateStores⟩,⟨8,.textOnly .lateStores⟩],none⟩,⟨some 22,.assign (.tmp 111),3,"law.go:139",#[⟨7,.data⟩,⟨9,.chain⟩,⟨0,.phase⟩,⟨1,.phase⟩,⟨2,.phase⟩,⟨3,.phase⟩,⟨4,.phase⟩,⟨5,.phase⟩,⟨6,.phase⟩,⟨7,.phase⟩,⟨8,.textOnly .lateStores⟩,⟨9,.phase⟩],none⟩,⟨some 23,.assign (.tmp 112),39,"law.go:139",#[⟨8,.data⟩,⟨10,.chain⟩,⟨0,.phase⟩,⟨1,.phase⟩,⟨2,.phase⟩,⟨3,.phase⟩,⟨4,.phase⟩,⟨5,.phase⟩,⟨6,.phase⟩,⟨7,.phase⟩,⟨8,.phase⟩,⟨9,.phase⟩,⟨10,.phase⟩],none⟩] false) kb4 := by kernel_rfl
set_option maxRecDepth 1000000 in
theorem kb4_eq : kb4 = .seq (.seq (Code.region 27 #[⟨some 113,.move (.tmp 18),3,"law.go:140",#[],none⟩,⟨some 114,.move (.tmp 21),3,"law.go:140",#[],none⟩,⟨some 115,.binOp .neq 3 (.tmp 113) (.tmp 114) 3,4,"law.go:140",#[⟨0,.data⟩,⟨1,.data⟩],none⟩,⟨some 116,.move (.tmp 115),4,"law.go:140",#[⟨2,.data⟩],none⟩,⟨some 117,.move (.tmp 19),3,"law.go:140",#[⟨3,.guard⟩],some (3,false)⟩,⟨some 118,.move (.tmp 22),3,"law.go:140",#[⟨3,.guard⟩],some (3,false)⟩,⟨some 119,.binOp .neq 3 (.tmp 117) (.tmp 118) 3,4,"law.go:140",#[⟨4,.data⟩,⟨5,.data⟩,⟨3,.guard⟩],some (3,false)⟩,⟨some 120,.pick (.tmp 116) (.const (.bool true)) (.tmp 119),4,"law.go:140",#[⟨3,.data⟩,⟨6,.data⟩],none⟩,⟨some 121,.move (.tmp 120),4,"law.go:140",#[⟨7,.data⟩,⟨3,.chain⟩],none⟩,⟨some 122,.move (.tmp 20),39,"law.go:140",#[⟨8,.guard⟩],some (8,false)⟩,⟨some 123,.move (.tmp 23),39,"law.go:140",#[⟨8,.guard⟩],some (8,false)⟩,⟨some 124,.binOp .neq 39 (.tmp 122) (.tmp 123) 39,4,"law.go:140",#[⟨9,.data⟩,⟨10,.data⟩,⟨8,.guard⟩],some (8,false)⟩,⟨some 125,.pick (.tmp 121) (.const (.bool true)) (.tmp 124),4,"law.go:140",#[⟨8,.data⟩,⟨11,.data⟩],none⟩] false) (.cond (.tmp 125) (.seq (Code.region 28 #[⟨some 8,.assign (.const (.bool false)),4,"law.go:141",#[],none⟩] false) .ret) .skip)) kb5 := by kernel_rfl
set_option maxRecDepth 1000000 in
theorem kb5_eq : kb5 = .seq (Code.region 29 #[⟨some 24,.assign (.const (.int .i64 0)),3,"law.go:143",#[],none⟩] false) (.block 8 (.loop (.seq (.seq (Code.region 30 #[⟨some 126,.move (.tmp 24),3,"law.go:143",#[],none⟩,⟨some 127,.move (.tmp 16),37,"law.go:143",#[],none⟩,⟨some 128,.call { callee := .builtin .len,args := #[.tmp 127],argTypes := #[37] },3,"law.go:143",#[⟨1,.data⟩],none⟩,⟨some 129,.binOp .lss 3 (.tmp 126) (.tmp 128) 3,4,"law.go:143",#[⟨0,.data⟩,⟨2,.data⟩],none⟩] false) (.cond (.tmp 129) .skip (.exit 8))) (.seq (.block 9 (.seq (Code.region 32 #[⟨some 132,.move (.tmp 16),37,"law.go:144",#[],none⟩,⟨some 133,.move (.tmp 24),3,"law.go:144",#[],none⟩,⟨some 134,.indexAddr 37 (.tmp 132) (.tmp 133),0,"law.go:144",#[⟨0,.data⟩,⟨1,.data⟩],none⟩,⟨some 135,.load 30 (.tmp 134),30,"law.go:144",#[⟨2,.data⟩],none⟩,⟨some 136,.move (.tmp 14),47,"law.go:144",#[],none⟩,⟨some 137,.move (.tmp 15),3,"law.go:144",#[],none⟩,⟨some 138,.indexAddr 47 (.tmp 136) (.tmp 137),0,"law.go:144",#[⟨4,.data⟩,⟨5,.data⟩],none⟩,⟨some 139,.load 37 (.tmp 138),37,"law.go:144",#[⟨6,.data⟩],none⟩,⟨some 140,.move (.tmp 24),3,"law.go:144",#[],none⟩,⟨some 141,.indexAddr 37 (.tmp 139) (.tmp 140),0,"law.go:144",#[⟨7,.data⟩,⟨8,.data⟩],none⟩,⟨some 142,.load 30 (.tmp 141),30,"law.go:144",#[⟨9,.data⟩],none⟩,⟨some 143,.call { callee := .value (.func 16),args := #[.tmp 135,.tmp 142],argTypes := #[30,30] },4,"law.go:144",#[⟨3,.data⟩,⟨10,.data⟩],none⟩,⟨some 144,.unOp .not 4 (.tmp 143),4,"law.go:144",#[⟨11,.data⟩],none⟩] true) (.cond (.tmp 144) (.seq (Code.region 33 #[⟨some 8,.assign (.const (.bool false)),4,"law.go:145",#[],none⟩] false) .ret) .skip))) (Code.region 31 #[⟨some 130,.move (.tmp 24),3,"law.go:143",#[],none⟩,⟨some 131,.binOp .add 3 (.tmp 130) (.const (.int .i64 1)) 3,3,"law.go:143",#[⟨0,.data⟩],none⟩,⟨some 24,.assign (.tmp 131),3,"law.go:143",#[⟨1,.data⟩,⟨0,.phase⟩,⟨1,.phase⟩],none⟩] false))))) := by kernel_rfl
set_option maxRecDepth 1000000 in
theorem bkrest9_cut : bkrest9 = .seq (.seq (Code.region 17 #[⟨some 15,.assign (.const (.int .i64 0)),3,"law.go:133",#[],none⟩] false) (.block 4 (.loop (.seq (.seq (Code.region 18 #[⟨some 72,.move (.tmp 15),3,"law.go:133",#[],none⟩,⟨some 73,.move (.tmp 14),47,"law.go:133",#[],none⟩,⟨some 74,.call { callee := .builtin .len,args := #[.tmp 73],argTypes := #[47] },3,"law.go:133",#[⟨1,.data⟩],none⟩,⟨some 75,.binOp .lss 3 (.tmp 72) (.tmp 74) 3,4,"law.go:133",#[⟨0,.data⟩,⟨2,.data⟩],none⟩] false) (.cond (.tmp 75) .skip (.exit 4))) (.seq (.block 5 kb0) (Code.region 19 #[⟨some 76,.move (.tmp 15),3,"law.go:133",#[],none⟩,⟨some 77,.binOp .add 3 (.tmp 76) (.const (.int .i64 1)) 3,3,"law.go:133",#[⟨0,.data⟩],none⟩,⟨some 15,.assign (.tmp 77),3,"law.go:133",#[⟨1,.data⟩,⟨0,.phase⟩,⟨1,.phase⟩],none⟩] false)))))) bkrest10 := by kernel_rfl
theorem yields_mid {P : Program} {ops : Array Oper} {S : World → Prop} {op : Oper} {a : Act} (hw : Region.wanted op (yielded ops a.tmps) = true) (ty : TypeId) (x : Operand) (ho : op.op = .load ty x)
    (b o : Nat) (hx : a.eval x = .pointer (some ⟨b,o,none⟩)) (cs : Array Value) (d : TypeDesc) (hS : ∀ w,S w → w.rangeAt b o cs.toList)
    (hu : P.underlying ty = some d) (hd : d.isRow = true) (hi : (P.info? ty).map (·.size) = some cs.size) : YieldsIf P ops S op (.agg cs) a := by
  have := yieldsIf_load_mid (P := P) (ops := ops) (S := S) hw ty x ho b o hx cs.toList d hS hu hd (by rw [Array.length_toList]; exact hi)
  rw [Array.toArray_toList] at this
  exact this
theorem Pt.ne {w : World} {b g : Nat} {t : TypeId} {cs : Array Value} (h : Pt w b) (hk : Bk w g t cs) (hc : cs.size ≠ 1) : g ≠ b := by
  rintro rfl
  obtain ⟨t',s,h⟩ := h
  have e := hk.symm.trans h
  cases e
  exact hc rfl

/-- A slice of jobs. -/
structure Ld where
  a : Option Addr
  n : Nat
  c : Nat
  es : List Ent
structure LS (w0 w1 : World) (gl b : Nat) (Ls : List Ld) : Prop where
  b0 : Below w0.heap.size w0 w1
  hb : w0.heap.size ≤ b
  pt : Pt w1 b
  arr : Bk w1 gl 37 (Ls.map fun L => Value.slice L.a L.n L.c).toArray
  len : Ls.length = 3
  each : ∀ L ∈ Ls,Js w1 w1.heap.size L.a L.n L.es ∧ L.n ≤ 20 ∧ ∀ e ∈ L.es,e.n ≤ 20
def LQ (Q : Exit → Act → World → Prop) (w1 : World) (gl b kk : Nat) : Prop := ∀ (u0 u1 u2 u3 u4 u5 u6 u7 u8 u9 A0 A1 A2 A3 A6 A7 A8 A9 Aa Ab Ac Ad Ae Af Ag Ah Ai Aj Ak Al Am An Ao Ap Aq Ar As At Au Av Aw Ax Ay Az C0 C1 C2 C3 C4 C5 C6 C7 C8 C9 Ca Cb Cc Cd Ce Cf Cg Ch Ci Cj Ck Cl Cm Cn Co Cp Cq Cr Cs Ct Cu Cv Cw Cx Cy Cz D0 D1 D2 D3 D4 D5 D6 D7 D8 D9 Da Db Dc Dd De Df Dg Dh Di Dj Dk Dl Dm Dn Do Dp Dq Dr Ds Dt Du Dv Dw Dx Dy Dz E0 E1 E2 E3 E4 E5 E6 E7 E8 E9 Ea Eb Ec Ed Ee Ef Eg Eh Ei Ej Ek El Em En Eo Ep Eq Er : Value) (w' : World),PB b w1.heap.size w1 w' → Pt w' b → Q .normal ⟨#[u0,u1,u2,u3,u4,u5,u6,u7,u8,u9,A0,A1,A2,A3,(.slice (some ⟨gl,0,none⟩) 3 3),(.int .i64 ↑kk),A6,A7,A8,A9,Aa,Ab,Ac,Ad,Ae,Af,Ag,Ah,Ai,Aj,Ak,Al,Am,An,Ao,Ap,Aq,Ar,As,At,Au,Av,Aw,Ax,Ay,Az,C0,C1,C2,C3,C4,C5,C6,C7,C8,C9,Ca,Cb,Cc,Cd,Ce,Cf,Cg,Ch,Ci,Cj,Ck,Cl,Cm,Cn,Co,Cp,Cq,Cr,Cs,Ct,Cu,Cv,Cw,Cx,Cy,Cz,D0,D1,D2,D3,D4,D5,D6,D7,D8,D9,Da,Db,Dc,Dd,De,Df,Dg,Dh,Di,Dj,Dk,Dl,Dm,Dn,Do,Dp,Dq,Dr,Ds,Dt,Du,Dv,Dw,Dx,Dy,Dz,E0,E1,E2,E3,E4,E5,E6,E7,E8,E9,Ea,Eb,Ec,Ed,Ee,Ef,Eg,Eh,Ei,Ej,Ek,El,Em,En,Eo,Ep,Eq,Er],[]⟩ w'
section
variable {w0 w1 w : World} {gl b : Nat} {Ls : List Ld} {kk : Nat} {a : Option Addr} {n c : Nat} {es : List Ent}
theorem MK.fresh {w1 w : World} {b : Nat} {v : Value} {k : Nat} {es : List Ent} (h : MK w1 b w v k es) {q : Nat} (hq : w.heap.size ≤ q) : v.ownBlock ≠ some q := fun e => by
  have := (own_block h.own q e).2
  omega
theorem LS.js (h : LS w0 w1 gl b Ls) (hk : Ls[kk]? = some ⟨a,n,c,es⟩) (hB : PB b w1.heap.size w1 w) : Js w w.heap.size a n es ∧ n ≤ 20 ∧ ∀ e ∈ es,e.n ≤ 20 := by
  obtain ⟨h1,h2,h3⟩ := h.each _ (List.mem_of_getElem? hk)
  exact ⟨h1.pb h.pt hB,h2,h3⟩
theorem LS.cell (h : LS w0 w1 gl b Ls) (hk : Ls[kk]? = some ⟨a,n,c,es⟩) (hB : PB b w1.heap.size w1 w) : w.cell? ⟨gl,kk,none⟩ = some (.slice a n c) := by
  have hne : gl ≠ b := h.pt.ne h.arr (show (Ls.map fun L => Value.slice L.a L.n L.c).toArray.size ≠ 1 by simp [h.len])
  refine (h.arr.pb hB h.arr.lt hne).at_ kk _ ?_
  simp [hk]
end
set_option maxHeartbeats 4000000 in
set_option maxRecDepth 1000000 in
theorem kbp5 {w0 w1 : World} {gl b : Nat} {Ls : List Ld} {kk : Nat} {a : Option Addr} {n c : Nat} {es : List Ent} {Q : Exit → Act → World → Prop} {oa : Option Addr} {oc : Nat} {es' : List Ent} {q1 q2 q3 : Int} {w : World} {u0 u1 u2 u3 u4 u5 u6 u7 u8 u9 A0 A1 A2 A3 A7 Ae Af Ag Ah Ai Aj Ak Al Am An Ao Ap Aq Ar As At Au Av Aw Ax Ay Az C0 C1 C2 C3 C4 C5 C6 C7 C8 C9 Ca Cb Cc Cd Ce Cf Cg Ch Ci Cj Ck Cl Cm Cn Co Cp Cq Cr Cs Ct Cu Cv Cw Cx Cy Cz D0 D1 D2 D3 D4 D5 D6 D7 D8 D9 Da Db Dc Dd De Df Dg Dh Di Dj Dk Dl Dm Dn Do Dp Dq Dr Ds Dt Du Dv Dw Dx Dy Dz E0 E1 E2 E3 E4 E5 E6 E7 E8 E9 Ea Eb Ec Ed Ee Ef Eg Eh Ei Ej Ek El Em En Eo Ep Eq Er : Value} (hs : LS w0 w1 gl b Ls) (hk : Ls[kk]? = some ⟨a,n,c,es⟩) (hk3 : kk < 3) (hQ : LQ Q w1 gl b kk) (hB : PB b w1.heap.size w1 w) (hp : Pt w b) (hjo : Js w w.heap.size oa n es') (hej : es'.map Ent.J = es.map Ent.J) (h20 : ∀ x ∈ es',x.n ≤ 20) (hq : q1 = (blankI (es.map Ent.J)).1 ∧ q2 = (blankI (es.map Ent.J)).2.1 ∧ q3 = (blankI (es.map Ent.J)).2.2) : Code.wp Try.prog kb5 Q ⟨#[u0,u1,u2,u3,u4,u5,u6,u7,u8,u9,A0,A1,A2,A3,(.slice (some ⟨gl,0,none⟩) 3 3),(.int .i64 ↑kk),(.slice oa n oc),A7,(.int .i64 q1),(.int .i64 q2),(.int .i64 q3),(.int .i64 q1),(.int .i64 q2),(.int .i64 q3),Ae,Af,Ag,Ah,Ai,Aj,Ak,Al,Am,An,Ao,Ap,Aq,Ar,As,At,Au,Av,Aw,Ax,Ay,Az,C0,C1,C2,C3,C4,C5,C6,C7,C8,C9,Ca,Cb,Cc,Cd,Ce,Cf,Cg,Ch,Ci,Cj,Ck,Cl,Cm,Cn,Co,Cp,Cq,Cr,Cs,Ct,Cu,Cv,Cw,Cx,Cy,Cz,D0,D1,D2,D3,D4,D5,D6,D7,D8,D9,Da,Db,Dc,Dd,De,Df,Dg,Dh,Di,Dj,Dk,Dl,Dm,Dn,Do,Dp,Dq,Dr,Ds,Dt,Du,Dv,Dw,Dx,Dy,Dz,E0,E1,E2,E3,E4,E5,E6,E7,E8,E9,Ea,Eb,Ec,Ed,Ee,Ef,Eg,Eh,Ei,Ej,Ek,El,Em,En,Eo,Ep,Eq,Er],[]⟩ w := by
  rw [kb5_eq]
  obtain ⟨hjs,hn20,hen20⟩ := hs.js hk hB
  have HJS := hidMk hjs
  have HEN := hidMk hen20
  have HS := hidMk hs
  have HQ := hidMk hQ
  have HB := hidMk hB
  have HP := hidMk hp
  have HK := hidMk hk
  have hki : (0 : Int) ≤ (kk : Int) := by omega
  have hki2 : (kk : Int) < 3 := by omega
  have HJO := hidMk hjo
  have HEJ := hidMk hej
  have H20 := hidMk h20
  have HX := hidMk hq
  clear hq
  clear hjo hej h20
  clear hjs hen20 hs hQ hB hp hk
  have HLN := hidMk (show es'.length = n by have := congrArg List.length HEJ.out; rw [List.length_map,List.length_map] at this; rw [this]; exact HJS.out.len.symm)
  go_wp2_with fail
  go_loopw [8,24] (fun _ iv wr => ∃ i : Nat,i ≤ n ∧ iv = .int .i64 i ∧ Below w.heap.size w wr) (fun _ iv _ => n - (intOf iv).toNat)
  case atStart => exact ⟨0,Nat.zero_le _,rfl,Below.refl _ _⟩
  case round =>
    obtain ⟨i,hi,rfl,hb⟩ := hrel
    by_cases hlt : i < n
    · have hil : i < es.length := by rw [← HJS.out.len]; exact hlt
      obtain ⟨e,he⟩ : ∃ e,es[i]? = some e := ⟨es[i]'hil,List.getElem?_eq_getElem hil⟩
      have hil2 : i < es'.length := by rw [HLN.out]; exact hlt
      obtain ⟨⟨xJ,xa,xn,xc⟩,hx⟩ : ∃ e,es'[i]? = some e := ⟨es'[i]'hil2,List.getElem?_eq_getElem hil2⟩
      have hJ : xJ = e.J := by
        have h1 := congrArg (fun l : List Jb => l[i]?) HEJ.out
        simp only [List.getElem?_map,hx,he,Option.map_some,Option.some.injEq] at h1
        exact h1
      subst hJ
      obtain ⟨hxr,hxn,_⟩ := HJO.out.each _ (List.mem_of_getElem? hx)
      obtain ⟨hrg,hen,hem⟩ := HJS.out.each e (List.mem_of_getElem? he)
      have hnn : xn = e.n := hxn.trans hen.symm
      subst hnn
      obtain ⟨b2,off2,rfl,hb2B,hrow2⟩ := HJO.out.row i _ hx
      obtain ⟨b',off,rfl,hbB,hrow⟩ := HJS.out.row i e he
      have he20 := HEN.out e (List.mem_of_getElem? he)
      have hz := hb.size
      have HROW := hidMk (fun w' (hw : Below wr.heap.size wr w') => rangeAt_keep (w' := w') hrow (fun p hp => (hw.cell (by rw [hp]; omega)).trans (hb.cell (by rw [hp]; exact hbB))))
      have HOROW := hidMk (fun w' (hw : Below wr.heap.size wr w') => rangeAt_keep (w' := w') hrow2 (fun p hp => (hw.cell (by rw [hp]; omega)).trans (hb.cell (by rw [hp]; exact hb2B))))
      have HRG := hidMk (hrg.up hb)
      have HXR := hidMk (hxr.up hb)
      have HN := hidMk hen
      have HC0 := hidMk ((hb.cell (p := ⟨gl,kk,none⟩) (World.block_lt_of_cell? w _ (HS.out.cell HK.out HB.out))).trans (HS.out.cell HK.out HB.out))
      have HGL := hidMk (show gl < wr.heap.size from Nat.lt_of_lt_of_le (World.block_lt_of_cell? w _ (HS.out.cell HK.out HB.out)) hz)
      have HBB := hidMk hb
      clear hx he hxr hxn hrg hen hrow hrow2 hb
      go_wp2_with fail
      refine region_via (R := fun a_ e_ a' w' => e_ = .normal ∧ ∃ (v132 v133 v134 v135 v136 v137 v138 v139 v140 v141 v142 v143 : Value),a' = (((((((((((((a_.put (some 132) v132).put (some 133) v133).put (some 134) v134).put (some 135) v135).put (some 136) v136).put (some 137) v137).put (some 138) v138).put (some 139) v139).put (some 140) v140).put (some 141) v141).put (some 142) v142).put (some 143) v143).put (some 144) (.bool false)) ∧ Below wr.heap.size wr w') ?_ ?_
      rotate_left
      · rintro e_ a' w' ⟨rfl,v132,v133,v134,v135,v136,v137,v138,v139,v140,v141,v142,v143,rfl,al⟩
        simp only [Act.put,aT,aZ,aS]
        have HB2 := hidMk (HBB.out.trans (al.mono hz))
        clear al
        go_wp2_with fail
        go_roundw
        case rel => exact ⟨i + 1,by omega,by go_num,HB2.out⟩
        case measure => simp [intOf]; omega
      have hBW : Below wr.heap.size wr wr.drew := (Below.refl _ _).drew
      refine wp_region_held_drew (S := fun w' => Below wr.heap.size wr w') (by kernel_rfl) hBW (fun hS0 => ?_)
      generalize hWd : wr.drew = wd at hS0 hBW ⊢
      clear hWd
      refine wpAnyH_take (i := 0) (oi := ⟨some 132,.move (.tmp 16),37,"law.go:144",#[],none⟩) (v := ?_) rfl (by kernel_rfl) (by kernel_rfl) (by kernel_rfl) (fun _ _ _ h => by cases h.1) (.inl ⟨by rfl,?_⟩) (by assumption) ?_
      rotate_left
      · (intro w' hSw; (try dsimp only at hSw); skip; go_simp <;> with_reducible rfl)
      (try simp only [Act.put,aT,aZ,aS])
      refine wpAnyH_take (i := 1) (oi := ⟨some 133,.move (.tmp 24),3,"law.go:144",#[],none⟩) (v := ?_) rfl (by kernel_rfl) (by kernel_rfl) (by kernel_rfl) (fun _ _ _ h => by cases h.1) (.inl ⟨by rfl,?_⟩) (by assumption) ?_
      rotate_left
      · (intro w' hSw; (try dsimp only at hSw); skip; go_simp <;> with_reducible rfl)
      (try simp only [Act.put,aT,aZ,aS])
      refine wpAnyH_take (i := 2) (oi := ⟨some 134,.indexAddr 37 (.tmp 132) (.tmp 133),0,"law.go:144",#[⟨0,.data⟩,⟨1,.data⟩],none⟩) (v := ?_) rfl (by kernel_rfl) (by kernel_rfl) (by kernel_rfl) (fun _ _ _ h => by cases h.1) (.inl ⟨by rfl,?_⟩) (by assumption) ?_
      rotate_left
      · (intro w' hSw; (try dsimp only at hSw); skip; go_simp <;> with_reducible rfl)
      (try simp only [Act.put,aT,aZ,aS])
      refine wpAnyH_take (i := 3) (oi := ⟨some 135,.load 30 (.tmp 134),30,"law.go:144",#[⟨2,.data⟩],none⟩) rfl (by kernel_rfl) (by kernel_rfl) (by kernel_rfl) (fun _ _ _ h => by cases h.1) (yields_mid (by rfl) 30 _ rfl b2 (off2 + i * 18) rfl (jobC e.J (.slice xa e.n xc)) _ (fun w' hw => HOROW.out w' hw) Try.underlying30 rfl szJob) (by assumption) ?_
      (try simp only [Act.put,aT,aZ,aS])
      refine wpAnyH_take (i := 4) (oi := ⟨some 136,.move (.tmp 14),47,"law.go:144",#[],none⟩) (v := ?_) rfl (by kernel_rfl) (by kernel_rfl) (by kernel_rfl) (fun _ _ _ h => by cases h.1) (.inl ⟨by rfl,?_⟩) (by assumption) ?_
      rotate_left
      · (intro w' hSw; (try dsimp only at hSw); skip; go_simp <;> with_reducible rfl)
      (try simp only [Act.put,aT,aZ,aS])
      refine wpAnyH_take (i := 5) (oi := ⟨some 137,.move (.tmp 15),3,"law.go:144",#[],none⟩) (v := ?_) rfl (by kernel_rfl) (by kernel_rfl) (by kernel_rfl) (fun _ _ _ h => by cases h.1) (.inl ⟨by rfl,?_⟩) (by assumption) ?_
      rotate_left
      · (intro w' hSw; (try dsimp only at hSw); skip; go_simp <;> with_reducible rfl)
      (try simp only [Act.put,aT,aZ,aS])
      refine wpAnyH_take (i := 6) (oi := ⟨some 138,.indexAddr 47 (.tmp 136) (.tmp 137),0,"law.go:144",#[⟨4,.data⟩,⟨5,.data⟩],none⟩) (v := ?_) rfl (by kernel_rfl) (by kernel_rfl) (by kernel_rfl) (fun _ _ _ h => by cases h.1) (.inl ⟨by rfl,?_⟩) (by assumption) ?_
      rotate_left
      · (intro w' hSw; (try dsimp only at hSw); skip; go_simp <;> with_reducible rfl)
      (try simp only [Act.put,aT,aZ,aS])
      refine wpAnyH_take (i := 7) (oi := ⟨some 139,.load 37 (.tmp 138),37,"law.go:144",#[⟨6,.data⟩],none⟩) (v := ?_) rfl (by kernel_rfl) (by kernel_rfl) (by kernel_rfl) (fun _ _ _ h => by cases h.1) (.inl ⟨by rfl,?_⟩) (by assumption) ?_
      rotate_left
      · (intro w' hSw; (try dsimp only at hSw); have q := (hSw.cell (p := ⟨gl,kk,none⟩) HGL.out).trans HC0.out; go_simp <;> with_reducible rfl)
      (try simp only [Act.put,aT,aZ,aS])
      refine wpAnyH_take (i := 8) (oi := ⟨some 140,.move (.tmp 24),3,"law.go:144",#[],none⟩) (v := ?_) rfl (by kernel_rfl) (by kernel_rfl) (by kernel_rfl) (fun _ _ _ h => by cases h.1) (.inl ⟨by rfl,?_⟩) (by assumption) ?_
      rotate_left
      · (intro w' hSw; (try dsimp only at hSw); skip; go_simp <;> with_reducible rfl)
      (try simp only [Act.put,aT,aZ,aS])
      refine wpAnyH_take (i := 9) (oi := ⟨some 141,.indexAddr 37 (.tmp 139) (.tmp 140),0,"law.go:144",#[⟨7,.data⟩,⟨8,.data⟩],none⟩) (v := ?_) rfl (by kernel_rfl) (by kernel_rfl) (by kernel_rfl) (fun _ _ _ h => by cases h.1) (.inl ⟨by rfl,?_⟩) (by assumption) ?_
      rotate_left
      · (intro w' hSw; (try dsimp only at hSw); skip; go_simp <;> with_reducible rfl)
      (try simp only [Act.put,aT,aZ,aS])
      refine wpAnyH_take (i := 10) (oi := ⟨some 142,.load 30 (.tmp 141),30,"law.go:144",#[⟨9,.data⟩],none⟩) rfl (by kernel_rfl) (by kernel_rfl) (by kernel_rfl) (fun _ _ _ h => by cases h.1) (yields_mid (by rfl) 30 _ rfl b' (off + i * 18) rfl (jobC e.J (.slice e.a e.n e.c)) _ (fun w' hw => HROW.out w' hw) Try.underlying30 rfl szJob) (by assumption) ?_
      (try simp only [Act.put,aT,aZ,aS])
      refine wpAnyH_ready (rs := [11]) (by kernel_rfl) (by simp) ?_
      refine AllReadyH.cons (o := ⟨some 143,.call { callee := .value (.func 16),args := #[.tmp 135,.tmp 142],argTypes := #[30,30] },4,"law.go:144",#[⟨3,.data⟩,⟨10,.data⟩],none⟩) rfl (fun K hK => ?_) ?_
      · go_simp
        go_at_call 16
        refine (sameJobs_any e.J xa e.a e.n xc e.c _ HN.out (by omega) (HXR.out.up hBW) (HRG.out.up hBW)).mono ?_
        rintro e' wX ⟨rfl,hbX⟩
        have hBW_ := hBW.trans (hbX.mono hBW.size)
        clear hBW
        have hBW := hBW_
        clear hBW_ hbX
        go_wp2_with fail
        refine hK.out _ _ hBW (fun _ => ?_)
        clear hK K
        (try simp only [Act.put,aT,aZ,aS])
        refine wpAnyH_take (i := 12) (oi := ⟨some 144,.unOp .not 4 (.tmp 143),4,"law.go:144",#[⟨11,.data⟩],none⟩) (v := ?_) rfl (by kernel_rfl) (by kernel_rfl) (by kernel_rfl) (fun _ _ _ h => by cases h.1) (.inl ⟨by rfl,?_⟩) (by assumption) ?_
        rotate_left
        · (intro w' hSw; (try dsimp only at hSw); skip; go_simp <;> with_reducible rfl)
        (try simp only [Act.put,aT,aZ,aS])
        refine wpAnyH_done (by kernel_rfl) ?_ _
        exact ⟨rfl,_,_,_,_,_,_,_,_,_,_,_,_,rfl,hBW⟩
      exact AllReadyH.nil
    · have HB2 := hidMk (HB.out.below hb HB.out.size)
      have HP2 := hidMk (HP.out.below hb HP.out.lt)
      clear hb
      go_wp2_with fail
      apply HQ.out
      · exact HB2.out
      · exact HP2.out
set_option maxHeartbeats 4000000 in
set_option maxRecDepth 1000000 in
theorem kbp4 {w0 w1 : World} {gl b : Nat} {Ls : List Ld} {kk : Nat} {a : Option Addr} {n c : Nat} {es : List Ent} {Q : Exit → Act → World → Prop} {oa : Option Addr} {oc : Nat} {es' : List Ent} {q1 q2 q3 : Int} {w : World} {u0 u1 u2 u3 u4 u5 u6 u7 u8 u9 A0 A1 A2 A3 A7 Ae Af Ag Ah Ai Aj Ak Al Am An Ao Ap Aq Ar As At Au Av Aw Ax Ay Az C0 C1 C2 C3 C4 C5 C6 C7 C8 C9 Ca Cb Cc Cd Ce Cf Cg Ch Ci Cj Ck Cl Cm Cn Co Cp Cq Cr Cs Ct Cu Cv Cw Cx Cy Cz D0 D1 D2 D3 D4 D5 D6 D7 D8 D9 Da Db Dc Dd De Df Dg Dh Di Dj Dk Dl Dm Dn Do Dp Dq Dr Ds Dt Du Dv Dw Dx Dy Dz E0 E1 E2 E3 E4 E5 E6 E7 E8 E9 Ea Eb Ec Ed Ee Ef Eg Eh Ei Ej Ek El Em En Eo Ep Eq Er : Value} (hs : LS w0 w1 gl b Ls) (hk : Ls[kk]? = some ⟨a,n,c,es⟩) (hk3 : kk < 3) (hQ : LQ Q w1 gl b kk) (hB : PB b w1.heap.size w1 w) (hp : Pt w b) (hjo : Js w w.heap.size oa n es') (hej : es'.map Ent.J = es.map Ent.J) (h20 : ∀ x ∈ es',x.n ≤ 20) (hq : q1 = (blankI (es.map Ent.J)).1 ∧ q2 = (blankI (es.map Ent.J)).2.1 ∧ q3 = (blankI (es.map Ent.J)).2.2) : Code.wp Try.prog kb4 Q ⟨#[u0,u1,u2,u3,u4,u5,u6,u7,u8,u9,A0,A1,A2,A3,(.slice (some ⟨gl,0,none⟩) 3 3),(.int .i64 ↑kk),(.slice oa n oc),A7,(.int .i64 q1),(.int .i64 q2),(.int .i64 q3),(.int .i64 q1),(.int .i64 q2),(.int .i64 q3),Ae,Af,Ag,Ah,Ai,Aj,Ak,Al,Am,An,Ao,Ap,Aq,Ar,As,At,Au,Av,Aw,Ax,Ay,Az,C0,C1,C2,C3,C4,C5,C6,C7,C8,C9,Ca,Cb,Cc,Cd,Ce,Cf,Cg,Ch,Ci,Cj,Ck,Cl,Cm,Cn,Co,Cp,Cq,Cr,Cs,Ct,Cu,Cv,Cw,Cx,Cy,Cz,D0,D1,D2,D3,D4,D5,D6,D7,D8,D9,Da,Db,Dc,Dd,De,Df,Dg,Dh,Di,Dj,Dk,Dl,Dm,Dn,Do,Dp,Dq,Dr,Ds,Dt,Du,Dv,Dw,Dx,Dy,Dz,E0,E1,E2,E3,E4,E5,E6,E7,E8,E9,Ea,Eb,Ec,Ed,Ee,Ef,Eg,Eh,Ei,Ej,Ek,El,Em,En,Eo,Ep,Eq,Er],[]⟩ w := by
  rw [kb4_eq]
  obtain ⟨hjs,hn20,hen20⟩ := hs.js hk hB
  have HJS := hidMk hjs
  have HEN := hidMk hen20
  have HS := hidMk hs
  have HQ := hidMk hQ
  have HB := hidMk hB
  have HP := hidMk hp
  have HK := hidMk hk
  have hki : (0 : Int) ≤ (kk : Int) := by omega
  have hki2 : (kk : Int) < 3 := by omega
  have HJO := hidMk hjo
  have HEJ := hidMk hej
  have H20 := hidMk h20
  have HX := hidMk hq
  clear hq
  clear hjo hej h20
  clear hjs hen20 hs hQ hB hp hk
  go_wp2_with fail
  exact kbp5 HS.out HK.out hk3 HQ.out HB.out HP.out HJO.out HEJ.out H20.out HX.out
set_option maxHeartbeats 4000000 in
set_option maxRecDepth 1000000 in
theorem kbp3 {w0 w1 : World} {gl b : Nat} {Ls : List Ld} {kk : Nat} {a : Option Addr} {n c : Nat} {es : List Ent} {Q : Exit → Act → World → Prop} {oa : Option Addr} {oc : Nat} {es' : List Ent} {q1 q2 q3 : Int} {w : World} {u0 u1 u2 u3 u4 u5 u6 u7 u8 u9 A0 A1 A2 A3 A7 Ab Ac Ad Ae Af Ag Ah Ai Aj Ak Al Am An Ao Ap Aq Ar As At Au Av Aw Ax Ay Az C0 C1 C2 C3 C4 C5 C6 C7 C8 C9 Ca Cb Cc Cd Ce Cf Cg Ch Ci Cj Ck Cl Cm Cn Co Cp Cq Cr Cs Ct Cu Cv Cw Cx Cy Cz D0 D1 D2 D3 D4 D5 D6 D7 D8 D9 Da Db Dc Dd De Df Dg Dh Di Dj Dk Dl Dm Dn Do Dp Dq Dr Ds Dt Du Dv Dw Dx Dy Dz E0 E1 E2 E3 E4 E5 E6 E7 E8 E9 Ea Eb Ec Ed Ee Ef Eg Eh Ei Ej Ek El Em En Eo Ep Eq Er : Value} (hs : LS w0 w1 gl b Ls) (hk : Ls[kk]? = some ⟨a,n,c,es⟩) (hk3 : kk < 3) (hQ : LQ Q w1 gl b kk) (hB : PB b w1.heap.size w1 w) (hp : Pt w b) (hjo : Js w w.heap.size oa n es') (hej : es'.map Ent.J = es.map Ent.J) (h20 : ∀ x ∈ es',x.n ≤ 20) (hq : q1 = (blankI (es.map Ent.J)).1 ∧ q2 = (blankI (es.map Ent.J)).2.1 ∧ q3 = (blankI (es.map Ent.J)).2.2) : Code.wp Try.prog kb3 Q ⟨#[u0,u1,u2,u3,u4,u5,u6,u7,u8,u9,A0,A1,A2,A3,(.slice (some ⟨gl,0,none⟩) 3 3),(.int .i64 ↑kk),(.slice oa n oc),A7,(.int .i64 q1),(.int .i64 q2),(.int .i64 q3),Ab,Ac,Ad,Ae,Af,Ag,Ah,Ai,Aj,Ak,Al,Am,An,Ao,Ap,Aq,Ar,As,At,Au,Av,Aw,Ax,Ay,Az,C0,C1,C2,C3,C4,C5,C6,C7,C8,C9,Ca,Cb,Cc,Cd,Ce,Cf,Cg,Ch,Ci,Cj,Ck,Cl,Cm,Cn,Co,Cp,Cq,Cr,Cs,Ct,Cu,Cv,Cw,Cx,Cy,Cz,D0,D1,D2,D3,D4,D5,D6,D7,D8,D9,Da,Db,Dc,Dd,De,Df,Dg,Dh,Di,Dj,Dk,Dl,Dm,Dn,Do,Dp,Dq,Dr,Ds,Dt,Du,Dv,Dw,Dx,Dy,Dz,E0,E1,E2,E3,E4,E5,E6,E7,E8,E9,Ea,Eb,Ec,Ed,Ee,Ef,Eg,Eh,Ei,Ej,Ek,El,Em,En,Eo,Ep,Eq,Er],[]⟩ w := by
  rw [kb3_eq]
  obtain ⟨hjs,hn20,hen20⟩ := hs.js hk hB
  have HJS := hidMk hjs
  have HEN := hidMk hen20
  have HS := hidMk hs
  have HQ := hidMk hQ
  have HB := hidMk hB
  have HP := hidMk hp
  have HK := hidMk hk
  have hki : (0 : Int) ≤ (kk : Int) := by omega
  have hki2 : (kk : Int) < 3 := by omega
  have HJO := hidMk hjo
  have HEJ := hidMk hej
  have H20 := hidMk h20
  have HX := hidMk hq
  clear hq
  clear hjo hej h20
  clear hjs hen20 hs hQ hB hp hk
  have c0 := HS.out.cell HK.out HB.out
  go_wp2_with fail
  refine (refBlank_any a n c es _ HJS.out (by omega)).mono ?_
  rintro e' w2 ⟨rfl,hb2⟩
  rw [← HX.out.1,← HX.out.2.1,← HX.out.2.2]
  clear c0
  have HB2 := hidMk (HB.out.below hb2 HB.out.size)
  have HP2 := hidMk (HP.out.below hb2 HP.out.lt)
  have HJO2 := hidMk (HJO.out.up hb2)
  clear hb2
  go_wp2_with fail
  exact kbp4 HS.out HK.out hk3 HQ.out HB2.out HP2.out HJO2.out HEJ.out H20.out HX.out
set_option maxHeartbeats 4000000 in
set_option maxRecDepth 1000000 in
theorem kbp2 {w0 w1 : World} {gl b : Nat} {Ls : List Ld} {kk : Nat} {a : Option Addr} {n c : Nat} {es : List Ent} {Q : Exit → Act → World → Prop} {oa : Option Addr} {oc : Nat} {es' : List Ent} {w : World} {u0 u1 u2 u3 u4 u5 u6 u7 u8 u9 A0 A1 A2 A3 A7 A8 A9 Aa Ab Ac Ad Ae Af Ag Ah Ai Aj Ak Al Am An Ao Ap Aq Ar As At Au Av Aw Ax Ay Az C0 C1 C2 C3 C4 C5 C6 C7 C8 C9 Ca Cb Cc Cd Ce Cf Cg Ch Ci Cj Ck Cl Cm Cn Co Cp Cq Cr Cs Ct Cu Cv Cw Cx Cy Cz D0 D1 D2 D3 D4 D5 D6 D7 D8 D9 Da Db Dc Dd De Df Dg Dh Di Dj Dk Dl Dm Dn Do Dp Dq Dr Ds Dt Du Dv Dw Dx Dy Dz E0 E1 E2 E3 E4 E5 E6 E7 E8 E9 Ea Eb Ec Ed Ee Ef Eg Eh Ei Ej Ek El Em En Eo Ep Eq Er : Value} (hs : LS w0 w1 gl b Ls) (hk : Ls[kk]? = some ⟨a,n,c,es⟩) (hk3 : kk < 3) (hQ : LQ Q w1 gl b kk) (hB : PB b w1.heap.size w1 w) (hp : Pt w b) (hjo : Js w w.heap.size oa n es') (hej : es'.map Ent.J = es.map Ent.J) (h20 : ∀ x ∈ es',x.n ≤ 20) : Code.wp Try.prog kb2 Q ⟨#[u0,u1,u2,u3,u4,u5,u6,u7,u8,u9,A0,A1,A2,A3,(.slice (some ⟨gl,0,none⟩) 3 3),(.int .i64 ↑kk),(.slice oa n oc),A7,A8,A9,Aa,Ab,Ac,Ad,Ae,Af,Ag,Ah,Ai,Aj,Ak,Al,Am,An,Ao,Ap,Aq,Ar,As,At,Au,Av,Aw,Ax,Ay,Az,C0,C1,C2,C3,C4,C5,C6,C7,C8,C9,Ca,Cb,Cc,Cd,Ce,Cf,Cg,Ch,Ci,Cj,Ck,Cl,Cm,Cn,Co,Cp,Cq,Cr,Cs,Ct,Cu,Cv,Cw,Cx,Cy,Cz,D0,D1,D2,D3,D4,D5,D6,D7,D8,D9,Da,Db,Dc,Dd,De,Df,Dg,Dh,Di,Dj,Dk,Dl,Dm,Dn,Do,Dp,Dq,Dr,Ds,Dt,Du,Dv,Dw,Dx,Dy,Dz,E0,E1,E2,E3,E4,E5,E6,E7,E8,E9,Ea,Eb,Ec,Ed,Ee,Ef,Eg,Eh,Ei,Ej,Ek,El,Em,En,Eo,Ep,Eq,Er],[]⟩ w := by
  rw [kb2_eq]
  obtain ⟨hjs,hn20,hen20⟩ := hs.js hk hB
  have HJS := hidMk hjs
  have HEN := hidMk hen20
  have HS := hidMk hs
  have HQ := hidMk hQ
  have HB := hidMk hB
  have HP := hidMk hp
  have HK := hidMk hk
  have hki : (0 : Int) ≤ (kk : Int) := by omega
  have hki2 : (kk : Int) < 3 := by omega
  have HJO := hidMk hjo
  have HEJ := hidMk hej
  have H20 := hidMk h20
  clear hjo hej h20
  clear hjs hen20 hs hQ hB hp hk
  go_wp2_with fail
  refine (blank_any oa n oc es' _ HJO.out (by omega)).mono ?_
  rintro e' w2 ⟨rfl,hb2⟩
  rw [HEJ.out]
  obtain ⟨q1,h1⟩ : ∃ x,x = (blankI (es.map Ent.J)).1 := ⟨_,rfl⟩
  obtain ⟨q2,h2⟩ : ∃ x,x = (blankI (es.map Ent.J)).2.1 := ⟨_,rfl⟩
  obtain ⟨q3,h3⟩ : ∃ x,x = (blankI (es.map Ent.J)).2.2 := ⟨_,rfl⟩
  rw [← h1,← h2,← h3]
  have HX := hidMk (And.intro h1 (And.intro h2 h3))
  clear h1 h2 h3
  have HB2 := hidMk (HB.out.below hb2 HB.out.size)
  have HP2 := hidMk (HP.out.below hb2 HP.out.lt)
  have HJO2 := hidMk (HJO.out.up hb2)
  clear hb2
  go_wp2_with fail
  exact kbp3 HS.out HK.out hk3 HQ.out HB2.out HP2.out HJO2.out HEJ.out H20.out HX.out
set_option maxHeartbeats 4000000 in
set_option maxRecDepth 1000000 in
theorem kbp1 {w0 w1 : World} {gl b : Nat} {Ls : List Ld} {kk : Nat} {a : Option Addr} {n c : Nat} {es : List Ent} {Q : Exit → Act → World → Prop} {w : World} {u0 u1 u2 u3 u4 u5 u6 u7 u8 u9 A0 A1 A2 A3 A7 A8 A9 Aa Ab Ac Ad Ae Af Ag Ah Ai Aj Ak Al Am An Ao Ap Aq Ar As At Au Av Aw Ax Ay Az C0 C1 C2 C3 C4 C5 C6 C7 C8 C9 Ca Cb Cc Cd Ce Cf Cg Ch Ci Cj Ck Cl Cm Cn Co Cp Cq Cr Cs Ct Cu Cv Cw Cx Cy Cz D0 D1 D2 D3 D4 D5 D6 D7 D8 D9 Da Db Dc Dd De Df Dg Dh Di Dj Dk Dl Dm Dn Do Dp Dq Dr Ds Dt Du Dv Dw Dx Dy Dz E0 E1 E2 E3 E4 E5 E6 E7 E8 E9 Ea Eb Ec Ed Ee Ef Eg Eh Ei Ej Ek El Em En Eo Ep Eq Er : Value} (hs : LS w0 w1 gl b Ls) (hk : Ls[kk]? = some ⟨a,n,c,es⟩) (hk3 : kk < 3) (hQ : LQ Q w1 gl b kk) (hB : PB b w1.heap.size w1 w) (hp : Pt w b) : Code.wp Try.prog kb1 Q ⟨#[u0,u1,u2,u3,u4,u5,u6,u7,u8,u9,A0,A1,A2,A3,(.slice (some ⟨gl,0,none⟩) 3 3),(.int .i64 ↑kk),(.slice none 0 0),A7,A8,A9,Aa,Ab,Ac,Ad,Ae,Af,Ag,Ah,Ai,Aj,Ak,Al,Am,An,Ao,Ap,Aq,Ar,As,At,Au,Av,Aw,Ax,Ay,Az,C0,C1,C2,C3,C4,C5,C6,C7,C8,C9,Ca,Cb,Cc,Cd,Ce,Cf,Cg,Ch,Ci,Cj,Ck,Cl,Cm,Cn,Co,Cp,Cq,Cr,Cs,Ct,Cu,Cv,Cw,Cx,Cy,Cz,D0,D1,D2,D3,D4,D5,D6,D7,D8,D9,Da,Db,Dc,Dd,De,Df,Dg,Dh,Di,Dj,Dk,Dl,Dm,Dn,Do,Dp,Dq,Dr,Ds,Dt,Du,Dv,Dw,Dx,Dy,Dz,E0,E1,E2,E3,E4,E5,E6,E7,E8,E9,Ea,Eb,Ec,Ed,Ee,Ef,Eg,Eh,Ei,Ej,Ek,El,Em,En,Eo,Ep,Eq,Er],[]⟩ w := by
  rw [kb1_eq]
  obtain ⟨hjs,hn20,hen20⟩ := hs.js hk hB
  have HJS := hidMk hjs
  have HEN := hidMk hen20
  have HS := hidMk hs
  have HQ := hidMk hQ
  have HB := hidMk hB
  have HP := hidMk hp
  have HK := hidMk hk
  have hki : (0 : Int) ≤ (kk : Int) := by omega
  have hki2 : (kk : Int) < 3 := by omega
  clear hjs hen20 hs hQ hB hp hk
  obtain ⟨ti,tz,ha1,ha2,ha3,ha4,ha5⟩ := infoJ
  have Hi := hidMk ha1
  have Hz := hidMk ha2
  have Hsz := hidMk ha3
  have Hby := hidMk ha4
  have Hzs := hidMk ha5
  clear ha1 ha2 ha3 ha4 ha5
  refine wp_seq_k fun K0 hK0 => ?_
  go_wp2_with fail
  go_loopw [16,17] (fun v iv wr => ∃ (i : Nat) (es' : List Ent),i ≤ n ∧ iv = .int .i64 i ∧ Hid (es'.map Ent.J = (es.take i).map Ent.J) ∧ Hid (MK w b wr v i es')) (fun _ iv _ => n - (intOf iv).toNat)
  case atStart => exact ⟨0,[],Nat.zero_le _,rfl,hidMk (by simp),hidMk (MK.start HP.out)⟩
  case round =>
    obtain ⟨i,es',hi,rfl,HE,HM⟩ := hrel
    have HJR := hidMk (HJS.out.pb HP.out HM.out.pb)
    have c0 := HS.out.cell HK.out (HB.out.trans HM.out.pb HB.out.size)
    have hzr := HM.out.pb.size
    by_cases hlt : i < n
    · have hil : i < es.length := by rw [← HJS.out.len]; exact hlt
      obtain ⟨e,he⟩ : ∃ e,es[i]? = some e := ⟨es[i]'hil,List.getElem?_eq_getElem hil⟩
      obtain ⟨b',off,rfl,hbB,hrow⟩ := HJR.out.row i e he
      obtain ⟨hrg,hen,hem⟩ := HJR.out.each e (List.mem_of_getElem? he)
      have he20 := HEN.out e (List.mem_of_getElem? he)
      have HROW := hidMk hrow
      have HRG := hidMk hrg
      have HE1 := hidMk he
      have HN := hidMk hen
      clear hrow hrg he hen
      go_wp2_with (refine wpList_load_midA rfl 30 _ rfl b' (off + i * 18) rfl (jobC e.J (.slice e.a e.n e.c)) _ HROW.out Try.underlying30 rfl szJob ?_)
      refine (copyJob_any e.J e.a e.n e.c _ HN.out (by omega) HRG.out).mono ?_
      rintro e2 w2 ⟨oa',oc',rfl,own,hb2⟩
      have HFR := hidMk (fun q (hq : (Value.slice oa' e.n oc').ownBlock = some q) => (own_block own q hq).1)
      obtain ⟨_,_,e3,-,hog⟩ := Rg.of_own own
      cases e3
      have HM1 := hidMk (HM.out.next hb2)
      have HM2 := hidMk (HM1.out.next ((Below.refl _ _).alloc (Nat.le_refl _) (.cells (jobC e.J (.slice oa' e.n oc')) 30)))
      have HOG := hidMk (hog.up ((Below.refl _ _).alloc (Nat.le_refl _) (.cells (jobC e.J (.slice oa' e.n oc')) 30)))
      have HBS := hidMk (show w.heap.size ≤ (w2.alloc (.cells (jobC e.J (.slice oa' e.n oc')) 30)).heap.size from HM2.out.pb.size)
      have HFV := hidMk (show e.J.sh ≠ [] → ∀ q o,oa' = some ⟨q,o,none⟩ → Value.ownBlock _ ≠ some q from fun _ q o hq => HM.out.fresh (HFR.out q (by rw [hq]; rfl)))
      clear own hog hb2 c0
      go_wp2_with (at_builtin; refine wpList_append_own_at _ rfl (.tmp 87) (.tmp 96) 37 rfl w.heap.size 30 ti tz 18 160 Try.underlying37 Hi.out Hz.out Hsz.out Hby.out Hzs.out (by decide) _ i (flatE es') rfl HM2.out.own ⟨w2.heap.size,0,none⟩ 1 1 (jobC e.J (.slice oa' e.n oc')).toList rfl rfl (fun j u hu => by rw [Addr.add_mid,Nat.zero_add]; exact (Bk.new w2 30 (jobC e.J (.slice oa' e.n oc'))).at_ j u (by simpa using hu)) (fun u hu => (Array.all_eq_true_iff_forall_mem.1 (oneJob e.J oa' e.n oc')) u (by simpa using hu)) (by unfold maxLen; omega) (by omega) HBS.out ?_; intro v' w3 own' hg _ at_)
      go_roundw
      case rel =>
        refine ⟨i + 1,es' ++ [⟨e.J,oa',e.n,oc'⟩],by omega,by go_num,hidMk ?_,hidMk (HM2.out.app (e := ⟨e.J,oa',e.n,oc'⟩) own' hg at_ ⟨HOG.out,HN.out,he20,HFV.out⟩)⟩
        rw [List.map_append,HE.out,List.take_add_one,HE1.out,List.map_append]
        rfl
      case measure => simp [intOf]; omega
    · have hin : i = n := by omega
      subst hin
      obtain ⟨oa,oc,rfl,hjo⟩ := HM.out.js
      have HJO := hidMk hjo
      have HEJ := hidMk (show es'.map Ent.J = es.map Ent.J by rw [HE.out,List.take_of_length_le (by rw [← HJS.out.len]; exact Nat.le_refl _)])
      have HE20 := hidMk (fun x (hx : x ∈ es') => (HM.out.each x hx).2.2.1)
      have HB2 := hidMk (HB.out.trans HM.out.pb HB.out.size)
      have HP2 := hidMk HM.out.pt
      clear hjo
      go_wp2_with fail
      exact kbp2 HS.out HK.out hk3 HQ.out HB2.out HP2.out HJO.out HEJ.out HE20.out
set_option maxHeartbeats 4000000 in
set_option maxRecDepth 1000000 in
theorem kbp0 {w0 w1 : World} {gl b : Nat} {Ls : List Ld} {kk : Nat} {a : Option Addr} {n c : Nat} {es : List Ent} {Q : Exit → Act → World → Prop} {w : World} {u0 u1 u2 u3 u4 u5 u6 u7 u8 u9 A0 A1 A2 A3 A6 A7 A8 A9 Aa Ab Ac Ad Ae Af Ag Ah Ai Aj Ak Al Am An Ao Ap Aq Ar As At Au Av Aw Ax Ay Az C0 C1 C2 C3 C4 C5 C6 C7 C8 C9 Ca Cb Cc Cd Ce Cf Cg Ch Ci Cj Ck Cl Cm Cn Co Cp Cq Cr Cs Ct Cu Cv Cw Cx Cy Cz D0 D1 D2 D3 D4 D5 D6 D7 D8 D9 Da Db Dc Dd De Df Dg Dh Di Dj Dk Dl Dm Dn Do Dp Dq Dr Ds Dt Du Dv Dw Dx Dy Dz E0 E1 E2 E3 E4 E5 E6 E7 E8 E9 Ea Eb Ec Ed Ee Ef Eg Eh Ei Ej Ek El Em En Eo Ep Eq Er : Value} (hs : LS w0 w1 gl b Ls) (hk : Ls[kk]? = some ⟨a,n,c,es⟩) (hk3 : kk < 3) (hQ : LQ Q w1 gl b kk) (hB : PB b w1.heap.size w1 w) (hp : Pt w b) : Code.wp Try.prog kb0 Q ⟨#[u0,u1,u2,u3,u4,u5,u6,u7,u8,u9,A0,A1,A2,A3,(.slice (some ⟨gl,0,none⟩) 3 3),(.int .i64 ↑kk),A6,A7,A8,A9,Aa,Ab,Ac,Ad,Ae,Af,Ag,Ah,Ai,Aj,Ak,Al,Am,An,Ao,Ap,Aq,Ar,As,At,Au,Av,Aw,Ax,Ay,Az,C0,C1,C2,C3,C4,C5,C6,C7,C8,C9,Ca,Cb,Cc,Cd,Ce,Cf,Cg,Ch,Ci,Cj,Ck,Cl,Cm,Cn,Co,Cp,Cq,Cr,Cs,Ct,Cu,Cv,Cw,Cx,Cy,Cz,D0,D1,D2,D3,D4,D5,D6,D7,D8,D9,Da,Db,Dc,Dd,De,Df,Dg,Dh,Di,Dj,Dk,Dl,Dm,Dn,Do,Dp,Dq,Dr,Ds,Dt,Du,Dv,Dw,Dx,Dy,Dz,E0,E1,E2,E3,E4,E5,E6,E7,E8,E9,Ea,Eb,Ec,Ed,Ee,Ef,Eg,Eh,Ei,Ej,Ek,El,Em,En,Eo,Ep,Eq,Er],[]⟩ w := by
  rw [kb0_eq]
  have HS := hidMk hs
  have HQ := hidMk hQ
  have HB := hidMk hB
  have HP := hidMk hp
  have HK := hidMk hk
  clear hs hQ hB hp hk
  go_wp2_with fail
  exact kbp1 HS.out HK.out hk3 HQ.out HB.out HP.out
end Go.Proofs.Ytadmcafbffjjbaa
