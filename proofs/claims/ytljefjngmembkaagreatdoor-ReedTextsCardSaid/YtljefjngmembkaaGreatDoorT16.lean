/- Part 16 of the proof: JoB, JoC. -/
import Derived.Deep.WholeRow
import Derived.Deep.MidRow
import Derived.Maps.AppendAt
import Derived.Test.YtljefjngmembkaaGreatDoorT15
import Derived.Test.YtljefjngmembkaaGreatDoorT12
import Derived.Test.YtljefjngmembkaaGreatDoorT11
namespace Go.Proofs.YtljefjngmembkaaGreatDoor
set_option linter.all false
open Go.RowKit
noncomputable def jobody : Code := Tryz.f6.body.getD .skip
noncomputable def jorest1 : Code := sndB jobody
noncomputable def jorest2 : Code := sndB jorest1
noncomputable def jorest3 : Code := sndB jorest2
noncomputable def jorest4 : Code := sndB jorest3
noncomputable def jorest5 : Code := sndB jorest4
noncomputable def jorest6 : Code := sndB jorest5
noncomputable def jorest7 : Code := sndB jorest6
noncomputable def jorest8 : Code := sndB jorest7
noncomputable def jorest9 : Code := sndB jorest8
set_option maxRecDepth 1000000 in
theorem jobody_eq : jobody = .seq (Code.region 0 #[⟨some 6,.alloc 30,0,"jobs.go:6",#[],none⟩] false) jorest1 := by kernel_rfl
set_option maxRecDepth 1000000 in
theorem jorest1_eq : jorest1 = .seq (Code.region 1 #[⟨some 10,.move (.tmp 0),34,"jobs.go:7",#[],none⟩,⟨some 11,.call { callee := .value (.func 24),args := #[.tmp 10,.const (.int .i64 1),.const (.int .i64 6)],argTypes := #[34,3,3] },3,"jobs.go:7",#[⟨0,.data⟩],none⟩,⟨some 12,.move (.tmp 0),34,"jobs.go:7",#[],none⟩,⟨some 13,.move (.tmp 0),34,"jobs.go:7",#[],none⟩,⟨some 14,.call { callee := .value (.func 26),args := #[.tmp 13,.const (.int .i64 3)],argTypes := #[34,3] },3,"jobs.go:7",#[⟨3,.data⟩,⟨1,.chain⟩],none⟩,⟨some 15,.buildSlice 31 3 #[(0,.const (.int .i64 0)),(1,.const (.int .i64 1)),(2,.tmp 14)],31,"jobs.go:7",#[⟨4,.data⟩],none⟩,⟨some 16,.call { callee := .value (.func 25),args := #[.tmp 12,.tmp 15],argTypes := #[34,31] },3,"jobs.go:7",#[⟨2,.data⟩,⟨5,.data⟩,⟨4,.chain⟩],none⟩,⟨some 17,.build 30 #[(3,.tmp 11),(4,.tmp 16)],30,"jobs.go:7",#[⟨1,.data⟩,⟨6,.data⟩],none⟩,⟨some 7,.alloc 30,0,"jobs.go:7",#[],none⟩,⟨none,.store 30 (.tmp 7) (.tmp 17),0,"jobs.go:7",#[⟨8,.data⟩,⟨7,.data⟩,⟨6,.chain⟩,⟨0,.phase⟩,⟨1,.phase⟩,⟨2,.phase⟩,⟨3,.phase⟩,⟨4,.phase⟩,⟨5,.phase⟩,⟨6,.phase⟩,⟨7,.phase⟩,⟨8,.phase⟩],none⟩] false) jorest2 := by kernel_rfl
set_option maxRecDepth 1000000 in
theorem jorest2_eq : jorest2 = .seq (Code.region 2 #[⟨some 18,.move (.tmp 0),34,"jobs.go:8",#[],none⟩,⟨some 19,.call { callee := .value (.func 24),args := #[.tmp 18,.const (.int .i64 (-16)),.const (.int .i64 16)],argTypes := #[34,3,3] },3,"jobs.go:8",#[⟨0,.data⟩],none⟩,⟨some 8,.assign (.tmp 19),3,"jobs.go:8",#[⟨1,.data⟩,⟨1,.chain⟩,⟨0,.phase⟩,⟨1,.phase⟩],none⟩] false) jorest3 := by kernel_rfl
set_option maxRecDepth 1000000 in
theorem jorest3_eq : jorest3 = .seq (Code.region 3 #[⟨some 20,.move (.tmp 0),34,"jobs.go:9",#[],none⟩,⟨some 21,.move (.tmp 8),3,"jobs.go:9",#[],none⟩,⟨some 22,.move (.tmp 1),3,"jobs.go:9",#[],none⟩,⟨some 23,.call { callee := .value (.func 27),args := #[.tmp 20,.tmp 21,.const (.int .i64 (-60)),.const (.int .i64 60),.tmp 22],argTypes := #[34,3,3,3,3] },23,"jobs.go:9",#[⟨0,.data⟩,⟨1,.data⟩,⟨2,.data⟩],none⟩,⟨some 24,.fieldAddr 30 (.tmp 7) 0,0,"jobs.go:9",#[⟨0,.phase⟩,⟨1,.phase⟩,⟨2,.phase⟩,⟨3,.phase⟩],none⟩,⟨some 25,.fieldAddr 25 (.tmp 24) 0,0,"jobs.go:9",#[⟨4,.data⟩,⟨0,.phase⟩,⟨1,.phase⟩,⟨2,.phase⟩,⟨3,.phase⟩],none⟩,⟨none,.store 23 (.tmp 25) (.tmp 23),0,"jobs.go:9",#[⟨5,.data⟩,⟨3,.data⟩,⟨3,.chain⟩,⟨0,.phase⟩,⟨1,.phase⟩,⟨2,.phase⟩,⟨3,.phase⟩],none⟩] false) jorest4 := by kernel_rfl
set_option maxRecDepth 1000000 in
theorem jorest4_eq : jorest4 = .seq (Code.region 4 #[⟨some 26,.move (.tmp 0),34,"jobs.go:10",#[],none⟩,⟨some 27,.move (.tmp 0),34,"jobs.go:10",#[],none⟩,⟨some 28,.call { callee := .value (.func 24),args := #[.tmp 27,.const (.int .i64 20),.const (.int .i64 40)],argTypes := #[34,3,3] },3,"jobs.go:10",#[⟨1,.data⟩],none⟩,⟨some 29,.call { callee := .value (.func 27),args := #[.tmp 26,.tmp 28,.const (.int .i64 0),.const (.int .i64 100),.const (.int .i64 2)],argTypes := #[34,3,3,3,3] },23,"jobs.go:10",#[⟨0,.data⟩,⟨2,.data⟩,⟨2,.chain⟩],none⟩,⟨some 30,.move (.tmp 0),34,"jobs.go:10",#[],none⟩,⟨some 31,.move (.tmp 0),34,"jobs.go:10",#[],none⟩,⟨some 32,.call { callee := .value (.func 24),args := #[.tmp 31,.const (.int .i64 20),.const (.int .i64 40)],argTypes := #[34,3,3] },3,"jobs.go:10",#[⟨5,.data⟩,⟨3,.chain⟩],none⟩,⟨some 33,.call { callee := .value (.func 27),args := #[.tmp 30,.tmp 32,.const (.int .i64 0),.const (.int .i64 100),.const (.int .i64 2)],argTypes := #[34,3,3,3,3] },23,"jobs.go:10",#[⟨4,.data⟩,⟨6,.data⟩,⟨6,.chain⟩],none⟩,⟨some 34,.fieldAddr 30 (.tmp 7) 0,0,"jobs.go:10",#[⟨0,.phase⟩,⟨1,.phase⟩,⟨2,.phase⟩,⟨3,.phase⟩,⟨4,.textOnly .lateStores⟩,⟨5,.textOnly .lateStores⟩,⟨6,.textOnly .lateStoresUnsure⟩,⟨7,.textOnly .lateStoresUnsure⟩],none⟩,⟨some 35,.fieldAddr 25 (.tmp 34) 1,0,"jobs.go:10",#[⟨8,.data⟩,⟨0,.phase⟩,⟨1,.phase⟩,⟨2,.phase⟩,⟨3,.phase⟩,⟨4,.textOnly .lateStores⟩,⟨5,.textOnly .lateStores⟩,⟨6,.textOnly .lateStoresUnsure⟩,⟨7,.textOnly .lateStoresUnsure⟩],none⟩,⟨none,.store 23 (.tmp 35) (.tmp 29),0,"jobs.go:10",#[⟨9,.data⟩,⟨3,.data⟩,⟨7,.chain⟩,⟨0,.phase⟩,⟨1,.phase⟩,⟨2,.phase⟩,⟨3,.phase⟩,⟨4,.textOnly .lateStores⟩,⟨5,.textOnly .lateStores⟩,⟨6,.textOnly .lateStoresUnsure⟩,⟨7,.textOnly .lateStoresUnsure⟩],none⟩,⟨some 36,.fieldAddr 30 (.tmp 7) 0,0,"jobs.go:10",#[⟨0,.phase⟩,⟨1,.phase⟩,⟨2,.phase⟩,⟨3,.phase⟩,⟨4,.phase⟩,⟨5,.phase⟩,⟨6,.phase⟩,⟨7,.phase⟩,⟨8,.phase⟩,⟨9,.phase⟩,⟨10,.phase⟩],none⟩,⟨some 37,.fieldAddr 25 (.tmp 36) 2,0,"jobs.go:10",#[⟨11,.data⟩,⟨0,.phase⟩,⟨1,.phase⟩,⟨2,.phase⟩,⟨3,.phase⟩,⟨4,.phase⟩,⟨5,.phase⟩,⟨6,.phase⟩,⟨7,.phase⟩,⟨8,.phase⟩,⟨9,.phase⟩,⟨10,.phase⟩],none⟩,⟨none,.store 23 (.tmp 37) (.tmp 33),0,"jobs.go:10",#[⟨12,.data⟩,⟨7,.data⟩,⟨10,.chain⟩,⟨0,.phase⟩,⟨1,.phase⟩,⟨2,.phase⟩,⟨3,.phase⟩,⟨4,.phase⟩,⟨5,.phase⟩,⟨6,.phase⟩,⟨7,.phase⟩,⟨8,.phase⟩,⟨9,.phase⟩,⟨10,.phase⟩],none⟩] false) jorest5 := by kernel_rfl
set_option maxRecDepth 1000000 in
theorem jorest5_eq : jorest5 = .seq (Code.region 5 #[⟨some 38,.move (.tmp 0),34,"jobs.go:11",#[],none⟩,⟨some 39,.move (.tmp 0),34,"jobs.go:11",#[],none⟩,⟨some 40,.call { callee := .value (.func 24),args := #[.tmp 39,.const (.int .i64 1),.const (.int .i64 6)],argTypes := #[34,3,3] },3,"jobs.go:11",#[⟨1,.data⟩],none⟩,⟨some 41,.move (.tmp 2),3,"jobs.go:11",#[],none⟩,⟨some 42,.call { callee := .value (.func 27),args := #[.tmp 38,.tmp 40,.const (.int .i64 0),.const (.int .i64 12),.tmp 41],argTypes := #[34,3,3,3,3] },23,"jobs.go:11",#[⟨0,.data⟩,⟨2,.data⟩,⟨3,.data⟩,⟨2,.chain⟩],none⟩,⟨some 43,.move (.tmp 0),34,"jobs.go:11",#[],none⟩,⟨some 44,.move (.tmp 0),34,"jobs.go:11",#[],none⟩,⟨some 45,.call { callee := .value (.func 24),args := #[.tmp 44,.const (.int .i64 1),.const (.int .i64 6)],argTypes := #[34,3,3] },3,"jobs.go:11",#[⟨6,.data⟩,⟨4,.chain⟩],none⟩,⟨some 46,.move (.tmp 2),3,"jobs.go:11",#[],none⟩,⟨some 47,.call { callee := .value (.func 27),args := #[.tmp 43,.tmp 45,.const (.int .i64 0),.const (.int .i64 12),.tmp 46],argTypes := #[34,3,3,3,3] },23,"jobs.go:11",#[⟨5,.data⟩,⟨7,.data⟩,⟨8,.data⟩,⟨7,.chain⟩],none⟩,⟨some 48,.fieldAddr 30 (.tmp 7) 1,0,"jobs.go:11",#[⟨0,.phase⟩,⟨1,.phase⟩,⟨2,.phase⟩,⟨3,.phase⟩,⟨4,.phase⟩,⟨5,.textOnly .lateStores⟩,⟨6,.textOnly .lateStores⟩,⟨7,.textOnly .lateStoresUnsure⟩,⟨8,.textOnly .lateStores⟩,⟨9,.textOnly .lateStoresUnsure⟩],none⟩,⟨some 49,.fieldAddr 27 (.tmp 48) 0,0,"jobs.go:11",#[⟨10,.data⟩,⟨0,.phase⟩,⟨1,.phase⟩,⟨2,.phase⟩,⟨3,.phase⟩,⟨4,.phase⟩,⟨5,.textOnly .lateStores⟩,⟨6,.textOnly .lateStores⟩,⟨7,.textOnly .lateStoresUnsure⟩,⟨8,.textOnly .lateStores⟩,⟨9,.textOnly .lateStoresUnsure⟩],none⟩,⟨none,.store 23 (.tmp 49) (.tmp 42),0,"jobs.go:11",#[⟨11,.data⟩,⟨4,.data⟩,⟨9,.chain⟩,⟨0,.phase⟩,⟨1,.phase⟩,⟨2,.phase⟩,⟨3,.phase⟩,⟨4,.phase⟩,⟨5,.textOnly .lateStores⟩,⟨6,.textOnly .lateStores⟩,⟨7,.textOnly .lateStoresUnsure⟩,⟨8,.textOnly .lateStores⟩,⟨9,.textOnly .lateStoresUnsure⟩],none⟩,⟨some 50,.fieldAddr 30 (.tmp 7) 1,0,"jobs.go:11",#[⟨0,.phase⟩,⟨1,.phase⟩,⟨2,.phase⟩,⟨3,.phase⟩,⟨4,.phase⟩,⟨5,.phase⟩,⟨6,.phase⟩,⟨7,.phase⟩,⟨8,.phase⟩,⟨9,.phase⟩,⟨10,.phase⟩,⟨11,.phase⟩,⟨12,.phase⟩],none⟩,⟨some 51,.fieldAddr 27 (.tmp 50) 1,0,"jobs.go:11",#[⟨13,.data⟩,⟨0,.phase⟩,⟨1,.phase⟩,⟨2,.phase⟩,⟨3,.phase⟩,⟨4,.phase⟩,⟨5,.phase⟩,⟨6,.phase⟩,⟨7,.phase⟩,⟨8,.phase⟩,⟨9,.phase⟩,⟨10,.phase⟩,⟨11,.phase⟩,⟨12,.phase⟩],none⟩,⟨none,.store 23 (.tmp 51) (.tmp 47),0,"jobs.go:11",#[⟨14,.data⟩,⟨9,.data⟩,⟨12,.chain⟩,⟨0,.phase⟩,⟨1,.phase⟩,⟨2,.phase⟩,⟨3,.phase⟩,⟨4,.phase⟩,⟨5,.phase⟩,⟨6,.phase⟩,⟨7,.phase⟩,⟨8,.phase⟩,⟨9,.phase⟩,⟨10,.phase⟩,⟨11,.phase⟩,⟨12,.phase⟩],none⟩] false) jorest6 := by kernel_rfl
set_option maxRecDepth 1000000 in
theorem jorest6_eq : jorest6 = .seq (Code.region 6 #[⟨some 52,.move (.tmp 0),34,"jobs.go:12",#[],none⟩,⟨some 53,.move (.tmp 0),34,"jobs.go:12",#[],none⟩,⟨some 54,.call { callee := .value (.func 26),args := #[.tmp 53,.const (.int .i64 4)],argTypes := #[34,3] },3,"jobs.go:12",#[⟨1,.data⟩],none⟩,⟨some 55,.call { callee := .value (.func 27),args := #[.tmp 52,.tmp 54,.const (.int .i64 0),.const (.int .i64 12),.const (.int .i64 1)],argTypes := #[34,3,3,3,3] },23,"jobs.go:12",#[⟨0,.data⟩,⟨2,.data⟩,⟨2,.chain⟩],none⟩,⟨some 56,.move (.tmp 0),34,"jobs.go:12",#[],none⟩,⟨some 57,.move (.tmp 0),34,"jobs.go:12",#[],none⟩,⟨some 58,.call { callee := .value (.func 26),args := #[.tmp 57,.const (.int .i64 4)],argTypes := #[34,3] },3,"jobs.go:12",#[⟨5,.data⟩,⟨3,.chain⟩],none⟩,⟨some 59,.call { callee := .value (.func 27),args := #[.tmp 56,.tmp 58,.const (.int .i64 0),.const (.int .i64 12),.const (.int .i64 1)],argTypes := #[34,3,3,3,3] },23,"jobs.go:12",#[⟨4,.data⟩,⟨6,.data⟩,⟨6,.chain⟩],none⟩,⟨some 60,.fieldAddr 30 (.tmp 7) 1,0,"jobs.go:12",#[⟨0,.phase⟩,⟨1,.phase⟩,⟨2,.phase⟩,⟨3,.phase⟩,⟨4,.textOnly .lateStores⟩,⟨5,.textOnly .lateStores⟩,⟨6,.textOnly .lateStoresUnsure⟩,⟨7,.textOnly .lateStoresUnsure⟩],none⟩,⟨some 61,.fieldAddr 27 (.tmp 60) 2,0,"jobs.go:12",#[⟨8,.data⟩,⟨0,.phase⟩,⟨1,.phase⟩,⟨2,.phase⟩,⟨3,.phase⟩,⟨4,.textOnly .lateStores⟩,⟨5,.textOnly .lateStores⟩,⟨6,.textOnly .lateStoresUnsure⟩,⟨7,.textOnly .lateStoresUnsure⟩],none⟩,⟨none,.store 23 (.tmp 61) (.tmp 55),0,"jobs.go:12",#[⟨9,.data⟩,⟨3,.data⟩,⟨7,.chain⟩,⟨0,.phase⟩,⟨1,.phase⟩,⟨2,.phase⟩,⟨3,.phase⟩,⟨4,.textOnly .lateStores⟩,⟨5,.textOnly .lateStores⟩,⟨6,.textOnly .lateStoresUnsure⟩,⟨7,.textOnly .lateStoresUnsure⟩],none⟩,⟨some 62,.fieldAddr 30 (.tmp 7) 1,0,"jobs.go:12",#[⟨0,.phase⟩,⟨1,.phase⟩,⟨2,.phase⟩,⟨3,.phase⟩,⟨4,.phase⟩,⟨5,.phase⟩,⟨6,.phase⟩,⟨7,.phase⟩,⟨8,.phase⟩,⟨9,.phase⟩,⟨10,.phase⟩],none⟩,⟨some 63,.fieldAddr 27 (.tmp 62) 3,0,"jobs.go:12",#[⟨11,.data⟩,⟨0,.phase⟩,⟨1,.phase⟩,⟨2,.phase⟩,⟨3,.phase⟩,⟨4,.phase⟩,⟨5,.phase⟩,⟨6,.phase⟩,⟨7,.phase⟩,⟨8,.phase⟩,⟨9,.phase⟩,⟨10,.phase⟩],none⟩,⟨none,.store 23 (.tmp 63) (.tmp 59),0,"jobs.go:12",#[⟨12,.data⟩,⟨7,.data⟩,⟨10,.chain⟩,⟨0,.phase⟩,⟨1,.phase⟩,⟨2,.phase⟩,⟨3,.phase⟩,⟨4,.phase⟩,⟨5,.phase⟩,⟨6,.phase⟩,⟨7,.phase⟩,⟨8,.phase⟩,⟨9,.phase⟩,⟨10,.phase⟩],none⟩] false) jorest7 := by kernel_rfl
set_option maxRecDepth 1000000 in
theorem jorest7_eq : jorest7 = .seq (Code.region 7 #[⟨some 64,.move (.tmp 0),34,"jobs.go:13",#[],none⟩,⟨some 65,.call { callee := .value (.func 24),args := #[.tmp 64,.const (.int .i64 10),.const (.int .i64 30)],argTypes := #[34,3,3] },3,"jobs.go:13",#[⟨0,.data⟩],none⟩,⟨some 66,.fieldAddr 30 (.tmp 7) 1,0,"jobs.go:13",#[⟨0,.phase⟩,⟨1,.phase⟩],none⟩,⟨some 67,.fieldAddr 27 (.tmp 66) 4,0,"jobs.go:13",#[⟨2,.data⟩,⟨0,.phase⟩,⟨1,.phase⟩],none⟩,⟨none,.store 3 (.tmp 67) (.tmp 65),0,"jobs.go:13",#[⟨3,.data⟩,⟨1,.data⟩,⟨1,.chain⟩,⟨0,.phase⟩,⟨1,.phase⟩],none⟩] false) jorest8 := by kernel_rfl
set_option maxRecDepth 1000000 in
theorem jorest8_eq : jorest8 = .seq (.seq (Code.region 8 #[⟨some 68,.move (.tmp 0),34,"jobs.go:14",#[],none⟩,⟨some 69,.call { callee := .value (.func 26),args := #[.tmp 68,.const (.int .i64 3)],argTypes := #[34,3] },3,"jobs.go:14",#[⟨0,.data⟩],none⟩,⟨some 9,.assign (.tmp 69),3,"jobs.go:14",#[⟨1,.data⟩,⟨1,.chain⟩,⟨0,.phase⟩,⟨1,.phase⟩],none⟩] false) (.block 0 (.loop (.seq (.seq (Code.region 9 #[⟨some 70,.move (.tmp 9),3,"jobs.go:14",#[],none⟩,⟨some 71,.binOp .gtr 3 (.tmp 70) (.const (.int .i64 0)) 3,4,"jobs.go:14",#[⟨0,.data⟩],none⟩] false) (.cond (.tmp 71) .skip (.exit 0))) (.seq (.block 1 (Code.region 11 #[⟨some 74,.fieldAddr 30 (.tmp 7) 2,0,"jobs.go:15",#[],none⟩,⟨some 75,.load 28 (.tmp 74),28,"jobs.go:15",#[⟨0,.data⟩],none⟩,⟨some 76,.move (.tmp 0),34,"jobs.go:15",#[],none⟩,⟨some 77,.move (.tmp 0),34,"jobs.go:15",#[],none⟩,⟨some 78,.call { callee := .value (.func 24),args := #[.tmp 77,.const (.int .i64 (-3)),.const (.int .i64 3)],argTypes := #[34,3,3] },3,"jobs.go:15",#[⟨3,.data⟩],none⟩,⟨some 79,.call { callee := .value (.func 27),args := #[.tmp 76,.tmp 78,.const (.int .i64 (-60)),.const (.int .i64 60),.const (.int .i64 2)],argTypes := #[34,3,3,3,3] },23,"jobs.go:15",#[⟨2,.data⟩,⟨4,.data⟩,⟨4,.chain⟩],none⟩,⟨some 80,.buildSlice 28 1 #[(0,.tmp 79)],28,"jobs.go:15",#[⟨5,.data⟩],none⟩,⟨some 81,.call { callee := .builtin .append,args := #[.tmp 75,.tmp 80],argTypes := #[28,28] },28,"jobs.go:15",#[⟨1,.data⟩,⟨6,.data⟩,⟨5,.chain⟩],none⟩,⟨some 82,.fieldAddr 30 (.tmp 7) 2,0,"jobs.go:15",#[⟨0,.phase⟩,⟨1,.phase⟩,⟨2,.phase⟩,⟨3,.phase⟩,⟨4,.phase⟩,⟨5,.phase⟩,⟨6,.phase⟩,⟨7,.phase⟩],none⟩,⟨none,.store 28 (.tmp 82) (.tmp 81),0,"jobs.go:15",#[⟨8,.data⟩,⟨7,.data⟩,⟨7,.chain⟩,⟨0,.phase⟩,⟨1,.phase⟩,⟨2,.phase⟩,⟨3,.phase⟩,⟨4,.phase⟩,⟨5,.phase⟩,⟨6,.phase⟩,⟨7,.phase⟩],none⟩] true)) (Code.region 10 #[⟨some 72,.move (.tmp 9),3,"jobs.go:14",#[],none⟩,⟨some 73,.binOp .sub 3 (.tmp 72) (.const (.int .i64 1)) 3,3,"jobs.go:14",#[⟨0,.data⟩],none⟩,⟨some 9,.assign (.tmp 73),3,"jobs.go:14",#[⟨1,.data⟩,⟨0,.phase⟩,⟨1,.phase⟩],none⟩] false)))))) jorest9 := by kernel_rfl
set_option maxRecDepth 1000000 in
theorem jorest9_eq : jorest9 = .seq (Code.region 12 #[⟨some 83,.load 30 (.tmp 7),30,"jobs.go:17",#[],none⟩,⟨none,.store 30 (.tmp 6) (.tmp 83),0,"jobs.go:17",#[⟨0,.data⟩,⟨0,.phase⟩],none⟩] false) .ret := by kernel_rfl

structure JS (b B0 : Nat) (w0 : World) (g6 g7 : Nat) (cs : Array Value) (w : World) : Prop where
  bk : Bk w g7 30 cs
  r6 : ∃ c6,Bk w g6 30 c6 ∧ c6.size = 18
  pt : Pt w b
  pb : PB b B0 w0 w
  ne : g6 ≠ b ∧ g7 ≠ b ∧ g6 ≠ g7 ∧ B0 ≤ g6 ∧ B0 ≤ g7 ∧ B0 ≤ w.heap.size
theorem JS.pot {b B0 : Nat} {w0 : World} {g6 g7 : Nat} {cs : Array Value} {w w' : World} (h : JS b B0 w0 g6 g7 cs w) (hk : PB b w.heap.size w w') (hp : Pt w' b) : JS b B0 w0 g6 g7 cs w' := by
  obtain ⟨c6,h6,hs⟩ := h.r6
  obtain ⟨n1,n2,n3,n4,n5,n6⟩ := h.ne
  exact ⟨h.bk.pb hk h.bk.lt n2,⟨c6,h6.pb hk h6.lt n1,hs⟩,hp,h.pb.trans hk n6,n1,n2,n3,n4,n5,Nat.le_trans n6 hk.size⟩
theorem JS.next {b B0 : Nat} {w0 : World} {g6 g7 : Nat} {cs : Array Value} {w w' : World} (h : JS b B0 w0 g6 g7 cs w) (hb : Below w.heap.size w w') : JS b B0 w0 g6 g7 cs w' := h.pot (PB.of hb) (h.pt.below hb h.pt.lt)
theorem JS.put {b B0 : Nat} {w0 : World} {g6 g7 : Nat} {cs : Array Value} {w : World} (h : JS b B0 w0 g6 g7 cs w) (o : Nat) (v : Value) : JS b B0 w0 g6 g7 (cs.setIfInBounds o v) (w.setCell ⟨g7,o,none⟩ v) := by
  obtain ⟨c6,h6,hs⟩ := h.r6
  obtain ⟨n1,n2,n3,n4,n5,n6⟩ := h.ne
  have q : Below B0 w (w.setCell ⟨g7,o,none⟩ v) := (Below.refl _ _).setCell (p := ⟨g7,o,none⟩) n5 _
  exact ⟨h.bk.put o v,⟨c6,h6.other (p := ⟨g7,o,none⟩) n3 _,hs⟩,h.pt.other (p := ⟨g7,o,none⟩) (fun e => n2 e.symm) _,h.pb.setCell (p := ⟨g7,o,none⟩) n5 _,n1,n2,n3,n4,n5,Nat.le_trans n6 q.size⟩
def JobQ9 (b : Nat) (w : World) (e : Ending) (w' : World) : Prop :=
  ∃ (J : Jb) (a : Option Addr) (n c : Nat),e = .returned (.agg (jobC J (.slice a n c))) ∧ n = J.sh.length ∧ Rg w' w'.heap.size a J.sh ∧ J.check = 0 ∧ PB b w.heap.size w w' ∧ Pt w' b ∧ w'.ownsRow w.heap.size 23 2 (.slice a n c) n (rgCells J.sh) ∧ 18 ≤ J.t1 ∧ 18 ≤ J.r1
def JobOKq (x y : Int) : Prop := ∀ (b : Nat) (w : World),Pt w b → Calls Tryz.prog 6 #[.pointer (some ⟨b,0,none⟩),.int .i64 x,.int .i64 y] w (JobQ9 b w)
theorem own_of9 {w w' : World} {v : Value} {B e s n : Nat} {xs : List Value} (h : w.ownsRow B e s v n xs) (hk : ∀ g,B ≤ g → g < w.heap.size → w'.heap[g]? = w.heap[g]?) : w'.ownsRow B e s v n xs :=
  ⟨h.1,h.2.imp id fun ⟨g,cap,cur,a,b,c,d⟩ => ⟨g,cap,cur,a,b,(hk g b (Array.getElem?_eq_some_iff.1 c).1).trans c,d⟩⟩
theorem own_lo9 {w : World} {B B' e n : Nat} {v : Value} {xs : List Value} (h : w.ownsRow B e 2 v n xs) (hB : B' ≤ B) : w.ownsRow B' e 2 v n xs :=
  ⟨h.1,h.2.imp id fun ⟨g,cap,cur,a,b,c⟩ => ⟨g,cap,cur,a,Nat.le_trans hB b,c⟩⟩
def QJO (b : Nat) (w0 : World) : Exit → Act → World → Prop := bodyPost Tryz.prog Tryz.f6 (JobQ9 b w0)
set_option maxHeartbeats 1000000 in
set_option maxRecDepth 1000000 in
theorem jopart9 {w0 : World} {b B0 g6 g7 : Nat} {wide loose : Int} {w : World} {wi me p1 p2 t1 t2 r1 r2 u1 u2 d1 d2 x1 x2 y1 y2 le : Int} {sh : List R2} {sa : Option Addr} {sn sc : Nat} {u3 u4 u5 u8 u9 A0 A1 A2 A3 A4 A5 A6 A7 A8 A9 Aa Ab Ac Ad Ae Af Ag Ah Ai Aj Ak Al Am An Ao Ap Aq Ar As At Au Av Aw Ax Ay Az C0 C1 C2 C3 C4 C5 C6 C7 C8 C9 Ca Cb Cc Cd Ce Cf Cg Ch Ci Cj Ck Cl Cm Cn Co Cp Cq Cr Cs Ct Cu Cv Cw Cx Cy Cz D0 D1 : Value} (hwd : 0 ≤ wide ∧ wide ≤ 40) (hlo : 0 ≤ loose ∧ loose ≤ 40) (hwi : 1 ≤ wi ∧ wi ≤ 6) (hme : 0 ≤ me ∧ me ≤ 3) (hp : -60 ≤ p1 ∧ p1 ≤ p2 ∧ p2 ≤ 60) (ht : 18 ≤ t1 ∧ t1 ≤ t2 ∧ t2 ≤ 100) (hr : 18 ≤ r1 ∧ r1 ≤ r2 ∧ r2 ≤ 100) (hu : 0 ≤ u1 ∧ u1 ≤ u2 ∧ u2 ≤ 12) (hd : 0 ≤ d1 ∧ d1 ≤ d2 ∧ d2 ≤ 12) (hx : 0 ≤ x1 ∧ x1 ≤ x2 ∧ x2 ≤ 12) (hy : 0 ≤ y1 ∧ y1 ≤ y2 ∧ y2 ≤ 12) (hle : 0 ≤ le ∧ le ≤ 100) (hsh : ∀ s ∈ sh,-60 ≤ s.1 ∧ s.1 ≤ s.2 ∧ s.2 ≤ 60) (hln : sh.length ≤ 4) (hsn : sn = sh.length) (hrg : Rg w w.heap.size sa sh) (hrb : ∀ q o,sa = some ⟨q,o,none⟩ → q ≠ g6) {Bs : Nat} (hown : w.ownsRow Bs 23 2 (.slice sa sn sc) sn (rgCells sh)) (hBs : B0 ≤ Bs ∧ g6 < Bs) (hs : JS b B0 w0 g6 g7 (jobC ⟨p1,p2,t1,t2,r1,r2,u1,u2,d1,d2,x1,x2,y1,y2,le,wi,me,sh⟩ (.slice sa sn sc)) w) (hB : B0 = w0.heap.size) : Code.wp Tryz.prog jorest9 (QJO b w0) ⟨#[(.pointer (some ⟨b,0,none⟩)),(.int .i64 wide),(.int .i64 loose),u3,u4,u5,(.pointer (some ⟨g6,0,none⟩)),(.pointer (some ⟨g7,0,none⟩)),u8,u9,A0,A1,A2,A3,A4,A5,A6,A7,A8,A9,Aa,Ab,Ac,Ad,Ae,Af,Ag,Ah,Ai,Aj,Ak,Al,Am,An,Ao,Ap,Aq,Ar,As,At,Au,Av,Aw,Ax,Ay,Az,C0,C1,C2,C3,C4,C5,C6,C7,C8,C9,Ca,Cb,Cc,Cd,Ce,Cf,Cg,Ch,Ci,Cj,Ck,Cl,Cm,Cn,Co,Cp,Cq,Cr,Cs,Ct,Cu,Cv,Cw,Cx,Cy,Cz,D0,D1],[]⟩ w := by
  rw [jorest9_eq]
  obtain ⟨c6,h6,h6s⟩ := hs.r6
  obtain ⟨n1,n2,n3,n4,n5,n6⟩ := hs.ne
  go_wp2_with (first | (refine wpList_load_row rfl 30 _ rfl g7 rfl _ (jobC ⟨p1,p2,t1,t2,r1,r2,u1,u2,d1,d2,x1,x2,y1,y2,le,wi,me,sh⟩ (.slice sa sn sc)) _ _ hs.bk Tryz.underlying30 rfl szJob ?_) | (refine wpList_store_row rfl 30 _ _ rfl g6 (jobC ⟨p1,p2,t1,t2,r1,r2,u1,u2,d1,d2,x1,x2,y1,y2,le,wi,me,sh⟩ (.slice sa sn sc)) rfl rfl 30 c6 h6 szJob h6s (oneJob _ _ _ _) ?_))
  refine bodyPost_ret (results_cell_row Tryz.results6 _ _ _ _ _ _ _ rfl (h6.row (jobC ⟨p1,p2,t1,t2,r1,r2,u1,u2,d1,d2,x1,x2,y1,y2,le,wi,me,sh⟩ (.slice sa sn sc))) Tryz.underlying30 rfl szJob) rfl ?_
  have hbl : Below B0 w (w.setRow g6 (jobC ⟨p1,p2,t1,t2,r1,r2,u1,u2,d1,d2,x1,x2,y1,y2,le,wi,me,sh⟩ (.slice sa sn sc))) := below_setRow (Below.refl _ _) n4 _
  refine ⟨⟨p1,p2,t1,t2,r1,r2,u1,u2,d1,d2,x1,x2,y1,y2,le,wi,me,sh⟩,sa,sn,sc,rfl,hsn,fun k r hr => ?_,?_,?_,hs.pt.rowOther n1.symm _,?_,ht.1,hr.1⟩
  · obtain ⟨q,off,ha,hb,h0,h1⟩ := hrg k r hr
    have hq := setRow_other w g6 q (jobC ⟨p1,p2,t1,t2,r1,r2,u1,u2,d1,d2,x1,x2,y1,y2,le,wi,me,sh⟩ (.slice sa sn sc)) (hrb q off ha)
    exact ⟨q,off,ha,Nat.lt_of_lt_of_le hb hbl.size,(World.cell?_of_block hq).trans h0,(World.cell?_of_block hq).trans h1⟩
  · exact Jb.Full.check ⟨hp,⟨by show 0 ≤ t1; omega,ht.2⟩,⟨by show 0 ≤ r1; omega,hr.2⟩,hu,hd,hx,hy,hle,⟨by show 0 ≤ wi; omega,by show wi ≤ 60; omega⟩,⟨hme.1,by show me ≤ 6; omega⟩,hln,hsh⟩
  · rw [← hB]
    exact hs.pb.below hbl (Nat.le_refl _)
  · rw [← hB]
    exact own_lo9 (own_of9 hown (fun g hg _ => setRow_other w g6 g _ (by omega))) hBs.1
end Go.Proofs.YtljefjngmembkaaGreatDoor
namespace Go.Proofs.YtljefjngmembkaaGreatDoor
set_option linter.all false
open Go.RowKit
theorem infoR : ∃ i,Tryz.prog.info? 23 = some i ∧ i.zero = some (.agg #[.int .i64 0,.int .i64 0]) ∧ i.size = 2 ∧ i.bytes = 16 := by
  obtain ⟨i0,hi,hz0,hz1,hz2⟩ := info_parts infoRange
  exact ⟨i0,hi,hz0,hz1,hz2⟩
theorem wp_append_own {P : Program} {o : Oper} {a : Act} {w : World} {K : Act → World → Prop} {Q : Exit → Act → World → Prop} (s x : Operand) (t : TypeId)
    (ho : o.op = .call { callee := .builtin .append,args := #[s,x],argTypes := #[t,t] })
    (base : Nat) (e : TypeId) (i : TypeInfo) (z : Value) (size bytes : Nat) (ht : P.underlying t = some (.slice e)) (hi : P.info? e = some i) (hz : i.zero = some z)
    (hsize : i.size = size) (hby : i.bytes = bytes) (hzs : z.cells.size = size) (hsz : 0 < size)
    (v : Value) (n : Nat) (xs : List Value) (hs : a.eval s = v) (hown : w.ownsRow base e size v n xs)
    (ad : Addr) (m c : Nat) (news : List Value) (hx : a.eval x = .slice (some ad) m c) (hl : news.length = m * size) (hnews : ∀ j u,news[j]? = some u → w.cell? (ad.add j) = some u) (h1 : ∀ u ∈ news,u.oneCell' = true)
    (h63 : n + m ≤ maxLen) (hbytes : (n + m) * bytes ≤ 140737488355328) (hbase : base ≤ w.heap.size)
    (h : ∀ v' w',w'.ownsRow base e size v' (n + m) (xs ++ news) → w.grownBy w' v.ownBlock → (v'.ownBlock = v.ownBlock ∨ v'.ownBlock = some w.heap.size) → K (a.put o.dst v') w') : o.wp P a w K Q := by
  obtain ⟨v',w',hr,h2,h3,h4,h5⟩ := run_append_own_at (P := P) w base t o.type e i z size bytes ht hi hz hsize hby hzs hsz v n xs hown ad m c news hl hnews h1 h63 hbytes hbase
  unfold Oper.wp execOp
  simp only [ho,resolve,invoke,builtin,Sem.run_bind,Sem.run_pure,Result.andThen_ok,List.map_toArray,List.map_cons,List.map_nil,hs,hx,hr]
  exact h _ _ h2 h3 h5
theorem own_of' {w w' : World} {v : Value} {B e s n : Nat} {xs : List Value} (h : w.ownsRow B e s v n xs) (hk : ∀ g,B ≤ g → g < w.heap.size → w'.heap[g]? = w.heap[g]?) : w'.ownsRow B e s v n xs :=
  ⟨h.1,h.2.imp id fun ⟨g,cap,cur,a,b,c,d⟩ => ⟨g,cap,cur,a,b,(hk g b (Array.getElem?_eq_some_iff.1 c).1).trans c,d⟩⟩
theorem own_block' {w : World} {v : Value} {B e s n : Nat} {xs : List Value} (h : w.ownsRow B e s v n xs) (g : Nat) (hg : v.ownBlock = some g) : B ≤ g ∧ g < w.heap.size := by
  rcases h.2 with ⟨rfl,_⟩ | ⟨q,cap,cur,rfl,h1,h2,_⟩
  · cases hg
  · cases hg
    exact ⟨h1,(Array.getElem?_eq_some_iff.1 h2).1⟩
theorem rg_of_own {w : World} {B e n : Nat} {v : Value} {l : List R2} (h : w.ownsRow B e 2 v n (rgCells l)) : ∃ a c,v = .slice a n c ∧ n = l.length ∧ Rg w w.heap.size a l ∧ ∀ q o,a = some ⟨q,o,none⟩ → B ≤ q := by
  have hl := h.1
  rw [rgCells_len] at hl
  rcases h.2 with ⟨rfl,rfl⟩ | ⟨g,cap,cur,rfl,hb,hg,hnc,hcm,hcs,htk⟩
  · have e : l = [] := List.length_eq_zero_iff.1 (by omega)
    subst e
    exact ⟨none,0,rfl,rfl,Rg.nil _ _ _,fun q o h => by cases h⟩
  · refine ⟨some ⟨g,0,none⟩,cap,rfl,by omega,fun k x hk => ⟨g,0,rfl,(Array.getElem?_eq_some_iff.1 hg).1,?_,?_⟩,fun q o h => by cases h; exact hb⟩
    all_goals
      have hkl := (List.getElem?_eq_some_iff.1 hk).1
      obtain ⟨h0,h1⟩ := rgCells_at l k x hk
    · rw [cell_of_row w g (0 + k * 2) cur e (0,0) hg,Nat.zero_add,← Array.getElem?_toList]
      have h2 : (cur.toList.take (n * 2))[k * 2]? = some (.int .i64 x.1) := by rw [htk]; exact h0
      rw [List.getElem?_take_of_lt (by omega)] at h2
      exact h2
    · rw [cell_of_row w g (0 + k * 2 + 1) cur e (0,0) hg,Nat.zero_add,← Array.getElem?_toList]
      have h2 : (cur.toList.take (n * 2))[k * 2 + 1]? = some (.int .i64 x.2) := by rw [htk]; exact h1
      rw [List.getElem?_take_of_lt (by omega)] at h2
      exact h2
structure JL (b B0 : Nat) (w0 : World) (g6 g7 Bs : Nat) (F : Value → Array Value) (sh : List R2) (sv : Value) (w : World) : Prop where
  js : JS b B0 w0 g6 g7 (F sv) w
  own : w.ownsRow Bs 23 2 sv sh.length (rgCells sh)
  lt : b < Bs ∧ g6 < Bs ∧ g7 < Bs ∧ B0 ≤ Bs ∧ Bs ≤ w.heap.size
section
variable {b B0 : Nat} {w0 : World} {g6 g7 Bs : Nat} {F : Value → Array Value} {sh : List R2} {sv : Value} {w w' : World}
theorem JL.pot (h : JL b B0 w0 g6 g7 Bs F sh sv w) (hk : PB b w.heap.size w w') (hp : Pt w' b) : JL b B0 w0 g6 g7 Bs F sh sv w' := by
  obtain ⟨l1,l2,l3,l4,l5⟩ := h.lt
  exact ⟨h.js.pot hk hp,own_of' h.own (fun g hg hlt => hk.heap g hlt (by omega)),l1,l2,l3,l4,Nat.le_trans l5 hk.size⟩
theorem JL.next (h : JL b B0 w0 g6 g7 Bs F sh sv w) (hb : Below w.heap.size w w') : JL b B0 w0 g6 g7 Bs F sh sv w' := h.pot (PB.of hb) (h.js.pt.below hb h.js.pt.lt)
theorem JL.grown {v' : Value} {x : R2} (h : JL b B0 w0 g6 g7 Bs F sh sv w) (hown : w'.ownsRow Bs 23 2 v' (sh.length + 1) (rgCells sh ++ [.int .i64 x.1,.int .i64 x.2])) (hg : w.grownBy w' sv.ownBlock) :
    JS b B0 w0 g6 g7 (F sv) w' ∧ w'.ownsRow Bs 23 2 v' (sh ++ [x]).length (rgCells (sh ++ [x])) ∧ (b < Bs ∧ g6 < Bs ∧ g7 < Bs ∧ B0 ≤ Bs ∧ Bs ≤ w'.heap.size) := by
  obtain ⟨l1,l2,l3,l4,l5⟩ := h.lt
  have hob : ∀ g,sv.ownBlock = some g → Bs ≤ g := fun g hg => (own_block' h.own g hg).1
  have hne : ∀ g,g < Bs → some g ≠ sv.ownBlock := fun g hgl e => by have := hob g e.symm; omega
  obtain ⟨c6,h6,h6s⟩ := h.js.r6
  obtain ⟨n1,n2,n3,n4,n5,n6⟩ := h.js.ne
  refine ⟨⟨h.js.bk.grown hg (hne _ l3),⟨c6,h6.grown hg (hne _ l2),h6s⟩,h.js.pt.grown hg (hne _ l1),⟨hg.os.trans h.js.pb.os,hg.tape.trans h.js.pb.tape,hg.output.trans h.js.pb.output,Nat.le_trans h.js.pb.size hg.size,fun q hq hqb => (hg.block q (Nat.lt_of_lt_of_le hq n6) (hne q (by omega))).trans (h.js.pb.heap q hq hqb)⟩,n1,n2,n3,n4,n5,Nat.le_trans n6 hg.size⟩,?_,l1,l2,l3,l4,Nat.le_trans l5 hg.size⟩
  have e : rgCells (sh ++ [x]) = rgCells sh ++ [.int .i64 x.1,.int .i64 x.2] := by
    clear hown h h6
    induction sh with
    | nil => rfl
    | cons y l ih => show _ :: _ :: rgCells (l ++ [x]) = _; rw [ih]; rfl
  rw [e,List.length_append]
  exact hown
end
set_option maxHeartbeats 1000000 in
set_option maxRecDepth 1000000 in
theorem jopart8 {w0 : World} {b B0 g6 g7 : Nat} {wide loose : Int} {w : World} {wi me p1 p2 t1 t2 r1 r2 u1 u2 d1 d2 x1 x2 y1 y2 le : Int} {u3 u4 u5 u8 u9 A0 A1 A2 A3 A4 A5 A6 A7 A8 A9 Aa Ab Ac Ad Ae Af Ag Ah Ai Aj Ak Al Am An Ao Ap Aq Ar As At Au Av Aw Ax Ay Az C0 C1 C2 C3 C4 C5 C6 C7 C8 C9 Ca Cb Cc Cd Ce Cf Cg Ch Ci Cj Ck Cl Cm Cn Co Cp Cq Cr Cs Ct Cu Cv Cw Cx Cy Cz D0 D1 : Value} (hwd : 0 ≤ wide ∧ wide ≤ 40) (hlo : 0 ≤ loose ∧ loose ≤ 40) (hwi : 1 ≤ wi ∧ wi ≤ 6) (hme : 0 ≤ me ∧ me ≤ 3) (hp : -60 ≤ p1 ∧ p1 ≤ p2 ∧ p2 ≤ 60) (ht : 18 ≤ t1 ∧ t1 ≤ t2 ∧ t2 ≤ 100) (hr : 18 ≤ r1 ∧ r1 ≤ r2 ∧ r2 ≤ 100) (hu : 0 ≤ u1 ∧ u1 ≤ u2 ∧ u2 ≤ 12) (hd : 0 ≤ d1 ∧ d1 ≤ d2 ∧ d2 ≤ 12) (hx : 0 ≤ x1 ∧ x1 ≤ x2 ∧ x2 ≤ 12) (hy : 0 ≤ y1 ∧ y1 ≤ y2 ∧ y2 ≤ 12) (hle : 0 ≤ le ∧ le ≤ 100) (hs : JS b B0 w0 g6 g7 (jobC ⟨p1,p2,t1,t2,r1,r2,u1,u2,d1,d2,x1,x2,y1,y2,le,wi,me,[]⟩ (.slice none 0 0)) w) (hB : B0 = w0.heap.size) : Code.wp Tryz.prog jorest8 (QJO b w0) ⟨#[(.pointer (some ⟨b,0,none⟩)),(.int .i64 wide),(.int .i64 loose),u3,u4,u5,(.pointer (some ⟨g6,0,none⟩)),(.pointer (some ⟨g7,0,none⟩)),u8,u9,A0,A1,A2,A3,A4,A5,A6,A7,A8,A9,Aa,Ab,Ac,Ad,Ae,Af,Ag,Ah,Ai,Aj,Ak,Al,Am,An,Ao,Ap,Aq,Ar,As,At,Au,Av,Aw,Ax,Ay,Az,C0,C1,C2,C3,C4,C5,C6,C7,C8,C9,Ca,Cb,Cc,Cd,Ce,Cf,Cg,Ch,Ci,Cj,Ck,Cl,Cm,Cn,Co,Cp,Cq,Cr,Cs,Ct,Cu,Cv,Cw,Cx,Cy,Cz,D0,D1],[]⟩ w := by
  rw [jorest8_eq]
  obtain ⟨ti,ha1,ha2,ha3,ha4⟩ := infoR
  have Hi := hidMk ha1
  have Hz := hidMk ha2
  have Hsz := hidMk ha3
  have Hby := hidMk ha4
  clear ha1 ha2 ha3 ha4
  have HS := hidMk hs
  clear hs
  refine wp_seq_k fun K0 hK0 => ?_
  go_wp2_with fail
  refine (uptoP b 3 _ HS.out.pt (by omega)).mono ?_
  rintro e w_ ⟨m,rfl,qm,hk,hp⟩
  have HS' := hidMk (HS.out.pot hk hp)
  clear HS hk hp
  have HS := HS'
  clear HS'

  go_wp2_with fail
  obtain ⟨Bs,hBs⟩ : ∃ B,B = w_.heap.size := ⟨_,rfl⟩
  have hl0 : JL b B0 w0 g6 g7 Bs (fun sv => (jobC ⟨p1,p2,t1,t2,r1,r2,u1,u2,d1,d2,x1,x2,y1,y2,le,wi,me,[]⟩ sv)) [] (.slice none 0 0) w_ := by
    obtain ⟨c6,h6,_⟩ := HS.out.r6
    exact ⟨HS.out,⟨rfl,.inl ⟨rfl,rfl⟩⟩,by rw [hBs]; exact HS.out.pt.lt,by rw [hBs]; exact h6.lt,by rw [hBs]; exact HS.out.bk.lt,by rw [hBs]; exact HS.out.ne.2.2.2.2.2,by rw [hBs]; exact Nat.le_refl _⟩
  have HL := hidMk hl0
  clear hl0 hBs HS
  go_loopw [9] (fun iv wr => ∃ (k : Nat) (j : Int) (sh : List R2) (sv : Value),(j + k = m ∧ 0 ≤ j) ∧ iv = .int .i64 j ∧ sh.length = k ∧ Hid (∀ s ∈ sh,-60 ≤ s.1 ∧ s.1 ≤ s.2 ∧ s.2 ≤ 60) ∧ Hid (JL b B0 w0 g6 g7 Bs (fun sv => (jobC ⟨p1,p2,t1,t2,r1,r2,u1,u2,d1,d2,x1,x2,y1,y2,le,wi,me,[]⟩ sv)) sh sv wr)) (fun iv _ => (intOf iv).toNat)
  case atStart => exact ⟨0,m,[],_,⟨by omega,by omega⟩,rfl,rfl,hidMk (by simp),HL⟩
  case round =>
    obtain ⟨k,j,sh,sv,⟨hj1,hj2⟩,rfl,rfl,HB,HJ⟩ := hrel
    by_cases hlt : 0 < j
    · go_wp2_with fail
      refine region_via (R := fun a_ e_ a' w' => e_ = .normal ∧ ∃ (v74 v75 v76 v77 v78 v79 v80 v81 v82 : Value) (x : R2) (v' : Value),a' = (((((((((a_.put (some 74) v74).put (some 75) v75).put (some 76) v76).put (some 77) v77).put (some 78) v78).put (some 79) v79).put (some 80) v80).put (some 81) v81).put (some 82) v82) ∧ (-60 ≤ x.1 ∧ x.1 ≤ x.2 ∧ x.2 ≤ 60) ∧ JS b B0 w0 g6 g7 (jobC ⟨p1,p2,t1,t2,r1,r2,u1,u2,d1,d2,x1,x2,y1,y2,le,wi,me,[]⟩ v') w' ∧ w'.ownsRow Bs 23 2 v' (sh ++ [x]).length (rgCells (sh ++ [x])) ∧ (b < Bs ∧ g6 < Bs ∧ g7 < Bs ∧ B0 ≤ Bs ∧ Bs ≤ w'.heap.size)) ?_ ?_
      rotate_left
      · rintro e_ a' w' ⟨rfl,v74,v75,v76,v77,v78,v79,v80,v81,v82,x,v',rfl,hx,h1,h2,h3⟩
        simp only [Act.put,aT,aZ,aS]
        have HX := hidMk hx
        have HJ2 := hidMk (show JL b B0 w0 g6 g7 Bs (fun sv => (jobC ⟨p1,p2,t1,t2,r1,r2,u1,u2,d1,d2,x1,x2,y1,y2,le,wi,me,[]⟩ sv)) (sh ++ [x]) v' w' from ⟨h1,h2,h3⟩)
        clear hx h1 h2 h3
        go_wp2_with fail
        go_roundw
        case rel =>
          refine ⟨sh.length + 1,j - 1,sh ++ [x],v',⟨by omega,by omega⟩,by go_num,by rw [List.length_append]; rfl,hidMk (fun s hs => ?_),HJ2⟩
          rcases List.mem_append.1 hs with hs | hs
          · exact HB.out s hs
          · rw [List.mem_singleton] at hs
            subst hs
            exact HX.out
        case measure => simp [intOf]; omega
      have hJ : JL b B0 w0 g6 g7 Bs (fun sv => (jobC ⟨p1,p2,t1,t2,r1,r2,u1,u2,d1,d2,x1,x2,y1,y2,le,wi,me,[]⟩ sv)) sh sv wr.drew := HJ.out.next (Below.refl _ _).drew
      clear HJ
      refine wp_region_held_drew (S := fun _ => True) (by kernel_rfl) trivial (fun hS0 => ?_)
      generalize hWd : wr.drew = wd at hJ ⊢
      clear hWd
      refine wT (i := 0) (v := ?_) rfl (.inl ⟨by rfl,?_⟩) ?_
      rotate_left
      · (intro w' hSw; (try dsimp only at hSw); go_simp <;> with_reducible rfl)
      (try simp only [Act.put,aT,aZ,aS])
      refine wT (i := 2) (v := ?_) rfl (.inl ⟨by rfl,?_⟩) ?_
      rotate_left
      · (intro w' hSw; (try dsimp only at hSw); go_simp <;> with_reducible rfl)
      (try simp only [Act.put,aT,aZ,aS])
      refine wT (i := 3) (v := ?_) rfl (.inl ⟨by rfl,?_⟩) ?_
      rotate_left
      · (intro w' hSw; (try dsimp only at hSw); go_simp <;> with_reducible rfl)
      (try simp only [Act.put,aT,aZ,aS])
      refine wpAnyH_ready (rs := [1,4]) (by kernel_rfl) (by simp) ?_
      refine AllReadyH.cons rfl (fun K hK => ?_) ?_
      · have c15 := hJ.js.bk.at_ 15 sv rfl
        go_simp
        refine hK.out _ _ trivial (fun _ => ?_)
        clear c15
        clear hK K
        (try simp only [Act.put,aT,aZ,aS])
        refine wpAnyH_ready (rs := [4]) (by kernel_rfl) (by simp) ?_
        refine AllReadyH.cons rfl (fun K hK => ?_) ?_
        · go_simp
          go_at_call 24
          refine (withinP b (-3) 3 _ hJ.js.pt (by omega)).mono ?_
          rintro e wx ⟨x0,rfl,hx0,hk,hp⟩
          have hJ_ := hJ.pot hk hp
          clear hp
          clear hJ hk
          have hJ := hJ_
          clear hJ_
          go_wp2_with fail
          refine hK.out _ _ trivial (fun _ => ?_)
          clear hK K
          (try simp only [Act.put,aT,aZ,aS])
          refine wpAnyH_ready (rs := [5]) (by kernel_rfl) (by simp) ?_
          refine AllReadyH.cons rfl (fun K hK => ?_) ?_
          · go_simp
            go_at_call 27
            refine (nearP b x0 (-60) 60 2 _ hJ.js.pt (by omega) (by omega)).mono ?_
            rintro e wy ⟨xa,xb,rfl,hxx,hk,hp⟩
            have hJ_ := hJ.pot hk hp
            clear hp
            clear hJ hk
            have hJ := hJ_
            clear hJ_
            go_wp2_with fail
            refine hK.out _ _ trivial (fun _ => ?_)
            clear hK K
            (try simp only [Act.put,aT,aZ,aS])
            refine wpAnyH_ready (rs := [6]) (by kernel_rfl) (by simp) ?_
            refine AllReadyH.cons rfl (fun K hK => ?_) ?_
            · have hJ_ := hJ.next ((Below.refl _ _).alloc (Nat.le_refl wy.heap.size) (.cells #[.int .i64 xa,.int .i64 xb] 23))
              have hA : Bk (wy.alloc (.cells #[.int .i64 xa,.int .i64 xb] 23)) wy.heap.size 23 #[.int .i64 xa,.int .i64 xb] := Bk.new _ _ _
              go_simp
              show K _ (wy.alloc (.cells #[.int .i64 xa,.int .i64 xb] 23))
              refine hK.out _ _ trivial (fun _ => ?_)
              clear hJ
              have hJ := hJ_
              clear hJ_
              generalize wy.heap.size = gA at hA ⊢
              generalize (wy.alloc (.cells #[.int .i64 xa,.int .i64 xb] 23)) = wz at hA hJ ⊢
              clear hK K
              (try simp only [Act.put,aT,aZ,aS])
              refine wpAnyH_ready (rs := [7]) (by kernel_rfl) (by simp) ?_
              refine AllReadyH.cons rfl (fun K hK => ?_) ?_
              · refine wp_append_own (.tmp 75) (.tmp 80) 28 rfl Bs 23 ti (.agg #[.int .i64 0,.int .i64 0]) 2 16 Tryz.underlying28 Hi.out Hz.out Hsz.out Hby.out rfl (by decide) sv sh.length (rgCells sh) rfl hJ.own ⟨gA,0,none⟩ 1 1 [.int .i64 xa,.int .i64 xb] rfl rfl (fun j u hu => by rw [Addr.add_mid,Nat.zero_add]; exact hA.at_ j u (by simpa using hu)) (by intro u hu; simp at hu; rcases hu with rfl | rfl <;> rfl) (by unfold maxLen; omega) (by omega) hJ.lt.2.2.2.2 ?_
                intro v' wu own' hg' _
                obtain ⟨qb,cp,rfl⟩ : ∃ qb cp,v' = .slice (some ⟨qb,0,none⟩) (sh.length + 1) cp := by
                  rcases own'.2 with ⟨_,h⟩ | ⟨q,cap,cur,h,_⟩
                  · omega
                  · exact ⟨q,cap,h⟩
                obtain ⟨hq1,hq2,hq3⟩ := hJ.grown (x := (xa,xb)) own' hg'
                refine hK.out _ _ trivial (fun _ => ?_)
                clear hJ hA own' hg'
                clear hK K
                (try simp only [Act.put,aT,aZ,aS])
                refine wT (i := 8) (v := ?_) rfl (.inl ⟨by rfl,?_⟩) ?_
                rotate_left
                · (intro w' hSw; (try dsimp only at hSw); go_simp <;> with_reducible rfl)
                (try simp only [Act.put,aT,aZ,aS])
                refine wpAnyH_ready (rs := [9]) (by kernel_rfl) (by simp) ?_
                refine AllReadyH.cons rfl (fun K hK => ?_) ?_
                · have z15 := hq1.bk.at_ 15 sv rfl
                  have f15 := hq1.bk.free 15
                  have hq4 : JS b B0 w0 g6 g7 (jobC ⟨p1,p2,t1,t2,r1,r2,u1,u2,d1,d2,x1,x2,y1,y2,le,wi,me,[]⟩ (.slice (some ⟨qb,0,none⟩) (sh.length + 1) cp)) (wu.setCell ⟨g7,15,none⟩ (.slice (some ⟨qb,0,none⟩) (sh.length + 1) cp)) := hq1.put 15 (.slice (some ⟨qb,0,none⟩) (sh.length + 1) cp)
                  have hq5 : (wu.setCell ⟨g7,15,none⟩ (.slice (some ⟨qb,0,none⟩) (sh.length + 1) cp)).ownsRow Bs 23 2 (.slice (some ⟨qb,0,none⟩) (sh.length + 1) cp) (sh ++ [(xa,xb)]).length (rgCells (sh ++ [(xa,xb)])) := own_of' hq2 (fun g hg _ => Below.heap_setCell wu ⟨g7,15,none⟩ (.slice (some ⟨qb,0,none⟩) (sh.length + 1) cp) g (by show g ≠ g7; omega))
                  have hsz : wu.heap.size ≤ (wu.setCell ⟨g7,15,none⟩ (.slice (some ⟨qb,0,none⟩) (sh.length + 1) cp)).heap.size := by simp
                  go_simp
                  refine hK.out _ _ trivial (fun _ => ?_)
                  clear hK K
                  (try simp only [Act.put,aT,aZ,aS])
                  refine wpAnyH_done (by kernel_rfl) ?_ _
                  have hxx' : -60 ≤ xa ∧ xa ≤ xb ∧ xb ≤ 60 := by omega
                  exact ⟨rfl,_,_,_,_,_,_,_,_,_,(xa,xb),_,rfl,hxx',hq4,hq5,by obtain ⟨l1,l2,l3,l4,l5⟩ := hq3; exact ⟨l1,l2,l3,l4,Nat.le_trans l5 hsz⟩⟩
                exact AllReadyH.nil
              exact AllReadyH.nil
            exact AllReadyH.nil
          exact AllReadyH.nil
        exact AllReadyH.nil
      refine AllReadyH.cons rfl (fun K hK => ?_) ?_
      · go_simp
        go_at_call 24
        refine (withinP b (-3) 3 _ hJ.js.pt (by omega)).mono ?_
        rintro e wx ⟨x0,rfl,hx0,hk,hp⟩
        have hJ_ := hJ.pot hk hp
        clear hp
        clear hJ hk
        have hJ := hJ_
        clear hJ_
        go_wp2_with fail
        refine hK.out _ _ trivial (fun _ => ?_)
        clear hK K
        (try simp only [Act.put,aT,aZ,aS])
        refine wpAnyH_ready (rs := [1,5]) (by kernel_rfl) (by simp) ?_
        refine AllReadyH.cons rfl (fun K hK => ?_) ?_
        · have c15 := hJ.js.bk.at_ 15 sv rfl
          go_simp
          refine hK.out _ _ trivial (fun _ => ?_)
          clear c15
          clear hK K
          (try simp only [Act.put,aT,aZ,aS])
          refine wpAnyH_ready (rs := [5]) (by kernel_rfl) (by simp) ?_
          refine AllReadyH.cons rfl (fun K hK => ?_) ?_
          · go_simp
            go_at_call 27
            refine (nearP b x0 (-60) 60 2 _ hJ.js.pt (by omega) (by omega)).mono ?_
            rintro e wy ⟨xa,xb,rfl,hxx,hk,hp⟩
            have hJ_ := hJ.pot hk hp
            clear hp
            clear hJ hk
            have hJ := hJ_
            clear hJ_
            go_wp2_with fail
            refine hK.out _ _ trivial (fun _ => ?_)
            clear hK K
            (try simp only [Act.put,aT,aZ,aS])
            refine wpAnyH_ready (rs := [6]) (by kernel_rfl) (by simp) ?_
            refine AllReadyH.cons rfl (fun K hK => ?_) ?_
            · have hJ_ := hJ.next ((Below.refl _ _).alloc (Nat.le_refl wy.heap.size) (.cells #[.int .i64 xa,.int .i64 xb] 23))
              have hA : Bk (wy.alloc (.cells #[.int .i64 xa,.int .i64 xb] 23)) wy.heap.size 23 #[.int .i64 xa,.int .i64 xb] := Bk.new _ _ _
              go_simp
              show K _ (wy.alloc (.cells #[.int .i64 xa,.int .i64 xb] 23))
              refine hK.out _ _ trivial (fun _ => ?_)
              clear hJ
              have hJ := hJ_
              clear hJ_
              generalize wy.heap.size = gA at hA ⊢
              generalize (wy.alloc (.cells #[.int .i64 xa,.int .i64 xb] 23)) = wz at hA hJ ⊢
              clear hK K
              (try simp only [Act.put,aT,aZ,aS])
              refine wpAnyH_ready (rs := [7]) (by kernel_rfl) (by simp) ?_
              refine AllReadyH.cons rfl (fun K hK => ?_) ?_
              · refine wp_append_own (.tmp 75) (.tmp 80) 28 rfl Bs 23 ti (.agg #[.int .i64 0,.int .i64 0]) 2 16 Tryz.underlying28 Hi.out Hz.out Hsz.out Hby.out rfl (by decide) sv sh.length (rgCells sh) rfl hJ.own ⟨gA,0,none⟩ 1 1 [.int .i64 xa,.int .i64 xb] rfl rfl (fun j u hu => by rw [Addr.add_mid,Nat.zero_add]; exact hA.at_ j u (by simpa using hu)) (by intro u hu; simp at hu; rcases hu with rfl | rfl <;> rfl) (by unfold maxLen; omega) (by omega) hJ.lt.2.2.2.2 ?_
                intro v' wu own' hg' _
                obtain ⟨qb,cp,rfl⟩ : ∃ qb cp,v' = .slice (some ⟨qb,0,none⟩) (sh.length + 1) cp := by
                  rcases own'.2 with ⟨_,h⟩ | ⟨q,cap,cur,h,_⟩
                  · omega
                  · exact ⟨q,cap,h⟩
                obtain ⟨hq1,hq2,hq3⟩ := hJ.grown (x := (xa,xb)) own' hg'
                refine hK.out _ _ trivial (fun _ => ?_)
                clear hJ hA own' hg'
                clear hK K
                (try simp only [Act.put,aT,aZ,aS])
                refine wT (i := 8) (v := ?_) rfl (.inl ⟨by rfl,?_⟩) ?_
                rotate_left
                · (intro w' hSw; (try dsimp only at hSw); go_simp <;> with_reducible rfl)
                (try simp only [Act.put,aT,aZ,aS])
                refine wpAnyH_ready (rs := [9]) (by kernel_rfl) (by simp) ?_
                refine AllReadyH.cons rfl (fun K hK => ?_) ?_
                · have z15 := hq1.bk.at_ 15 sv rfl
                  have f15 := hq1.bk.free 15
                  have hq4 : JS b B0 w0 g6 g7 (jobC ⟨p1,p2,t1,t2,r1,r2,u1,u2,d1,d2,x1,x2,y1,y2,le,wi,me,[]⟩ (.slice (some ⟨qb,0,none⟩) (sh.length + 1) cp)) (wu.setCell ⟨g7,15,none⟩ (.slice (some ⟨qb,0,none⟩) (sh.length + 1) cp)) := hq1.put 15 (.slice (some ⟨qb,0,none⟩) (sh.length + 1) cp)
                  have hq5 : (wu.setCell ⟨g7,15,none⟩ (.slice (some ⟨qb,0,none⟩) (sh.length + 1) cp)).ownsRow Bs 23 2 (.slice (some ⟨qb,0,none⟩) (sh.length + 1) cp) (sh ++ [(xa,xb)]).length (rgCells (sh ++ [(xa,xb)])) := own_of' hq2 (fun g hg _ => Below.heap_setCell wu ⟨g7,15,none⟩ (.slice (some ⟨qb,0,none⟩) (sh.length + 1) cp) g (by show g ≠ g7; omega))
                  have hsz : wu.heap.size ≤ (wu.setCell ⟨g7,15,none⟩ (.slice (some ⟨qb,0,none⟩) (sh.length + 1) cp)).heap.size := by simp
                  go_simp
                  refine hK.out _ _ trivial (fun _ => ?_)
                  clear hK K
                  (try simp only [Act.put,aT,aZ,aS])
                  refine wpAnyH_done (by kernel_rfl) ?_ _
                  have hxx' : -60 ≤ xa ∧ xa ≤ xb ∧ xb ≤ 60 := by omega
                  exact ⟨rfl,_,_,_,_,_,_,_,_,_,(xa,xb),_,rfl,hxx',hq4,hq5,by obtain ⟨l1,l2,l3,l4,l5⟩ := hq3; exact ⟨l1,l2,l3,l4,Nat.le_trans l5 hsz⟩⟩
                exact AllReadyH.nil
              exact AllReadyH.nil
            exact AllReadyH.nil
          exact AllReadyH.nil
        refine AllReadyH.cons rfl (fun K hK => ?_) ?_
        · go_simp
          go_at_call 27
          refine (nearP b x0 (-60) 60 2 _ hJ.js.pt (by omega) (by omega)).mono ?_
          rintro e wy ⟨xa,xb,rfl,hxx,hk,hp⟩
          have hJ_ := hJ.pot hk hp
          clear hp
          clear hJ hk
          have hJ := hJ_
          clear hJ_
          go_wp2_with fail
          refine hK.out _ _ trivial (fun _ => ?_)
          clear hK K
          (try simp only [Act.put,aT,aZ,aS])
          refine wpAnyH_ready (rs := [1,6]) (by kernel_rfl) (by simp) ?_
          refine AllReadyH.cons rfl (fun K hK => ?_) ?_
          · have c15 := hJ.js.bk.at_ 15 sv rfl
            go_simp
            refine hK.out _ _ trivial (fun _ => ?_)
            clear c15
            clear hK K
            (try simp only [Act.put,aT,aZ,aS])
            refine wpAnyH_ready (rs := [6]) (by kernel_rfl) (by simp) ?_
            refine AllReadyH.cons rfl (fun K hK => ?_) ?_
            · have hJ_ := hJ.next ((Below.refl _ _).alloc (Nat.le_refl wy.heap.size) (.cells #[.int .i64 xa,.int .i64 xb] 23))
              have hA : Bk (wy.alloc (.cells #[.int .i64 xa,.int .i64 xb] 23)) wy.heap.size 23 #[.int .i64 xa,.int .i64 xb] := Bk.new _ _ _
              go_simp
              show K _ (wy.alloc (.cells #[.int .i64 xa,.int .i64 xb] 23))
              refine hK.out _ _ trivial (fun _ => ?_)
              clear hJ
              have hJ := hJ_
              clear hJ_
              generalize wy.heap.size = gA at hA ⊢
              generalize (wy.alloc (.cells #[.int .i64 xa,.int .i64 xb] 23)) = wz at hA hJ ⊢
              clear hK K
              (try simp only [Act.put,aT,aZ,aS])
              refine wpAnyH_ready (rs := [7]) (by kernel_rfl) (by simp) ?_
              refine AllReadyH.cons rfl (fun K hK => ?_) ?_
              · refine wp_append_own (.tmp 75) (.tmp 80) 28 rfl Bs 23 ti (.agg #[.int .i64 0,.int .i64 0]) 2 16 Tryz.underlying28 Hi.out Hz.out Hsz.out Hby.out rfl (by decide) sv sh.length (rgCells sh) rfl hJ.own ⟨gA,0,none⟩ 1 1 [.int .i64 xa,.int .i64 xb] rfl rfl (fun j u hu => by rw [Addr.add_mid,Nat.zero_add]; exact hA.at_ j u (by simpa using hu)) (by intro u hu; simp at hu; rcases hu with rfl | rfl <;> rfl) (by unfold maxLen; omega) (by omega) hJ.lt.2.2.2.2 ?_
                intro v' wu own' hg' _
                obtain ⟨qb,cp,rfl⟩ : ∃ qb cp,v' = .slice (some ⟨qb,0,none⟩) (sh.length + 1) cp := by
                  rcases own'.2 with ⟨_,h⟩ | ⟨q,cap,cur,h,_⟩
                  · omega
                  · exact ⟨q,cap,h⟩
                obtain ⟨hq1,hq2,hq3⟩ := hJ.grown (x := (xa,xb)) own' hg'
                refine hK.out _ _ trivial (fun _ => ?_)
                clear hJ hA own' hg'
                clear hK K
                (try simp only [Act.put,aT,aZ,aS])
                refine wT (i := 8) (v := ?_) rfl (.inl ⟨by rfl,?_⟩) ?_
                rotate_left
                · (intro w' hSw; (try dsimp only at hSw); go_simp <;> with_reducible rfl)
                (try simp only [Act.put,aT,aZ,aS])
                refine wpAnyH_ready (rs := [9]) (by kernel_rfl) (by simp) ?_
                refine AllReadyH.cons rfl (fun K hK => ?_) ?_
                · have z15 := hq1.bk.at_ 15 sv rfl
                  have f15 := hq1.bk.free 15
                  have hq4 : JS b B0 w0 g6 g7 (jobC ⟨p1,p2,t1,t2,r1,r2,u1,u2,d1,d2,x1,x2,y1,y2,le,wi,me,[]⟩ (.slice (some ⟨qb,0,none⟩) (sh.length + 1) cp)) (wu.setCell ⟨g7,15,none⟩ (.slice (some ⟨qb,0,none⟩) (sh.length + 1) cp)) := hq1.put 15 (.slice (some ⟨qb,0,none⟩) (sh.length + 1) cp)
                  have hq5 : (wu.setCell ⟨g7,15,none⟩ (.slice (some ⟨qb,0,none⟩) (sh.length + 1) cp)).ownsRow Bs 23 2 (.slice (some ⟨qb,0,none⟩) (sh.length + 1) cp) (sh ++ [(xa,xb)]).length (rgCells (sh ++ [(xa,xb)])) := own_of' hq2 (fun g hg _ => Below.heap_setCell wu ⟨g7,15,none⟩ (.slice (some ⟨qb,0,none⟩) (sh.length + 1) cp) g (by show g ≠ g7; omega))
                  have hsz : wu.heap.size ≤ (wu.setCell ⟨g7,15,none⟩ (.slice (some ⟨qb,0,none⟩) (sh.length + 1) cp)).heap.size := by simp
                  go_simp
                  refine hK.out _ _ trivial (fun _ => ?_)
                  clear hK K
                  (try simp only [Act.put,aT,aZ,aS])
                  refine wpAnyH_done (by kernel_rfl) ?_ _
                  have hxx' : -60 ≤ xa ∧ xa ≤ xb ∧ xb ≤ 60 := by omega
                  exact ⟨rfl,_,_,_,_,_,_,_,_,_,(xa,xb),_,rfl,hxx',hq4,hq5,by obtain ⟨l1,l2,l3,l4,l5⟩ := hq3; exact ⟨l1,l2,l3,l4,Nat.le_trans l5 hsz⟩⟩
                exact AllReadyH.nil
              exact AllReadyH.nil
            exact AllReadyH.nil
          refine AllReadyH.cons rfl (fun K hK => ?_) ?_
          · have hJ_ := hJ.next ((Below.refl _ _).alloc (Nat.le_refl wy.heap.size) (.cells #[.int .i64 xa,.int .i64 xb] 23))
            have hA : Bk (wy.alloc (.cells #[.int .i64 xa,.int .i64 xb] 23)) wy.heap.size 23 #[.int .i64 xa,.int .i64 xb] := Bk.new _ _ _
            go_simp
            show K _ (wy.alloc (.cells #[.int .i64 xa,.int .i64 xb] 23))
            refine hK.out _ _ trivial (fun _ => ?_)
            clear hJ
            have hJ := hJ_
            clear hJ_
            generalize wy.heap.size = gA at hA ⊢
            generalize (wy.alloc (.cells #[.int .i64 xa,.int .i64 xb] 23)) = wz at hA hJ ⊢
            clear hK K
            (try simp only [Act.put,aT,aZ,aS])
            refine wpAnyH_ready (rs := [1]) (by kernel_rfl) (by simp) ?_
            refine AllReadyH.cons rfl (fun K hK => ?_) ?_
            · have c15 := hJ.js.bk.at_ 15 sv rfl
              go_simp
              refine hK.out _ _ trivial (fun _ => ?_)
              clear c15
              clear hK K
              (try simp only [Act.put,aT,aZ,aS])
              refine wpAnyH_ready (rs := [7]) (by kernel_rfl) (by simp) ?_
              refine AllReadyH.cons rfl (fun K hK => ?_) ?_
              · refine wp_append_own (.tmp 75) (.tmp 80) 28 rfl Bs 23 ti (.agg #[.int .i64 0,.int .i64 0]) 2 16 Tryz.underlying28 Hi.out Hz.out Hsz.out Hby.out rfl (by decide) sv sh.length (rgCells sh) rfl hJ.own ⟨gA,0,none⟩ 1 1 [.int .i64 xa,.int .i64 xb] rfl rfl (fun j u hu => by rw [Addr.add_mid,Nat.zero_add]; exact hA.at_ j u (by simpa using hu)) (by intro u hu; simp at hu; rcases hu with rfl | rfl <;> rfl) (by unfold maxLen; omega) (by omega) hJ.lt.2.2.2.2 ?_
                intro v' wu own' hg' _
                obtain ⟨qb,cp,rfl⟩ : ∃ qb cp,v' = .slice (some ⟨qb,0,none⟩) (sh.length + 1) cp := by
                  rcases own'.2 with ⟨_,h⟩ | ⟨q,cap,cur,h,_⟩
                  · omega
                  · exact ⟨q,cap,h⟩
                obtain ⟨hq1,hq2,hq3⟩ := hJ.grown (x := (xa,xb)) own' hg'
                refine hK.out _ _ trivial (fun _ => ?_)
                clear hJ hA own' hg'
                clear hK K
                (try simp only [Act.put,aT,aZ,aS])
                refine wT (i := 8) (v := ?_) rfl (.inl ⟨by rfl,?_⟩) ?_
                rotate_left
                · (intro w' hSw; (try dsimp only at hSw); go_simp <;> with_reducible rfl)
                (try simp only [Act.put,aT,aZ,aS])
                refine wpAnyH_ready (rs := [9]) (by kernel_rfl) (by simp) ?_
                refine AllReadyH.cons rfl (fun K hK => ?_) ?_
                · have z15 := hq1.bk.at_ 15 sv rfl
                  have f15 := hq1.bk.free 15
                  have hq4 : JS b B0 w0 g6 g7 (jobC ⟨p1,p2,t1,t2,r1,r2,u1,u2,d1,d2,x1,x2,y1,y2,le,wi,me,[]⟩ (.slice (some ⟨qb,0,none⟩) (sh.length + 1) cp)) (wu.setCell ⟨g7,15,none⟩ (.slice (some ⟨qb,0,none⟩) (sh.length + 1) cp)) := hq1.put 15 (.slice (some ⟨qb,0,none⟩) (sh.length + 1) cp)
                  have hq5 : (wu.setCell ⟨g7,15,none⟩ (.slice (some ⟨qb,0,none⟩) (sh.length + 1) cp)).ownsRow Bs 23 2 (.slice (some ⟨qb,0,none⟩) (sh.length + 1) cp) (sh ++ [(xa,xb)]).length (rgCells (sh ++ [(xa,xb)])) := own_of' hq2 (fun g hg _ => Below.heap_setCell wu ⟨g7,15,none⟩ (.slice (some ⟨qb,0,none⟩) (sh.length + 1) cp) g (by show g ≠ g7; omega))
                  have hsz : wu.heap.size ≤ (wu.setCell ⟨g7,15,none⟩ (.slice (some ⟨qb,0,none⟩) (sh.length + 1) cp)).heap.size := by simp
                  go_simp
                  refine hK.out _ _ trivial (fun _ => ?_)
                  clear hK K
                  (try simp only [Act.put,aT,aZ,aS])
                  refine wpAnyH_done (by kernel_rfl) ?_ _
                  have hxx' : -60 ≤ xa ∧ xa ≤ xb ∧ xb ≤ 60 := by omega
                  exact ⟨rfl,_,_,_,_,_,_,_,_,_,(xa,xb),_,rfl,hxx',hq4,hq5,by obtain ⟨l1,l2,l3,l4,l5⟩ := hq3; exact ⟨l1,l2,l3,l4,Nat.le_trans l5 hsz⟩⟩
                exact AllReadyH.nil
              exact AllReadyH.nil
            exact AllReadyH.nil
          exact AllReadyH.nil
        exact AllReadyH.nil
      exact AllReadyH.nil
    · have hown := HJ.out.own
      obtain ⟨sa,sc,rfl,hsn,hrg,hrb⟩ := rg_of_own hown
      have HOWN := hidMk hown
      clear hown
      have HRG := hidMk hrg
      have HRB := hidMk hrb
      have HSN := hidMk hsn
      clear hrg hrb hsn
      go_wp2_with fail
      exact jopart9 hwd hlo hwi hme hp ht hr hu hd hx hy hle HB.out (by omega) rfl HRG.out (fun q o hq => by have h1 := HRB.out q o hq; have h2 := HJ.out.lt.2.1; omega) HOWN.out ⟨HJ.out.lt.2.2.2.1,HJ.out.lt.2.1⟩ HJ.out.js hB
end Go.Proofs.YtljefjngmembkaaGreatDoor
