/- Part 18 of the proof: HeA. -/
import Derived.Deep.WholeRow
import Derived.Test.YtbebofmpimfbgaaH17
import Derived.Test.YtbebofmpimfbgaaH13
import Derived.Test.YtbebofmpimfbgaaH12
/- The law ReedHeard: its end. -/
namespace Go.Proofs.Ytbebofmpimfbgaa
set_option linter.all false
open Go.RowKit
noncomputable def hebody : Code := Try.f8.body.getD .skip
noncomputable def herest1 : Code := sndB hebody
noncomputable def herest2 : Code := sndB herest1
noncomputable def herest3 : Code := sndB herest2
noncomputable def herest4 : Code := sndB herest3
noncomputable def herest5 : Code := sndB herest4
noncomputable def herest6 : Code := sndB herest5
noncomputable def herest7 : Code := sndB herest6
noncomputable def herest8 : Code := sndB herest7
noncomputable def herest9 : Code := sndB herest8
noncomputable def herest10 : Code := sndB herest9
noncomputable def herest11 : Code := sndB herest10
noncomputable def herest12 : Code := sndB herest11
set_option maxRecDepth 1000000 in
theorem hebody_eq : hebody = .seq (Code.region 0 #[⟨some 2, .assign (.const (.bool false)), 4, "outright.go:396", #[], none⟩] false) herest1 := by kernel_rfl
set_option maxRecDepth 1000000 in
theorem herest1_eq : herest1 = .seq (Code.region 1 #[⟨some 10, .move (.tmp 0), 31, "outright.go:397", #[], none⟩, ⟨some 11, .call { callee := .value (.func 12), args := #[.tmp 10], argTypes := #[31] }, 34, "outright.go:397", #[⟨0, .data⟩], none⟩, ⟨some 3, .assign (.tmp 11), 34, "outright.go:397", #[⟨1, .data⟩, ⟨1, .chain⟩, ⟨0, .phase⟩, ⟨1, .phase⟩], none⟩] false) herest2 := by kernel_rfl
set_option maxRecDepth 1000000 in
theorem herest2_eq : herest2 = .seq (Code.region 2 #[⟨some 12, .move (.tmp 3), 34, "outright.go:398", #[], none⟩, ⟨some 13, .call { callee := .value (.func 13), args := #[.tmp 12, .const (.int .i64 1), .const (.int .i64 1)], argTypes := #[34, 3, 3] }, 30, "outright.go:398", #[⟨0, .data⟩], none⟩, ⟨some 4, .alloc 30, 0, "outright.go:398", #[], none⟩, ⟨none, .store 30 (.tmp 4) (.tmp 13), 0, "outright.go:398", #[⟨2, .data⟩, ⟨1, .data⟩, ⟨1, .chain⟩, ⟨0, .phase⟩, ⟨1, .phase⟩, ⟨2, .phase⟩], none⟩] false) herest3 := by kernel_rfl
set_option maxRecDepth 1000000 in
theorem herest3_eq : herest3 = .seq (Code.region 3 #[⟨some 14, .load 30 (.tmp 4), 30, "outright.go:399", #[], none⟩, ⟨some 15, .call { callee := .value (.func 14), args := #[.tmp 14], argTypes := #[30] }, 30, "outright.go:399", #[⟨0, .data⟩], none⟩, ⟨some 5, .alloc 30, 0, "outright.go:399", #[], none⟩, ⟨none, .store 30 (.tmp 5) (.tmp 15), 0, "outright.go:399", #[⟨2, .data⟩, ⟨1, .data⟩, ⟨1, .chain⟩, ⟨0, .phase⟩, ⟨1, .phase⟩, ⟨2, .phase⟩], none⟩] false) herest4 := by kernel_rfl
set_option maxRecDepth 1000000 in
theorem herest4_eq : herest4 = .seq (Code.region 4 #[⟨some 16, .fieldAddr 30 (.tmp 5) 0, 0, "outright.go:400", #[], none⟩, ⟨some 17, .fieldAddr 25 (.tmp 16) 0, 0, "outright.go:400", #[⟨0, .data⟩], none⟩, ⟨some 18, .fieldAddr 23 (.tmp 17) 0, 0, "outright.go:400", #[⟨1, .data⟩], none⟩, ⟨some 19, .load 3 (.tmp 18), 3, "outright.go:400", #[⟨2, .data⟩], none⟩, ⟨some 20, .fieldAddr 30 (.tmp 5) 1, 0, "outright.go:400", #[], none⟩, ⟨some 21, .fieldAddr 27 (.tmp 20) 0, 0, "outright.go:400", #[⟨4, .data⟩], none⟩, ⟨some 22, .fieldAddr 23 (.tmp 21) 0, 0, "outright.go:400", #[⟨5, .data⟩], none⟩, ⟨some 23, .load 3 (.tmp 22), 3, "outright.go:400", #[⟨6, .data⟩], none⟩, ⟨some 24, .fieldAddr 30 (.tmp 5) 1, 0, "outright.go:400", #[], none⟩, ⟨some 25, .fieldAddr 27 (.tmp 24) 1, 0, "outright.go:400", #[⟨8, .data⟩], none⟩, ⟨some 26, .fieldAddr 23 (.tmp 25) 0, 0, "outright.go:400", #[⟨9, .data⟩], none⟩, ⟨some 27, .load 3 (.tmp 26), 3, "outright.go:400", #[⟨10, .data⟩], none⟩, ⟨some 28, .fieldAddr 30 (.tmp 5) 1, 0, "outright.go:400", #[], none⟩, ⟨some 29, .fieldAddr 27 (.tmp 28) 2, 0, "outright.go:400", #[⟨12, .data⟩], none⟩, ⟨some 30, .fieldAddr 23 (.tmp 29) 0, 0, "outright.go:400", #[⟨13, .data⟩], none⟩, ⟨some 31, .load 3 (.tmp 30), 3, "outright.go:400", #[⟨14, .data⟩], none⟩, ⟨some 32, .fieldAddr 30 (.tmp 5) 1, 0, "outright.go:400", #[], none⟩, ⟨some 33, .fieldAddr 27 (.tmp 32) 3, 0, "outright.go:400", #[⟨16, .data⟩], none⟩, ⟨some 34, .fieldAddr 23 (.tmp 33) 0, 0, "outright.go:400", #[⟨17, .data⟩], none⟩, ⟨some 35, .load 3 (.tmp 34), 3, "outright.go:400", #[⟨18, .data⟩], none⟩, ⟨some 36, .fieldAddr 30 (.tmp 5) 0, 0, "outright.go:400", #[⟨0, .phase⟩, ⟨1, .phase⟩, ⟨2, .phase⟩, ⟨3, .phase⟩, ⟨4, .phase⟩, ⟨5, .phase⟩, ⟨6, .phase⟩, ⟨7, .phase⟩, ⟨8, .phase⟩, ⟨9, .phase⟩, ⟨10, .phase⟩, ⟨11, .phase⟩, ⟨12, .phase⟩, ⟨13, .phase⟩, ⟨14, .phase⟩, ⟨15, .phase⟩, ⟨16, .phase⟩, ⟨17, .phase⟩, ⟨18, .phase⟩, ⟨19, .phase⟩], none⟩, ⟨some 37, .fieldAddr 25 (.tmp 36) 0, 0, "outright.go:400", #[⟨20, .data⟩, ⟨0, .phase⟩, ⟨1, .phase⟩, ⟨2, .phase⟩, ⟨3, .phase⟩, ⟨4, .phase⟩, ⟨5, .phase⟩, ⟨6, .phase⟩, ⟨7, .phase⟩, ⟨8, .phase⟩, ⟨9, .phase⟩, ⟨10, .phase⟩, ⟨11, .phase⟩, ⟨12, .phase⟩, ⟨13, .phase⟩, ⟨14, .phase⟩, ⟨15, .phase⟩, ⟨16, .phase⟩, ⟨17, .phase⟩, ⟨18, .phase⟩, ⟨19, .phase⟩], none⟩, ⟨some 38, .fieldAddr 23 (.tmp 37) 1, 0, "outright.go:400", #[⟨21, .data⟩, ⟨0, .phase⟩, ⟨1, .phase⟩, ⟨2, .phase⟩, ⟨3, .phase⟩, ⟨4, .phase⟩, ⟨5, .phase⟩, ⟨6, .phase⟩, ⟨7, .phase⟩, ⟨8, .phase⟩, ⟨9, .phase⟩, ⟨10, .phase⟩, ⟨11, .phase⟩, ⟨12, .phase⟩, ⟨13, .phase⟩, ⟨14, .phase⟩, ⟨15, .phase⟩, ⟨16, .phase⟩, ⟨17, .phase⟩, ⟨18, .phase⟩, ⟨19, .phase⟩], none⟩, ⟨none, .store 3 (.tmp 38) (.tmp 19), 0, "outright.go:400", #[⟨22, .data⟩, ⟨3, .data⟩, ⟨0, .phase⟩, ⟨1, .phase⟩, ⟨2, .phase⟩, ⟨3, .phase⟩, ⟨4, .phase⟩, ⟨5, .phase⟩, ⟨6, .phase⟩, ⟨7, .phase⟩, ⟨8, .phase⟩, ⟨9, .phase⟩, ⟨10, .phase⟩, ⟨11, .phase⟩, ⟨12, .phase⟩, ⟨13, .phase⟩, ⟨14, .phase⟩, ⟨15, .phase⟩, ⟨16, .phase⟩, ⟨17, .phase⟩, ⟨18, .phase⟩, ⟨19, .phase⟩], none⟩, ⟨some 39, .fieldAddr 30 (.tmp 5) 1, 0, "outright.go:400", #[⟨0, .phase⟩, ⟨1, .phase⟩, ⟨2, .phase⟩, ⟨3, .phase⟩, ⟨4, .phase⟩, ⟨5, .phase⟩, ⟨6, .phase⟩, ⟨7, .phase⟩, ⟨8, .phase⟩, ⟨9, .phase⟩, ⟨10, .phase⟩, ⟨11, .phase⟩, ⟨12, .phase⟩, ⟨13, .phase⟩, ⟨14, .phase⟩, ⟨15, .phase⟩, ⟨16, .phase⟩, ⟨17, .phase⟩, ⟨18, .phase⟩, ⟨19, .phase⟩, ⟨20, .phase⟩, ⟨21, .phase⟩, ⟨22, .phase⟩, ⟨23, .phase⟩], none⟩, ⟨some 40, .fieldAddr 27 (.tmp 39) 0, 0, "outright.go:400", #[⟨24, .data⟩, ⟨0, .phase⟩, ⟨1, .phase⟩, ⟨2, .phase⟩, ⟨3, .phase⟩, ⟨4, .phase⟩, ⟨5, .phase⟩, ⟨6, .phase⟩, ⟨7, .phase⟩, ⟨8, .phase⟩, ⟨9, .phase⟩, ⟨10, .phase⟩, ⟨11, .phase⟩, ⟨12, .phase⟩, ⟨13, .phase⟩, ⟨14, .phase⟩, ⟨15, .phase⟩, ⟨16, .phase⟩, ⟨17, .phase⟩, ⟨18, .phase⟩, ⟨19, .phase⟩, ⟨20, .phase⟩, ⟨21, .phase⟩, ⟨22, .phase⟩, ⟨23, .phase⟩], none⟩, ⟨some 41, .fieldAddr 23 (.tmp 40) 1, 0, "outright.go:400", #[⟨25, .data⟩, ⟨0, .phase⟩, ⟨1, .phase⟩, ⟨2, .phase⟩, ⟨3, .phase⟩, ⟨4, .phase⟩, ⟨5, .phase⟩, ⟨6, .phase⟩, ⟨7, .phase⟩, ⟨8, .phase⟩, ⟨9, .phase⟩, ⟨10, .phase⟩, ⟨11, .phase⟩, ⟨12, .phase⟩, ⟨13, .phase⟩, ⟨14, .phase⟩, ⟨15, .phase⟩, ⟨16, .phase⟩, ⟨17, .phase⟩, ⟨18, .phase⟩, ⟨19, .phase⟩, ⟨20, .phase⟩, ⟨21, .phase⟩, ⟨22, .phase⟩, ⟨23, .phase⟩], none⟩, ⟨none, .store 3 (.tmp 41) (.tmp 23), 0, "outright.go:400", #[⟨26, .data⟩, ⟨7, .data⟩, ⟨23, .chain⟩, ⟨0, .phase⟩, ⟨1, .phase⟩, ⟨2, .phase⟩, ⟨3, .phase⟩, ⟨4, .phase⟩, ⟨5, .phase⟩, ⟨6, .phase⟩, ⟨7, .phase⟩, ⟨8, .phase⟩, ⟨9, .phase⟩, ⟨10, .phase⟩, ⟨11, .phase⟩, ⟨12, .phase⟩, ⟨13, .phase⟩, ⟨14, .phase⟩, ⟨15, .phase⟩, ⟨16, .phase⟩, ⟨17, .phase⟩, ⟨18, .phase⟩, ⟨19, .phase⟩, ⟨20, .phase⟩, ⟨21, .phase⟩, ⟨22, .phase⟩, ⟨23, .phase⟩], none⟩, ⟨some 42, .fieldAddr 30 (.tmp 5) 1, 0, "outright.go:400", #[⟨0, .phase⟩, ⟨1, .phase⟩, ⟨2, .phase⟩, ⟨3, .phase⟩, ⟨4, .phase⟩, ⟨5, .phase⟩, ⟨6, .phase⟩, ⟨7, .phase⟩, ⟨8, .phase⟩, ⟨9, .phase⟩, ⟨10, .phase⟩, ⟨11, .phase⟩, ⟨12, .phase⟩, ⟨13, .phase⟩, ⟨14, .phase⟩, ⟨15, .phase⟩, ⟨16, .phase⟩, ⟨17, .phase⟩, ⟨18, .phase⟩, ⟨19, .phase⟩, ⟨20, .phase⟩, ⟨21, .phase⟩, ⟨22, .phase⟩, ⟨23, .phase⟩, ⟨24, .phase⟩, ⟨25, .phase⟩, ⟨26, .phase⟩, ⟨27, .phase⟩], none⟩, ⟨some 43, .fieldAddr 27 (.tmp 42) 1, 0, "outright.go:400", #[⟨28, .data⟩, ⟨0, .phase⟩, ⟨1, .phase⟩, ⟨2, .phase⟩, ⟨3, .phase⟩, ⟨4, .phase⟩, ⟨5, .phase⟩, ⟨6, .phase⟩, ⟨7, .phase⟩, ⟨8, .phase⟩, ⟨9, .phase⟩, ⟨10, .phase⟩, ⟨11, .phase⟩, ⟨12, .phase⟩, ⟨13, .phase⟩, ⟨14, .phase⟩, ⟨15, .phase⟩, ⟨16, .phase⟩, ⟨17, .phase⟩, ⟨18, .phase⟩, ⟨19, .phase⟩, ⟨20, .phase⟩, ⟨21, .phase⟩, ⟨22, .phase⟩, ⟨23, .phase⟩, ⟨24, .phase⟩, ⟨25, .phase⟩, ⟨26, .phase⟩, ⟨27, .phase⟩], none⟩, ⟨some 44, .fieldAddr 23 (.tmp 43) 1, 0, "outright.go:400", #[⟨29, .data⟩, ⟨0, .phase⟩, ⟨1, .phase⟩, ⟨2, .phase⟩, ⟨3, .phase⟩, ⟨4, .phase⟩, ⟨5, .phase⟩, ⟨6, .phase⟩, ⟨7, .phase⟩, ⟨8, .phase⟩, ⟨9, .phase⟩, ⟨10, .phase⟩, ⟨11, .phase⟩, ⟨12, .phase⟩, ⟨13, .phase⟩, ⟨14, .phase⟩, ⟨15, .phase⟩, ⟨16, .phase⟩, ⟨17, .phase⟩, ⟨18, .phase⟩, ⟨19, .phase⟩, ⟨20, .phase⟩, ⟨21, .phase⟩, ⟨22, .phase⟩, ⟨23, .phase⟩, ⟨24, .phase⟩, ⟨25, .phase⟩, ⟨26, .phase⟩, ⟨27, .phase⟩], none⟩, ⟨none, .store 3 (.tmp 44) (.tmp 27), 0, "outright.go:400", #[⟨30, .data⟩, ⟨11, .data⟩, ⟨27, .chain⟩, ⟨0, .phase⟩, ⟨1, .phase⟩, ⟨2, .phase⟩, ⟨3, .phase⟩, ⟨4, .phase⟩, ⟨5, .phase⟩, ⟨6, .phase⟩, ⟨7, .phase⟩, ⟨8, .phase⟩, ⟨9, .phase⟩, ⟨10, .phase⟩, ⟨11, .phase⟩, ⟨12, .phase⟩, ⟨13, .phase⟩, ⟨14, .phase⟩, ⟨15, .phase⟩, ⟨16, .phase⟩, ⟨17, .phase⟩, ⟨18, .phase⟩, ⟨19, .phase⟩, ⟨20, .phase⟩, ⟨21, .phase⟩, ⟨22, .phase⟩, ⟨23, .phase⟩, ⟨24, .phase⟩, ⟨25, .phase⟩, ⟨26, .phase⟩, ⟨27, .phase⟩], none⟩, ⟨some 45, .fieldAddr 30 (.tmp 5) 1, 0, "outright.go:400", #[⟨0, .phase⟩, ⟨1, .phase⟩, ⟨2, .phase⟩, ⟨3, .phase⟩, ⟨4, .phase⟩, ⟨5, .phase⟩, ⟨6, .phase⟩, ⟨7, .phase⟩, ⟨8, .phase⟩, ⟨9, .phase⟩, ⟨10, .phase⟩, ⟨11, .phase⟩, ⟨12, .phase⟩, ⟨13, .phase⟩, ⟨14, .phase⟩, ⟨15, .phase⟩, ⟨16, .phase⟩, ⟨17, .phase⟩, ⟨18, .phase⟩, ⟨19, .phase⟩, ⟨20, .phase⟩, ⟨21, .phase⟩, ⟨22, .phase⟩, ⟨23, .phase⟩, ⟨24, .phase⟩, ⟨25, .phase⟩, ⟨26, .phase⟩, ⟨27, .phase⟩, ⟨28, .phase⟩, ⟨29, .phase⟩, ⟨30, .phase⟩, ⟨31, .phase⟩], none⟩, ⟨some 46, .fieldAddr 27 (.tmp 45) 2, 0, "outright.go:400", #[⟨32, .data⟩, ⟨0, .phase⟩, ⟨1, .phase⟩, ⟨2, .phase⟩, ⟨3, .phase⟩, ⟨4, .phase⟩, ⟨5, .phase⟩, ⟨6, .phase⟩, ⟨7, .phase⟩, ⟨8, .phase⟩, ⟨9, .phase⟩, ⟨10, .phase⟩, ⟨11, .phase⟩, ⟨12, .phase⟩, ⟨13, .phase⟩, ⟨14, .phase⟩, ⟨15, .phase⟩, ⟨16, .phase⟩, ⟨17, .phase⟩, ⟨18, .phase⟩, ⟨19, .phase⟩, ⟨20, .phase⟩, ⟨21, .phase⟩, ⟨22, .phase⟩, ⟨23, .phase⟩, ⟨24, .phase⟩, ⟨25, .phase⟩, ⟨26, .phase⟩, ⟨27, .phase⟩, ⟨28, .phase⟩, ⟨29, .phase⟩, ⟨30, .phase⟩, ⟨31, .phase⟩], none⟩, ⟨some 47, .fieldAddr 23 (.tmp 46) 1, 0, "outright.go:400", #[⟨33, .data⟩, ⟨0, .phase⟩, ⟨1, .phase⟩, ⟨2, .phase⟩, ⟨3, .phase⟩, ⟨4, .phase⟩, ⟨5, .phase⟩, ⟨6, .phase⟩, ⟨7, .phase⟩, ⟨8, .phase⟩, ⟨9, .phase⟩, ⟨10, .phase⟩, ⟨11, .phase⟩, ⟨12, .phase⟩, ⟨13, .phase⟩, ⟨14, .phase⟩, ⟨15, .phase⟩, ⟨16, .phase⟩, ⟨17, .phase⟩, ⟨18, .phase⟩, ⟨19, .phase⟩, ⟨20, .phase⟩, ⟨21, .phase⟩, ⟨22, .phase⟩, ⟨23, .phase⟩, ⟨24, .phase⟩, ⟨25, .phase⟩, ⟨26, .phase⟩, ⟨27, .phase⟩, ⟨28, .phase⟩, ⟨29, .phase⟩, ⟨30, .phase⟩, ⟨31, .phase⟩], none⟩, ⟨none, .store 3 (.tmp 47) (.tmp 31), 0, "outright.go:400", #[⟨34, .data⟩, ⟨15, .data⟩, ⟨31, .chain⟩, ⟨0, .phase⟩, ⟨1, .phase⟩, ⟨2, .phase⟩, ⟨3, .phase⟩, ⟨4, .phase⟩, ⟨5, .phase⟩, ⟨6, .phase⟩, ⟨7, .phase⟩, ⟨8, .phase⟩, ⟨9, .phase⟩, ⟨10, .phase⟩, ⟨11, .phase⟩, ⟨12, .phase⟩, ⟨13, .phase⟩, ⟨14, .phase⟩, ⟨15, .phase⟩, ⟨16, .phase⟩, ⟨17, .phase⟩, ⟨18, .phase⟩, ⟨19, .phase⟩, ⟨20, .phase⟩, ⟨21, .phase⟩, ⟨22, .phase⟩, ⟨23, .phase⟩, ⟨24, .phase⟩, ⟨25, .phase⟩, ⟨26, .phase⟩, ⟨27, .phase⟩, ⟨28, .phase⟩, ⟨29, .phase⟩, ⟨30, .phase⟩, ⟨31, .phase⟩], none⟩, ⟨some 48, .fieldAddr 30 (.tmp 5) 1, 0, "outright.go:400", #[⟨0, .phase⟩, ⟨1, .phase⟩, ⟨2, .phase⟩, ⟨3, .phase⟩, ⟨4, .phase⟩, ⟨5, .phase⟩, ⟨6, .phase⟩, ⟨7, .phase⟩, ⟨8, .phase⟩, ⟨9, .phase⟩, ⟨10, .phase⟩, ⟨11, .phase⟩, ⟨12, .phase⟩, ⟨13, .phase⟩, ⟨14, .phase⟩, ⟨15, .phase⟩, ⟨16, .phase⟩, ⟨17, .phase⟩, ⟨18, .phase⟩, ⟨19, .phase⟩, ⟨20, .phase⟩, ⟨21, .phase⟩, ⟨22, .phase⟩, ⟨23, .phase⟩, ⟨24, .phase⟩, ⟨25, .phase⟩, ⟨26, .phase⟩, ⟨27, .phase⟩, ⟨28, .phase⟩, ⟨29, .phase⟩, ⟨30, .phase⟩, ⟨31, .phase⟩, ⟨32, .phase⟩, ⟨33, .phase⟩, ⟨34, .phase⟩, ⟨35, .phase⟩], none⟩, ⟨some 49, .fieldAddr 27 (.tmp 48) 3, 0, "outright.go:400", #[⟨36, .data⟩, ⟨0, .phase⟩, ⟨1, .phase⟩, ⟨2, .phase⟩, ⟨3, .phase⟩, ⟨4, .phase⟩, ⟨5, .phase⟩, ⟨6, .phase⟩, ⟨7, .phase⟩, ⟨8, .phase⟩, ⟨9, .phase⟩, ⟨10, .phase⟩, ⟨11, .phase⟩, ⟨12, .phase⟩, ⟨13, .phase⟩, ⟨14, .phase⟩, ⟨15, .phase⟩, ⟨16, .phase⟩, ⟨17, .phase⟩, ⟨18, .phase⟩, ⟨19, .phase⟩, ⟨20, .phase⟩, ⟨21, .phase⟩, ⟨22, .phase⟩, ⟨23, .phase⟩, ⟨24, .phase⟩, ⟨25, .phase⟩, ⟨26, .phase⟩, ⟨27, .phase⟩, ⟨28, .phase⟩, ⟨29, .phase⟩, ⟨30, .phase⟩, ⟨31, .phase⟩, ⟨32, .phase⟩, ⟨33, .phase⟩, ⟨34, .phase⟩, ⟨35, .phase⟩], none⟩, ⟨some 50, .fieldAddr 23 (.tmp 49) 1, 0, "outright.go:400", #[⟨37, .data⟩, ⟨0, .phase⟩, ⟨1, .phase⟩, ⟨2, .phase⟩, ⟨3, .phase⟩, ⟨4, .phase⟩, ⟨5, .phase⟩, ⟨6, .phase⟩, ⟨7, .phase⟩, ⟨8, .phase⟩, ⟨9, .phase⟩, ⟨10, .phase⟩, ⟨11, .phase⟩, ⟨12, .phase⟩, ⟨13, .phase⟩, ⟨14, .phase⟩, ⟨15, .phase⟩, ⟨16, .phase⟩, ⟨17, .phase⟩, ⟨18, .phase⟩, ⟨19, .phase⟩, ⟨20, .phase⟩, ⟨21, .phase⟩, ⟨22, .phase⟩, ⟨23, .phase⟩, ⟨24, .phase⟩, ⟨25, .phase⟩, ⟨26, .phase⟩, ⟨27, .phase⟩, ⟨28, .phase⟩, ⟨29, .phase⟩, ⟨30, .phase⟩, ⟨31, .phase⟩, ⟨32, .phase⟩, ⟨33, .phase⟩, ⟨34, .phase⟩, ⟨35, .phase⟩], none⟩, ⟨none, .store 3 (.tmp 50) (.tmp 35), 0, "outright.go:400", #[⟨38, .data⟩, ⟨19, .data⟩, ⟨35, .chain⟩, ⟨0, .phase⟩, ⟨1, .phase⟩, ⟨2, .phase⟩, ⟨3, .phase⟩, ⟨4, .phase⟩, ⟨5, .phase⟩, ⟨6, .phase⟩, ⟨7, .phase⟩, ⟨8, .phase⟩, ⟨9, .phase⟩, ⟨10, .phase⟩, ⟨11, .phase⟩, ⟨12, .phase⟩, ⟨13, .phase⟩, ⟨14, .phase⟩, ⟨15, .phase⟩, ⟨16, .phase⟩, ⟨17, .phase⟩, ⟨18, .phase⟩, ⟨19, .phase⟩, ⟨20, .phase⟩, ⟨21, .phase⟩, ⟨22, .phase⟩, ⟨23, .phase⟩, ⟨24, .phase⟩, ⟨25, .phase⟩, ⟨26, .phase⟩, ⟨27, .phase⟩, ⟨28, .phase⟩, ⟨29, .phase⟩, ⟨30, .phase⟩, ⟨31, .phase⟩, ⟨32, .phase⟩, ⟨33, .phase⟩, ⟨34, .phase⟩, ⟨35, .phase⟩], none⟩] false) herest5 := by kernel_rfl
set_option maxRecDepth 1000000 in
theorem herest5_eq : herest5 = .seq (Code.region 5 #[⟨some 51, .fieldAddr 30 (.tmp 5) 1, 0, "outright.go:401", #[], none⟩, ⟨some 52, .fieldAddr 27 (.tmp 51) 4, 0, "outright.go:401", #[⟨0, .data⟩], none⟩, ⟨some 53, .load 3 (.tmp 52), 3, "outright.go:401", #[⟨1, .data⟩], none⟩, ⟨some 54, .fieldAddr 30 (.tmp 5) 0, 0, "outright.go:401", #[], none⟩, ⟨some 55, .fieldAddr 25 (.tmp 54) 1, 0, "outright.go:401", #[⟨3, .data⟩], none⟩, ⟨some 56, .fieldAddr 23 (.tmp 55) 0, 0, "outright.go:401", #[⟨4, .data⟩], none⟩, ⟨some 57, .load 3 (.tmp 56), 3, "outright.go:401", #[⟨5, .data⟩], none⟩, ⟨some 58, .fieldAddr 30 (.tmp 5) 0, 0, "outright.go:401", #[], none⟩, ⟨some 59, .fieldAddr 25 (.tmp 58) 2, 0, "outright.go:401", #[⟨7, .data⟩], none⟩, ⟨some 60, .fieldAddr 23 (.tmp 59) 0, 0, "outright.go:401", #[⟨8, .data⟩], none⟩, ⟨some 61, .load 3 (.tmp 60), 3, "outright.go:401", #[⟨9, .data⟩], none⟩, ⟨some 62, .call { callee := .builtin .min, args := #[.tmp 53, .tmp 57, .tmp 61], argTypes := #[3, 3, 3] }, 3, "outright.go:401", #[⟨2, .data⟩, ⟨6, .data⟩, ⟨10, .data⟩], none⟩, ⟨some 63, .fieldAddr 30 (.tmp 5) 1, 0, "outright.go:401", #[⟨0, .phase⟩, ⟨1, .phase⟩, ⟨2, .phase⟩, ⟨3, .phase⟩, ⟨4, .phase⟩, ⟨5, .phase⟩, ⟨6, .phase⟩, ⟨7, .phase⟩, ⟨8, .phase⟩, ⟨9, .phase⟩, ⟨10, .phase⟩, ⟨11, .phase⟩], none⟩, ⟨some 64, .fieldAddr 27 (.tmp 63) 4, 0, "outright.go:401", #[⟨12, .data⟩, ⟨0, .phase⟩, ⟨1, .phase⟩, ⟨2, .phase⟩, ⟨3, .phase⟩, ⟨4, .phase⟩, ⟨5, .phase⟩, ⟨6, .phase⟩, ⟨7, .phase⟩, ⟨8, .phase⟩, ⟨9, .phase⟩, ⟨10, .phase⟩, ⟨11, .phase⟩], none⟩, ⟨none, .store 3 (.tmp 64) (.tmp 62), 0, "outright.go:401", #[⟨13, .data⟩, ⟨11, .data⟩, ⟨0, .phase⟩, ⟨1, .phase⟩, ⟨2, .phase⟩, ⟨3, .phase⟩, ⟨4, .phase⟩, ⟨5, .phase⟩, ⟨6, .phase⟩, ⟨7, .phase⟩, ⟨8, .phase⟩, ⟨9, .phase⟩, ⟨10, .phase⟩, ⟨11, .phase⟩], none⟩] false) herest6 := by kernel_rfl
set_option maxRecDepth 1000000 in
theorem herest6_eq : herest6 = .seq (Code.region 6 #[⟨some 66, .load 30 (.tmp 4), 30, "outright.go:402", #[], none⟩, ⟨some 67, .call { callee := .value (.func 44), args := #[.tmp 66], argTypes := #[30] }, 73, "outright.go:402", #[⟨0, .data⟩], none⟩, ⟨some 65, .move (.tmp 67), 73, "outright.go:402", #[⟨1, .data⟩], none⟩, ⟨some 68, .extract (.tmp 65) 0, 31, "outright.go:402", #[⟨2, .data⟩], none⟩, ⟨some 69, .extract (.tmp 65) 1, 39, "outright.go:402", #[⟨2, .data⟩, ⟨5, .gcOnly .lateStores⟩], none⟩, ⟨some 6, .assign (.tmp 68), 31, "outright.go:402", #[⟨3, .data⟩, ⟨1, .chain⟩, ⟨0, .phase⟩, ⟨1, .phase⟩, ⟨2, .phase⟩, ⟨3, .phase⟩, ⟨4, .textOnly .lateStores⟩], none⟩, ⟨some 7, .assign (.tmp 69), 39, "outright.go:402", #[⟨4, .data⟩, ⟨5, .chain⟩, ⟨0, .phase⟩, ⟨1, .phase⟩, ⟨2, .phase⟩, ⟨3, .phase⟩, ⟨4, .phase⟩, ⟨5, .phase⟩], none⟩] false) herest7 := by kernel_rfl
set_option maxRecDepth 1000000 in
theorem herest7_eq : herest7 = .seq (Code.region 7 #[⟨some 71, .load 30 (.tmp 4), 30, "outright.go:403", #[], none⟩, ⟨some 72, .call { callee := .value (.func 15), args := #[.tmp 71], argTypes := #[30] }, 40, "outright.go:403", #[⟨0, .data⟩], none⟩, ⟨some 70, .move (.tmp 72), 40, "outright.go:403", #[⟨1, .data⟩], none⟩, ⟨some 73, .extract (.tmp 70) 0, 3, "outright.go:403", #[⟨2, .data⟩], none⟩, ⟨some 74, .extract (.tmp 70) 1, 39, "outright.go:403", #[⟨2, .data⟩, ⟨5, .gcOnly .lateStores⟩], none⟩, ⟨some 8, .assign (.tmp 73), 3, "outright.go:403", #[⟨3, .data⟩, ⟨1, .chain⟩, ⟨0, .phase⟩, ⟨1, .phase⟩, ⟨2, .phase⟩, ⟨3, .phase⟩, ⟨4, .textOnly .lateStores⟩], none⟩, ⟨some 9, .assign (.tmp 74), 39, "outright.go:403", #[⟨4, .data⟩, ⟨5, .chain⟩, ⟨0, .phase⟩, ⟨1, .phase⟩, ⟨2, .phase⟩, ⟨3, .phase⟩, ⟨4, .phase⟩, ⟨5, .phase⟩], none⟩] false) herest8 := by kernel_rfl
set_option maxRecDepth 1000000 in
theorem herest8_eq : herest8 = .seq (.seq (Code.region 8 #[⟨some 75, .move (.tmp 7), 39, "outright.go:404", #[], none⟩, ⟨some 76, .binOp .eql 39 (.tmp 75) (.const (.int .i64 0)) 39, 4, "outright.go:404", #[⟨0, .data⟩], none⟩, ⟨some 77, .move (.tmp 76), 4, "outright.go:404", #[⟨1, .data⟩], none⟩, ⟨some 78, .move (.tmp 6), 31, "outright.go:404", #[⟨2, .guard⟩], some (2, true)⟩, ⟨some 79, .call { callee := .builtin .len, args := #[.tmp 78], argTypes := #[31] }, 3, "outright.go:404", #[⟨3, .data⟩, ⟨2, .guard⟩], some (2, true)⟩, ⟨some 80, .binOp .leq 3 (.tmp 79) (.const (.int .i64 4)) 3, 4, "outright.go:404", #[⟨4, .data⟩, ⟨2, .guard⟩], some (2, true)⟩, ⟨some 81, .pick (.tmp 77) (.tmp 80) (.const (.bool false)), 4, "outright.go:404", #[⟨2, .data⟩, ⟨5, .data⟩], none⟩, ⟨some 82, .move (.tmp 81), 4, "outright.go:404", #[⟨6, .data⟩, ⟨2, .chain⟩], none⟩, ⟨some 83, .move (.tmp 9), 39, "outright.go:404", #[⟨7, .guard⟩], some (7, true)⟩, ⟨some 84, .binOp .neq 39 (.tmp 83) (.const (.int .i64 0)) 39, 4, "outright.go:404", #[⟨8, .data⟩, ⟨7, .guard⟩], some (7, true)⟩, ⟨some 85, .move (.tmp 84), 4, "outright.go:404", #[⟨9, .data⟩, ⟨7, .chain⟩, ⟨7, .guard⟩], some (7, true)⟩, ⟨some 86, .move (.tmp 8), 3, "outright.go:404", #[⟨10, .guard⟩], some (10, false)⟩, ⟨some 87, .move (.tmp 6), 31, "outright.go:404", #[⟨10, .guard⟩], some (10, false)⟩, ⟨some 88, .call { callee := .builtin .len, args := #[.tmp 87], argTypes := #[31] }, 3, "outright.go:404", #[⟨12, .data⟩, ⟨10, .guard⟩], some (10, false)⟩, ⟨some 89, .binOp .gtr 3 (.tmp 86) (.tmp 88) 3, 4, "outright.go:404", #[⟨11, .data⟩, ⟨13, .data⟩, ⟨10, .guard⟩], some (10, false)⟩, ⟨some 90, .pick (.tmp 85) (.const (.bool true)) (.tmp 89), 4, "outright.go:404", #[⟨10, .data⟩, ⟨14, .data⟩, ⟨7, .guard⟩], some (7, true)⟩, ⟨some 91, .pick (.tmp 82) (.tmp 90) (.const (.bool false)), 4, "outright.go:404", #[⟨7, .data⟩, ⟨15, .data⟩], none⟩] false) (.cond (.tmp 91) (.seq (Code.region 9 #[⟨some 2, .assign (.const (.bool false)), 4, "outright.go:405", #[], none⟩] false) .ret) .skip)) herest9 := by kernel_rfl
set_option maxRecDepth 1000000 in
theorem herest9_eq : herest9 = .seq (Code.region 10 #[⟨some 93, .load 30 (.tmp 5), 30, "outright.go:407", #[], none⟩, ⟨some 94, .call { callee := .value (.func 44), args := #[.tmp 93], argTypes := #[30] }, 73, "outright.go:407", #[⟨0, .data⟩], none⟩, ⟨some 92, .move (.tmp 94), 73, "outright.go:407", #[⟨1, .data⟩], none⟩, ⟨some 95, .extract (.tmp 92) 0, 31, "outright.go:407", #[⟨2, .data⟩], none⟩, ⟨some 96, .extract (.tmp 92) 1, 39, "outright.go:407", #[⟨2, .data⟩, ⟨5, .gcOnly .lateStores⟩], none⟩, ⟨some 6, .assign (.tmp 95), 31, "outright.go:407", #[⟨3, .data⟩, ⟨1, .chain⟩, ⟨0, .phase⟩, ⟨1, .phase⟩, ⟨2, .phase⟩, ⟨3, .phase⟩, ⟨4, .textOnly .lateStores⟩], none⟩, ⟨some 7, .assign (.tmp 96), 39, "outright.go:407", #[⟨4, .data⟩, ⟨5, .chain⟩, ⟨0, .phase⟩, ⟨1, .phase⟩, ⟨2, .phase⟩, ⟨3, .phase⟩, ⟨4, .phase⟩, ⟨5, .phase⟩], none⟩] false) herest10 := by kernel_rfl
set_option maxRecDepth 1000000 in
theorem herest10_eq : herest10 = .seq (Code.region 11 #[⟨some 98, .load 30 (.tmp 5), 30, "outright.go:408", #[], none⟩, ⟨some 99, .call { callee := .value (.func 15), args := #[.tmp 98], argTypes := #[30] }, 40, "outright.go:408", #[⟨0, .data⟩], none⟩, ⟨some 97, .move (.tmp 99), 40, "outright.go:408", #[⟨1, .data⟩], none⟩, ⟨some 100, .extract (.tmp 97) 0, 3, "outright.go:408", #[⟨2, .data⟩], none⟩, ⟨some 101, .extract (.tmp 97) 1, 39, "outright.go:408", #[⟨2, .data⟩, ⟨5, .gcOnly .lateStores⟩], none⟩, ⟨some 8, .assign (.tmp 100), 3, "outright.go:408", #[⟨3, .data⟩, ⟨1, .chain⟩, ⟨0, .phase⟩, ⟨1, .phase⟩, ⟨2, .phase⟩, ⟨3, .phase⟩, ⟨4, .textOnly .lateStores⟩], none⟩, ⟨some 9, .assign (.tmp 101), 39, "outright.go:408", #[⟨4, .data⟩, ⟨5, .chain⟩, ⟨0, .phase⟩, ⟨1, .phase⟩, ⟨2, .phase⟩, ⟨3, .phase⟩, ⟨4, .phase⟩, ⟨5, .phase⟩], none⟩] false) herest11 := by kernel_rfl
set_option maxRecDepth 1000000 in
theorem herest11_eq : herest11 = .seq (.seq (Code.region 12 #[⟨some 102, .move (.tmp 9), 39, "outright.go:409", #[], none⟩, ⟨some 103, .binOp .eql 39 (.tmp 102) (.const (.int .i64 0)) 39, 4, "outright.go:409", #[⟨0, .data⟩], none⟩] false) (.cond (.tmp 103) (.seq (Code.region 13 #[⟨some 104, .move (.tmp 7), 39, "outright.go:410", #[], none⟩, ⟨some 105, .binOp .eql 39 (.tmp 104) (.const (.int .i64 0)) 39, 4, "outright.go:410", #[⟨0, .data⟩], none⟩, ⟨some 106, .move (.tmp 105), 4, "outright.go:410", #[⟨1, .data⟩], none⟩, ⟨some 107, .move (.tmp 8), 3, "outright.go:410", #[⟨2, .guard⟩], some (2, true)⟩, ⟨some 108, .move (.tmp 6), 31, "outright.go:410", #[⟨2, .guard⟩], some (2, true)⟩, ⟨some 109, .call { callee := .builtin .len, args := #[.tmp 108], argTypes := #[31] }, 3, "outright.go:410", #[⟨4, .data⟩, ⟨2, .guard⟩], some (2, true)⟩, ⟨some 110, .binOp .eql 3 (.tmp 107) (.tmp 109) 3, 4, "outright.go:410", #[⟨3, .data⟩, ⟨5, .data⟩, ⟨2, .guard⟩], some (2, true)⟩, ⟨some 111, .pick (.tmp 106) (.tmp 110) (.const (.bool false)), 4, "outright.go:410", #[⟨2, .data⟩, ⟨6, .data⟩], none⟩, ⟨some 112, .move (.tmp 111), 4, "outright.go:410", #[⟨7, .data⟩, ⟨2, .chain⟩], none⟩, ⟨some 113, .call { callee := .value (.func 11), args := #[], argTypes := #[] }, 4, "outright.go:410", #[⟨8, .chain⟩, ⟨8, .guard⟩], some (8, true)⟩, ⟨some 114, .pick (.tmp 112) (.tmp 113) (.const (.bool false)), 4, "outright.go:410", #[⟨8, .data⟩, ⟨9, .data⟩], none⟩, ⟨some 2, .assign (.tmp 114), 4, "outright.go:410", #[⟨10, .data⟩, ⟨9, .chain⟩, ⟨0, .phase⟩, ⟨1, .phase⟩, ⟨2, .phase⟩, ⟨3, .phase⟩, ⟨4, .phase⟩, ⟨5, .phase⟩, ⟨6, .phase⟩, ⟨7, .phase⟩, ⟨8, .phase⟩, ⟨9, .phase⟩, ⟨10, .phase⟩], none⟩] false) .ret) .skip)) herest12 := by kernel_rfl
set_option maxRecDepth 1000000 in
theorem herest12_eq : herest12 = .seq (Code.region 14 #[⟨some 115, .move (.tmp 9), 39, "outright.go:412", #[], none⟩, ⟨some 116, .binOp .eql 39 (.tmp 115) (.const (.int .i64 11)) 39, 4, "outright.go:412", #[⟨0, .data⟩], none⟩, ⟨some 117, .move (.tmp 116), 4, "outright.go:412", #[⟨1, .data⟩], none⟩, ⟨some 118, .move (.tmp 7), 39, "outright.go:412", #[⟨2, .guard⟩], some (2, true)⟩, ⟨some 119, .binOp .eql 39 (.tmp 118) (.const (.int .i64 11)) 39, 4, "outright.go:412", #[⟨3, .data⟩, ⟨2, .guard⟩], some (2, true)⟩, ⟨some 120, .move (.tmp 119), 4, "outright.go:412", #[⟨4, .data⟩, ⟨2, .chain⟩, ⟨2, .guard⟩], some (2, true)⟩, ⟨some 121, .move (.tmp 7), 39, "outright.go:412", #[⟨5, .guard⟩], some (5, false)⟩, ⟨some 122, .binOp .eql 39 (.tmp 121) (.const (.int .i64 0)) 39, 4, "outright.go:412", #[⟨6, .data⟩, ⟨5, .guard⟩], some (5, false)⟩, ⟨some 123, .move (.tmp 122), 4, "outright.go:412", #[⟨7, .data⟩, ⟨5, .chain⟩, ⟨5, .guard⟩], some (5, false)⟩, ⟨some 124, .move (.tmp 6), 31, "outright.go:412", #[⟨8, .guard⟩], some (8, true)⟩, ⟨some 125, .call { callee := .builtin .len, args := #[.tmp 124], argTypes := #[31] }, 3, "outright.go:412", #[⟨9, .data⟩, ⟨8, .guard⟩], some (8, true)⟩, ⟨some 126, .binOp .gtr 3 (.tmp 125) (.const (.int .i64 4)) 3, 4, "outright.go:412", #[⟨10, .data⟩, ⟨8, .guard⟩], some (8, true)⟩, ⟨some 127, .pick (.tmp 123) (.tmp 126) (.const (.bool false)), 4, "outright.go:412", #[⟨8, .data⟩, ⟨11, .data⟩, ⟨5, .guard⟩], some (5, false)⟩, ⟨some 128, .pick (.tmp 120) (.const (.bool true)) (.tmp 127), 4, "outright.go:412", #[⟨5, .data⟩, ⟨12, .data⟩, ⟨2, .guard⟩], some (2, true)⟩, ⟨some 129, .pick (.tmp 117) (.tmp 128) (.const (.bool false)), 4, "outright.go:412", #[⟨2, .data⟩, ⟨13, .data⟩], none⟩, ⟨some 130, .move (.tmp 129), 4, "outright.go:412", #[⟨14, .data⟩, ⟨8, .chain⟩], none⟩, ⟨some 131, .call { callee := .value (.func 11), args := #[], argTypes := #[] }, 4, "outright.go:412", #[⟨15, .chain⟩, ⟨15, .guard⟩], some (15, true)⟩, ⟨some 132, .pick (.tmp 130) (.tmp 131) (.const (.bool false)), 4, "outright.go:412", #[⟨15, .data⟩, ⟨16, .data⟩], none⟩, ⟨some 2, .assign (.tmp 132), 4, "outright.go:412", #[⟨17, .data⟩, ⟨16, .chain⟩, ⟨0, .phase⟩, ⟨1, .phase⟩, ⟨2, .phase⟩, ⟨3, .phase⟩, ⟨4, .phase⟩, ⟨5, .phase⟩, ⟨6, .phase⟩, ⟨7, .phase⟩, ⟨8, .phase⟩, ⟨9, .phase⟩, ⟨10, .phase⟩, ⟨11, .phase⟩, ⟨12, .phase⟩, ⟨13, .phase⟩, ⟨14, .phase⟩, ⟨15, .phase⟩, ⟨16, .phase⟩, ⟨17, .phase⟩], none⟩] false) .ret := by kernel_rfl

def QHE (w0 : World) : Exit → Act → World → Prop := bodyPost Try.prog Try.f8 fun e w' => e = .returned (.bool true) ∧ Below w0.heap.size w0 w'
/-- The job whose ranges are single numbers. -/
def exOf (J : Jb) : Jb := { J with p2 := J.p1, u2 := J.u1, d2 := J.d1, x2 := J.x1, y2 := J.y1, le := mn (mn J.le J.t1) J.r1 }
theorem ex_full {J : Jb} (h : J.Full) : (exOf J).Full := by
  obtain ⟨p, t, r, u, d, x, y, le, wi, me, len, sh⟩ := h
  refine ⟨?_, t, r, ?_, ?_, ?_, ?_, ?_, wi, me, len, sh⟩ <;> simp only [exOf, mn] <;> omega
theorem ex_ex {J : Jb} (h : J.Full) : Ex (exOf J) ∧ ExT (exOf J) (exOf J).tg := by
  obtain ⟨p, t, r, u, d, x, y, le, wi, me, len, sh⟩ := h
  refine ⟨⟨rfl, rfl, rfl, rfl, me.1⟩, ⟨rfl, ?_, t.2.1, ?_, r.2.1⟩⟩ <;> simp only [exOf, Jb.tg, mn] <;> split <;> split <;> omega
theorem wear_nn {J : Jb} (h : J.Full) : 0 ≤ J.x1 ∧ 0 ≤ J.x2 ∧ 0 ≤ J.y1 ∧ 0 ≤ J.y2 := by
  have := h.x; have := h.y
  omega
/-- What Guided says, in short. -/
theorem guided_0 {J : Jb} (h : J.check = 0) : guidedI J = if guideI J = 5 then (0, 11) else (guideI J, 0) := by unfold guidedI; rw [if_pos h]
/-- The first condition of the law. -/
theorem heard_one {J : Jb} (h : J.check = 0) {sn : Nat} {ev : Int} (hf : FewS J sn ev) : ev = 0 → (sn : Int) ≤ 4 → (guidedI J).2 = 0 ∧ (guidedI J).1 ≤ sn := by
  intro e h4
  rcases hf with ⟨_, _, ⟨l, h12, hl, hfi⟩, _⟩ | ⟨e', _⟩
  · have hg := plan_guide (wear_nn (check_full h)) h12 (by omega) hfi
    rw [guided_0 h]
    have h5 : ¬ guideI J = 5 := by omega
    rw [if_neg h5]
    exact ⟨rfl, by simp only; omega⟩
  · omega
theorem heard_two {J : Jb} (h : J.Full) {sn : Nat} {ev : Int} (hf : FewS (exOf J) sn ev) : ((guidedI (exOf J)).2 = 0 ∧ ev = 0 ∧ (guidedI (exOf J)).1 = sn) ∨ ((guidedI (exOf J)).2 = 11 ∧ (ev = 11 ∨ (ev = 0 ∧ 4 < (sn : Int)))) := by
  have hx := ex_full h
  obtain ⟨e1, e2⟩ := ex_ex h
  rw [guided_0 hx.check]
  by_cases h5 : guideI (exOf J) = 5
  · rw [if_pos h5]
    refine .inr ⟨rfl, ?_⟩
    rcases hf with ⟨e, _, ⟨l, h12, hl, hfi⟩, _⟩ | ⟨e', _⟩
    · refine .inr ⟨e, ?_⟩
      by_cases h4 : l.length ≤ 4
      · have hg := plan_guide (wear_nn hx) h12 h4 hfi
        omega
      · omega
    · exact .inl e'
  · rw [if_neg h5]
    have hlt : guideI (exOf J) < 5 := by have := guide_top (exOf J); omega
    obtain ⟨l, h12, hl, hfi⟩ := exact_guide e1 e2 hlt
    refine .inl ⟨rfl, ?_⟩
    rcases hf with ⟨e, _, ⟨l', h12', hl', hfi'⟩, hmin⟩ | ⟨e', _, hno⟩
    · have h1 := hmin l h12 hfi
      have hg := plan_guide (wear_nn hx) h12' (by omega) hfi'
      exact ⟨e, by simp only; omega⟩
    · exact absurd hfi (hno l h12 (by omega))
set_option maxHeartbeats 4000000 in
set_option maxRecDepth 1000000 in
theorem hepart12 {w0 w : World} {g4 g5 : Nat} {sa : Option Addr} {sn sc : Nat} {ev gn ge : Int} {u0 u1 u2 u3 u10 u11 u12 u13 u14 u15 u16 u17 u18 u19 u20 u21 u22 u23 u24 u25 u26 u27 u28 u29 u30 u31 u32 u33 u34 u35 u36 u37 u38 u39 u40 u41 u42 u43 u44 u45 u46 u47 u48 u49 u50 u51 u52 u53 u54 u55 u56 u57 u58 u59 u60 u61 u62 u63 u64 u65 u66 u67 u68 u69 u70 u71 u72 u73 u74 u75 u76 u77 u78 u79 u80 u81 u82 u83 u84 u85 u86 u87 u88 u89 u90 u91 u92 u93 u94 u95 u96 u97 u98 u99 u100 u101 u102 u103 u104 u105 u106 u107 u108 u109 u110 u111 u112 u113 u114 u115 u116 u117 u118 u119 u120 u121 u122 u123 u124 u125 u126 u127 u128 u129 u130 u131 u132 : Value} (htun : TunOK) (hb0 : Below w0.heap.size w0 w) (hans : ge = 11 ∧ (ev = 11 ∨ (ev = 0 ∧ 4 < (sn : Int)))) : Code.wp Try.prog herest12 (QHE w0) ⟨#[u0, u1, u2, u3, (.pointer (some ⟨g4, 0, none⟩)), (.pointer (some ⟨g5, 0, none⟩)), (.slice sa sn sc), (.int .i64 ev), (.int .i64 gn), (.int .i64 ge), u10, u11, u12, u13, u14, u15, u16, u17, u18, u19, u20, u21, u22, u23, u24, u25, u26, u27, u28, u29, u30, u31, u32, u33, u34, u35, u36, u37, u38, u39, u40, u41, u42, u43, u44, u45, u46, u47, u48, u49, u50, u51, u52, u53, u54, u55, u56, u57, u58, u59, u60, u61, u62, u63, u64, u65, u66, u67, u68, u69, u70, u71, u72, u73, u74, u75, u76, u77, u78, u79, u80, u81, u82, u83, u84, u85, u86, u87, u88, u89, u90, u91, u92, u93, u94, u95, u96, u97, u98, u99, u100, u101, u102, u103, u104, u105, u106, u107, u108, u109, u110, u111, u112, u113, u114, u115, u116, u117, u118, u119, u120, u121, u122, u123, u124, u125, u126, u127, u128, u129, u130, u131, u132], []⟩ w := by
  rw [herest12_eq]
  have HB0 := hidMk hb0
  have HT := hidMk htun
  clear hb0 htun
  rcases hans with ⟨rfl, h⟩
  rcases h with rfl | ⟨rfl, h4⟩
  · unfold QHE
    go_wp2_with (go_at_call 11; refine (HT.out _).mono ?_; rintro e w2 ⟨rfl, hb⟩)
    go_ret
    exact ⟨rfl, HB0.out.trans (hb.mono HB0.out.size)⟩
  · unfold QHE
    go_wp2_with (go_at_call 11; refine (HT.out _).mono ?_; rintro e w2 ⟨rfl, hb⟩)
    go_ret
    exact ⟨rfl, HB0.out.trans (hb.mono HB0.out.size)⟩
set_option maxHeartbeats 4000000 in
set_option maxRecDepth 1000000 in
theorem hepart11 {w0 w : World} {g4 g5 : Nat} {sa : Option Addr} {sn sc : Nat} {ev gn ge : Int} {u0 u1 u2 u3 u10 u11 u12 u13 u14 u15 u16 u17 u18 u19 u20 u21 u22 u23 u24 u25 u26 u27 u28 u29 u30 u31 u32 u33 u34 u35 u36 u37 u38 u39 u40 u41 u42 u43 u44 u45 u46 u47 u48 u49 u50 u51 u52 u53 u54 u55 u56 u57 u58 u59 u60 u61 u62 u63 u64 u65 u66 u67 u68 u69 u70 u71 u72 u73 u74 u75 u76 u77 u78 u79 u80 u81 u82 u83 u84 u85 u86 u87 u88 u89 u90 u91 u92 u93 u94 u95 u96 u97 u98 u99 u100 u101 u102 u103 u104 u105 u106 u107 u108 u109 u110 u111 u112 u113 u114 u115 u116 u117 u118 u119 u120 u121 u122 u123 u124 u125 u126 u127 u128 u129 u130 u131 u132 : Value} (htun : TunOK) (hb0 : Below w0.heap.size w0 w) (hans : (ge = 0 ∧ ev = 0 ∧ gn = (sn : Int)) ∨ (ge = 11 ∧ (ev = 11 ∨ (ev = 0 ∧ 4 < (sn : Int))))) : Code.wp Try.prog herest11 (QHE w0) ⟨#[u0, u1, u2, u3, (.pointer (some ⟨g4, 0, none⟩)), (.pointer (some ⟨g5, 0, none⟩)), (.slice sa sn sc), (.int .i64 ev), (.int .i64 gn), (.int .i64 ge), u10, u11, u12, u13, u14, u15, u16, u17, u18, u19, u20, u21, u22, u23, u24, u25, u26, u27, u28, u29, u30, u31, u32, u33, u34, u35, u36, u37, u38, u39, u40, u41, u42, u43, u44, u45, u46, u47, u48, u49, u50, u51, u52, u53, u54, u55, u56, u57, u58, u59, u60, u61, u62, u63, u64, u65, u66, u67, u68, u69, u70, u71, u72, u73, u74, u75, u76, u77, u78, u79, u80, u81, u82, u83, u84, u85, u86, u87, u88, u89, u90, u91, u92, u93, u94, u95, u96, u97, u98, u99, u100, u101, u102, u103, u104, u105, u106, u107, u108, u109, u110, u111, u112, u113, u114, u115, u116, u117, u118, u119, u120, u121, u122, u123, u124, u125, u126, u127, u128, u129, u130, u131, u132], []⟩ w := by
  rw [herest11_eq]
  rcases hans with ⟨rfl, rfl, rfl⟩ | ⟨rfl, h⟩
  · have HB0 := hidMk hb0
    have HT := hidMk htun
    clear hb0 htun
    unfold QHE
    go_wp2_with (go_at_call 11; refine (HT.out _).mono ?_; rintro e w2 ⟨rfl, hb⟩)
    go_ret
    exact ⟨rfl, HB0.out.trans (hb.mono HB0.out.size)⟩
  · have H := hidMk h
    clear h
    go_wp2_with fail
    exact hepart12 htun hb0 ⟨rfl, H.out⟩
set_option maxHeartbeats 4000000 in
set_option maxRecDepth 1000000 in
theorem hepart10 {w0 w : World} {g4 g5 : Nat} {J : Jb} {a oa : Option Addr} {n c oc : Nat} {sa : Option Addr} {sn sc : Nat} {ev : Int} {u0 u1 u2 u3 u8 u9 u10 u11 u12 u13 u14 u15 u16 u17 u18 u19 u20 u21 u22 u23 u24 u25 u26 u27 u28 u29 u30 u31 u32 u33 u34 u35 u36 u37 u38 u39 u40 u41 u42 u43 u44 u45 u46 u47 u48 u49 u50 u51 u52 u53 u54 u55 u56 u57 u58 u59 u60 u61 u62 u63 u64 u65 u66 u67 u68 u69 u70 u71 u72 u73 u74 u75 u76 u77 u78 u79 u80 u81 u82 u83 u84 u85 u86 u87 u88 u89 u90 u91 u92 u93 u94 u95 u96 u97 u98 u99 u100 u101 u102 u103 u104 u105 u106 u107 u108 u109 u110 u111 u112 u113 u114 u115 u116 u117 u118 u119 u120 u121 u122 u123 u124 u125 u126 u127 u128 u129 u130 u131 u132 : Value} (htun : TunOK) (hshort : ShortOK) (hb0 : Below w0.heap.size w0 w) (h4 : Bk w g4 30 (jobC J (.slice a n c))) (hrg : Rg w w.heap.size a J.sh) (hn : n = J.sh.length) (hck : J.check = 0) (h5 : Bk w g5 30 (jobC (exOf J) (.slice oa n oc))) (hro : Rg w w.heap.size oa J.sh) (hf : FewS (exOf J) sn ev) : Code.wp Try.prog herest10 (QHE w0) ⟨#[u0, u1, u2, u3, (.pointer (some ⟨g4, 0, none⟩)), (.pointer (some ⟨g5, 0, none⟩)), (.slice sa sn sc), (.int .i64 ev), u8, u9, u10, u11, u12, u13, u14, u15, u16, u17, u18, u19, u20, u21, u22, u23, u24, u25, u26, u27, u28, u29, u30, u31, u32, u33, u34, u35, u36, u37, u38, u39, u40, u41, u42, u43, u44, u45, u46, u47, u48, u49, u50, u51, u52, u53, u54, u55, u56, u57, u58, u59, u60, u61, u62, u63, u64, u65, u66, u67, u68, u69, u70, u71, u72, u73, u74, u75, u76, u77, u78, u79, u80, u81, u82, u83, u84, u85, u86, u87, u88, u89, u90, u91, u92, u93, u94, u95, u96, u97, u98, u99, u100, u101, u102, u103, u104, u105, u106, u107, u108, u109, u110, u111, u112, u113, u114, u115, u116, u117, u118, u119, u120, u121, u122, u123, u124, u125, u126, u127, u128, u129, u130, u131, u132], []⟩ w := by
  rw [herest10_eq]
  have HB0 := hidMk hb0
  have H4 := hidMk h4
  have HR := hidMk hrg
  have HN := hidMk hn
  have HC := hidMk hck
  have HT := hidMk htun
  have HS := hidMk hshort
  have H5 := hidMk h5
  have HO := hidMk hro
  clear h5 hro hb0 h4 hrg hn hck htun hshort
  have hnm : n ≤ 9223372036854775807 := by have h4 := (check_full HC.out).len; have := HN.out; omega
  have HF := hidMk hf
  clear hf
  go_wp2_with (refine wpList_load_row rfl 30 _ rfl g5 rfl _ (jobC (exOf J) (.slice oa n oc)) _ _ H5.out Try.underlying30 rfl szJob ?_)
  refine (guided_any (exOf J) oa n oc _ HN.out hnm HO.out).mono ?_
  rintro e w2 ⟨rfl, hb2⟩
  have hans := heard_two (check_full HC.out) HF.out
  have HB2 := hidMk (HB0.out.trans (hb2.mono HB0.out.size))
  have HANS := hidMk hans
  clear hb2 hans
  go_wp2_with fail
  exact hepart11 HT.out HB2.out HANS.out
set_option maxHeartbeats 4000000 in
set_option maxRecDepth 1000000 in
theorem hepart9 {w0 w : World} {g4 g5 : Nat} {J : Jb} {a oa : Option Addr} {n c oc : Nat} {u0 u1 u2 u3 u6 u7 u8 u9 u10 u11 u12 u13 u14 u15 u16 u17 u18 u19 u20 u21 u22 u23 u24 u25 u26 u27 u28 u29 u30 u31 u32 u33 u34 u35 u36 u37 u38 u39 u40 u41 u42 u43 u44 u45 u46 u47 u48 u49 u50 u51 u52 u53 u54 u55 u56 u57 u58 u59 u60 u61 u62 u63 u64 u65 u66 u67 u68 u69 u70 u71 u72 u73 u74 u75 u76 u77 u78 u79 u80 u81 u82 u83 u84 u85 u86 u87 u88 u89 u90 u91 u92 u93 u94 u95 u96 u97 u98 u99 u100 u101 u102 u103 u104 u105 u106 u107 u108 u109 u110 u111 u112 u113 u114 u115 u116 u117 u118 u119 u120 u121 u122 u123 u124 u125 u126 u127 u128 u129 u130 u131 u132 : Value} (htun : TunOK) (hshort : ShortOK) (hb0 : Below w0.heap.size w0 w) (h4 : Bk w g4 30 (jobC J (.slice a n c))) (hrg : Rg w w.heap.size a J.sh) (hn : n = J.sh.length) (hck : J.check = 0) (h5 : Bk w g5 30 (jobC (exOf J) (.slice oa n oc))) (hro : Rg w w.heap.size oa J.sh) : Code.wp Try.prog herest9 (QHE w0) ⟨#[u0, u1, u2, u3, (.pointer (some ⟨g4, 0, none⟩)), (.pointer (some ⟨g5, 0, none⟩)), u6, u7, u8, u9, u10, u11, u12, u13, u14, u15, u16, u17, u18, u19, u20, u21, u22, u23, u24, u25, u26, u27, u28, u29, u30, u31, u32, u33, u34, u35, u36, u37, u38, u39, u40, u41, u42, u43, u44, u45, u46, u47, u48, u49, u50, u51, u52, u53, u54, u55, u56, u57, u58, u59, u60, u61, u62, u63, u64, u65, u66, u67, u68, u69, u70, u71, u72, u73, u74, u75, u76, u77, u78, u79, u80, u81, u82, u83, u84, u85, u86, u87, u88, u89, u90, u91, u92, u93, u94, u95, u96, u97, u98, u99, u100, u101, u102, u103, u104, u105, u106, u107, u108, u109, u110, u111, u112, u113, u114, u115, u116, u117, u118, u119, u120, u121, u122, u123, u124, u125, u126, u127, u128, u129, u130, u131, u132], []⟩ w := by
  rw [herest9_eq]
  have HB0 := hidMk hb0
  have H4 := hidMk h4
  have HR := hidMk hrg
  have HN := hidMk hn
  have HC := hidMk hck
  have HT := hidMk htun
  have HS := hidMk hshort
  have H5 := hidMk h5
  have HO := hidMk hro
  clear h5 hro hb0 h4 hrg hn hck htun hshort
  have hnm : n ≤ 9223372036854775807 := by have h4 := (check_full HC.out).len; have := HN.out; omega
  go_wp2_with (refine wpList_load_row rfl 30 _ rfl g5 rfl _ (jobC (exOf J) (.slice oa n oc)) _ _ H5.out Try.underlying30 rfl szJob ?_)
  refine (HS.out (exOf J) oa n oc _ (ex_full (check_full HC.out)).check HN.out hnm HO.out).mono ?_
  rintro e w2 hq
  obtain ⟨⟨sa, sn, sc, ev, rfl, hf⟩, hb2⟩ := few_of hq
  have HF := hidMk hf
  have HB2 := hidMk (HB0.out.trans (hb2.mono HB0.out.size))
  have H4' := hidMk (H4.out.below hb2 H4.out.lt)
  have H5' := hidMk (H5.out.below hb2 H5.out.lt)
  have HR' := hidMk (HR.out.up hb2)
  have HO' := hidMk (HO.out.up hb2)
  clear hq hf hb2
  go_wp2_with fail
  exact hepart10 HT.out HS.out HB2.out H4'.out HR'.out HN.out HC.out H5'.out HO'.out HF.out
set_option maxHeartbeats 4000000 in
set_option maxRecDepth 1000000 in
theorem hepart8 {w0 w : World} {g4 g5 : Nat} {J : Jb} {a oa : Option Addr} {n c oc : Nat} {sa : Option Addr} {sn sc : Nat} {ev gn ge : Int} {u0 u1 u2 u3 u10 u11 u12 u13 u14 u15 u16 u17 u18 u19 u20 u21 u22 u23 u24 u25 u26 u27 u28 u29 u30 u31 u32 u33 u34 u35 u36 u37 u38 u39 u40 u41 u42 u43 u44 u45 u46 u47 u48 u49 u50 u51 u52 u53 u54 u55 u56 u57 u58 u59 u60 u61 u62 u63 u64 u65 u66 u67 u68 u69 u70 u71 u72 u73 u74 u75 u76 u77 u78 u79 u80 u81 u82 u83 u84 u85 u86 u87 u88 u89 u90 u91 u92 u93 u94 u95 u96 u97 u98 u99 u100 u101 u102 u103 u104 u105 u106 u107 u108 u109 u110 u111 u112 u113 u114 u115 u116 u117 u118 u119 u120 u121 u122 u123 u124 u125 u126 u127 u128 u129 u130 u131 u132 : Value} (htun : TunOK) (hshort : ShortOK) (hb0 : Below w0.heap.size w0 w) (h4 : Bk w g4 30 (jobC J (.slice a n c))) (hrg : Rg w w.heap.size a J.sh) (hn : n = J.sh.length) (hck : J.check = 0) (h5 : Bk w g5 30 (jobC (exOf J) (.slice oa n oc))) (hro : Rg w w.heap.size oa J.sh) (hone : ev = 0 → (sn : Int) ≤ 4 → ge = 0 ∧ gn ≤ sn) : Code.wp Try.prog herest8 (QHE w0) ⟨#[u0, u1, u2, u3, (.pointer (some ⟨g4, 0, none⟩)), (.pointer (some ⟨g5, 0, none⟩)), (.slice sa sn sc), (.int .i64 ev), (.int .i64 gn), (.int .i64 ge), u10, u11, u12, u13, u14, u15, u16, u17, u18, u19, u20, u21, u22, u23, u24, u25, u26, u27, u28, u29, u30, u31, u32, u33, u34, u35, u36, u37, u38, u39, u40, u41, u42, u43, u44, u45, u46, u47, u48, u49, u50, u51, u52, u53, u54, u55, u56, u57, u58, u59, u60, u61, u62, u63, u64, u65, u66, u67, u68, u69, u70, u71, u72, u73, u74, u75, u76, u77, u78, u79, u80, u81, u82, u83, u84, u85, u86, u87, u88, u89, u90, u91, u92, u93, u94, u95, u96, u97, u98, u99, u100, u101, u102, u103, u104, u105, u106, u107, u108, u109, u110, u111, u112, u113, u114, u115, u116, u117, u118, u119, u120, u121, u122, u123, u124, u125, u126, u127, u128, u129, u130, u131, u132], []⟩ w := by
  rw [herest8_eq]
  have HB0 := hidMk hb0
  have H4 := hidMk h4
  have HR := hidMk hrg
  have HN := hidMk hn
  have HC := hidMk hck
  have HT := hidMk htun
  have HS := hidMk hshort
  have H5 := hidMk h5
  have HO := hidMk hro
  clear h5 hro hb0 h4 hrg hn hck htun hshort
  by_cases e0 : ev = 0
  · have eb : (ev == 0) = true := by simp [e0]
    by_cases h4 : (sn : Int) ≤ 4
    · obtain ⟨g1, g2⟩ := hone e0 h4
      have gb : (ge != 0) = false := by simp [g1]
      have hgt : ¬ (sn : Int) < gn := by omega
      clear hone e0 g1 g2
      go_wp2_with fail
      exact hepart9 HT.out HS.out HB0.out H4.out HR.out HN.out HC.out H5.out HO.out
    · clear hone e0
      go_wp2_with fail
      exact hepart9 HT.out HS.out HB0.out H4.out HR.out HN.out HC.out H5.out HO.out
  · have eb : (ev == 0) = false := by simp [e0]
    clear hone e0
    go_wp2_with fail
    exact hepart9 HT.out HS.out HB0.out H4.out HR.out HN.out HC.out H5.out HO.out
set_option maxHeartbeats 4000000 in
set_option maxRecDepth 1000000 in
theorem hepart7 {w0 w : World} {g4 g5 : Nat} {J : Jb} {a oa : Option Addr} {n c oc : Nat} {sa : Option Addr} {sn sc : Nat} {ev : Int} {u0 u1 u2 u3 u8 u9 u10 u11 u12 u13 u14 u15 u16 u17 u18 u19 u20 u21 u22 u23 u24 u25 u26 u27 u28 u29 u30 u31 u32 u33 u34 u35 u36 u37 u38 u39 u40 u41 u42 u43 u44 u45 u46 u47 u48 u49 u50 u51 u52 u53 u54 u55 u56 u57 u58 u59 u60 u61 u62 u63 u64 u65 u66 u67 u68 u69 u70 u71 u72 u73 u74 u75 u76 u77 u78 u79 u80 u81 u82 u83 u84 u85 u86 u87 u88 u89 u90 u91 u92 u93 u94 u95 u96 u97 u98 u99 u100 u101 u102 u103 u104 u105 u106 u107 u108 u109 u110 u111 u112 u113 u114 u115 u116 u117 u118 u119 u120 u121 u122 u123 u124 u125 u126 u127 u128 u129 u130 u131 u132 : Value} (htun : TunOK) (hshort : ShortOK) (hb0 : Below w0.heap.size w0 w) (h4 : Bk w g4 30 (jobC J (.slice a n c))) (hrg : Rg w w.heap.size a J.sh) (hn : n = J.sh.length) (hck : J.check = 0) (h5 : Bk w g5 30 (jobC (exOf J) (.slice oa n oc))) (hro : Rg w w.heap.size oa J.sh) (hf : FewS J sn ev) : Code.wp Try.prog herest7 (QHE w0) ⟨#[u0, u1, u2, u3, (.pointer (some ⟨g4, 0, none⟩)), (.pointer (some ⟨g5, 0, none⟩)), (.slice sa sn sc), (.int .i64 ev), u8, u9, u10, u11, u12, u13, u14, u15, u16, u17, u18, u19, u20, u21, u22, u23, u24, u25, u26, u27, u28, u29, u30, u31, u32, u33, u34, u35, u36, u37, u38, u39, u40, u41, u42, u43, u44, u45, u46, u47, u48, u49, u50, u51, u52, u53, u54, u55, u56, u57, u58, u59, u60, u61, u62, u63, u64, u65, u66, u67, u68, u69, u70, u71, u72, u73, u74, u75, u76, u77, u78, u79, u80, u81, u82, u83, u84, u85, u86, u87, u88, u89, u90, u91, u92, u93, u94, u95, u96, u97, u98, u99, u100, u101, u102, u103, u104, u105, u106, u107, u108, u109, u110, u111, u112, u113, u114, u115, u116, u117, u118, u119, u120, u121, u122, u123, u124, u125, u126, u127, u128, u129, u130, u131, u132], []⟩ w := by
  rw [herest7_eq]
  have HB0 := hidMk hb0
  have H4 := hidMk h4
  have HR := hidMk hrg
  have HN := hidMk hn
  have HC := hidMk hck
  have HT := hidMk htun
  have HS := hidMk hshort
  have H5 := hidMk h5
  have HO := hidMk hro
  clear h5 hro hb0 h4 hrg hn hck htun hshort
  have hnm : n ≤ 9223372036854775807 := by have h4 := (check_full HC.out).len; have := HN.out; omega
  have HF := hidMk hf
  clear hf
  go_wp2_with (refine wpList_load_row rfl 30 _ rfl g4 rfl _ (jobC J (.slice a n c)) _ _ H4.out Try.underlying30 rfl szJob ?_)
  refine (guided_any J a n c _ HN.out hnm HR.out).mono ?_
  rintro e w2 ⟨rfl, hb2⟩
  have hone := heard_one HC.out HF.out
  have HB2 := hidMk (HB0.out.trans (hb2.mono HB0.out.size))
  have H4' := hidMk (H4.out.below hb2 H4.out.lt)
  have H5' := hidMk (H5.out.below hb2 H5.out.lt)
  have HR' := hidMk (HR.out.up hb2)
  have HO' := hidMk (HO.out.up hb2)
  have HONE := hidMk hone
  clear hb2 hone
  go_wp2_with fail
  exact hepart8 HT.out HS.out HB2.out H4'.out HR'.out HN.out HC.out H5'.out HO'.out HONE.out
set_option maxHeartbeats 4000000 in
set_option maxRecDepth 1000000 in
theorem hepart6 {w0 w : World} {g4 g5 : Nat} {J : Jb} {a oa : Option Addr} {n c oc : Nat} {u0 u1 u2 u3 u6 u7 u8 u9 u10 u11 u12 u13 u14 u15 u16 u17 u18 u19 u20 u21 u22 u23 u24 u25 u26 u27 u28 u29 u30 u31 u32 u33 u34 u35 u36 u37 u38 u39 u40 u41 u42 u43 u44 u45 u46 u47 u48 u49 u50 u51 u52 u53 u54 u55 u56 u57 u58 u59 u60 u61 u62 u63 u64 u65 u66 u67 u68 u69 u70 u71 u72 u73 u74 u75 u76 u77 u78 u79 u80 u81 u82 u83 u84 u85 u86 u87 u88 u89 u90 u91 u92 u93 u94 u95 u96 u97 u98 u99 u100 u101 u102 u103 u104 u105 u106 u107 u108 u109 u110 u111 u112 u113 u114 u115 u116 u117 u118 u119 u120 u121 u122 u123 u124 u125 u126 u127 u128 u129 u130 u131 u132 : Value} (htun : TunOK) (hshort : ShortOK) (hb0 : Below w0.heap.size w0 w) (h4 : Bk w g4 30 (jobC J (.slice a n c))) (hrg : Rg w w.heap.size a J.sh) (hn : n = J.sh.length) (hck : J.check = 0) (h5 : Bk w g5 30 (jobC (exOf J) (.slice oa n oc))) (hro : Rg w w.heap.size oa J.sh) : Code.wp Try.prog herest6 (QHE w0) ⟨#[u0, u1, u2, u3, (.pointer (some ⟨g4, 0, none⟩)), (.pointer (some ⟨g5, 0, none⟩)), u6, u7, u8, u9, u10, u11, u12, u13, u14, u15, u16, u17, u18, u19, u20, u21, u22, u23, u24, u25, u26, u27, u28, u29, u30, u31, u32, u33, u34, u35, u36, u37, u38, u39, u40, u41, u42, u43, u44, u45, u46, u47, u48, u49, u50, u51, u52, u53, u54, u55, u56, u57, u58, u59, u60, u61, u62, u63, u64, u65, u66, u67, u68, u69, u70, u71, u72, u73, u74, u75, u76, u77, u78, u79, u80, u81, u82, u83, u84, u85, u86, u87, u88, u89, u90, u91, u92, u93, u94, u95, u96, u97, u98, u99, u100, u101, u102, u103, u104, u105, u106, u107, u108, u109, u110, u111, u112, u113, u114, u115, u116, u117, u118, u119, u120, u121, u122, u123, u124, u125, u126, u127, u128, u129, u130, u131, u132], []⟩ w := by
  rw [herest6_eq]
  have HB0 := hidMk hb0
  have H4 := hidMk h4
  have HR := hidMk hrg
  have HN := hidMk hn
  have HC := hidMk hck
  have HT := hidMk htun
  have HS := hidMk hshort
  have H5 := hidMk h5
  have HO := hidMk hro
  clear h5 hro hb0 h4 hrg hn hck htun hshort
  have hnm : n ≤ 9223372036854775807 := by have h4 := (check_full HC.out).len; have := HN.out; omega
  go_wp2_with (refine wpList_load_row rfl 30 _ rfl g4 rfl _ (jobC J (.slice a n c)) _ _ H4.out Try.underlying30 rfl szJob ?_)
  refine (HS.out J a n c _ HC.out HN.out hnm HR.out).mono ?_
  rintro e w2 hq
  obtain ⟨⟨sa, sn, sc, ev, rfl, hf⟩, hb2⟩ := few_of hq
  have HF := hidMk hf
  have HB2 := hidMk (HB0.out.trans (hb2.mono HB0.out.size))
  have H4' := hidMk (H4.out.below hb2 H4.out.lt)
  have H5' := hidMk (H5.out.below hb2 H5.out.lt)
  have HR' := hidMk (HR.out.up hb2)
  have HO' := hidMk (HO.out.up hb2)
  clear hq hf hb2
  go_wp2_with fail
  exact hepart7 HT.out HS.out HB2.out H4'.out HR'.out HN.out HC.out H5'.out HO'.out HF.out
end Go.Proofs.Ytbebofmpimfbgaa
