/- Part 13 of the proof: BeA. -/
import Derived.Deep.WholeRow
import Derived.Test.YtbebofmpimfbgaaB11
import Derived.Test.YtbebofmpimfbgaaB12
import Derived.Test.YtbebofmpimfbgaaB07
/- The law ReedBetter: its end. -/
namespace Go.Proofs.Ytbebofmpimfbgaa
set_option linter.all false
open Go.RowKit
set_option maxRecDepth 1000000 in
def beo : Array Oper := #[⟨some 218, .move (.tmp 9), 39, "outright.go:391", #[], none⟩, ⟨some 219, .binOp .neq 39 (.tmp 218) (.const (.int .i64 0)) 39, 4, "outright.go:391", #[⟨0, .data⟩], none⟩, ⟨some 220, .move (.tmp 219), 4, "outright.go:391", #[⟨1, .data⟩], none⟩, ⟨some 221, .move (.tmp 11), 39, "outright.go:391", #[⟨2, .guard⟩], some (2, false)⟩, ⟨some 222, .binOp .eql 39 (.tmp 221) (.const (.int .i64 0)) 39, 4, "outright.go:391", #[⟨3, .data⟩, ⟨2, .guard⟩], some (2, false)⟩, ⟨some 223, .move (.tmp 222), 4, "outright.go:391", #[⟨4, .data⟩, ⟨2, .chain⟩, ⟨2, .guard⟩], some (2, false)⟩, ⟨some 224, .move (.tmp 17), 31, "outright.go:391", #[⟨5, .guard⟩], some (5, true)⟩, ⟨some 225, .call { callee := .builtin .len, args := #[.tmp 224], argTypes := #[31] }, 3, "outright.go:391", #[⟨6, .data⟩, ⟨5, .guard⟩], some (5, true)⟩, ⟨some 226, .move (.tmp 16), 31, "outright.go:391", #[⟨5, .guard⟩], some (5, true)⟩, ⟨some 227, .call { callee := .builtin .len, args := #[.tmp 226], argTypes := #[31] }, 3, "outright.go:391", #[⟨8, .data⟩, ⟨5, .guard⟩], some (5, true)⟩, ⟨some 228, .binOp .leq 3 (.tmp 225) (.tmp 227) 3, 4, "outright.go:391", #[⟨7, .data⟩, ⟨9, .data⟩, ⟨5, .guard⟩], some (5, true)⟩, ⟨some 229, .pick (.tmp 223) (.tmp 228) (.const (.bool false)), 4, "outright.go:391", #[⟨5, .data⟩, ⟨10, .data⟩, ⟨2, .guard⟩], some (2, false)⟩, ⟨some 230, .pick (.tmp 220) (.const (.bool true)) (.tmp 229), 4, "outright.go:391", #[⟨2, .data⟩, ⟨11, .data⟩], none⟩, ⟨some 231, .move (.tmp 230), 4, "outright.go:391", #[⟨12, .data⟩, ⟨5, .chain⟩], none⟩, ⟨some 232, .move (.tmp 13), 39, "outright.go:391", #[⟨13, .guard⟩], some (13, true)⟩, ⟨some 233, .binOp .neq 39 (.tmp 232) (.const (.int .i64 0)) 39, 4, "outright.go:391", #[⟨14, .data⟩, ⟨13, .guard⟩], some (13, true)⟩, ⟨some 234, .move (.tmp 233), 4, "outright.go:391", #[⟨15, .data⟩, ⟨13, .chain⟩, ⟨13, .guard⟩], some (13, true)⟩, ⟨some 235, .move (.tmp 15), 39, "outright.go:391", #[⟨16, .guard⟩], some (16, false)⟩, ⟨some 236, .binOp .eql 39 (.tmp 235) (.const (.int .i64 0)) 39, 4, "outright.go:391", #[⟨17, .data⟩, ⟨16, .guard⟩], some (16, false)⟩, ⟨some 237, .move (.tmp 236), 4, "outright.go:391", #[⟨18, .data⟩, ⟨16, .chain⟩, ⟨16, .guard⟩], some (16, false)⟩, ⟨some 238, .move (.tmp 19), 3, "outright.go:391", #[⟨19, .guard⟩], some (19, true)⟩, ⟨some 239, .move (.tmp 18), 3, "outright.go:391", #[⟨19, .guard⟩], some (19, true)⟩, ⟨some 240, .binOp .leq 3 (.tmp 238) (.tmp 239) 3, 4, "outright.go:391", #[⟨20, .data⟩, ⟨21, .data⟩, ⟨19, .guard⟩], some (19, true)⟩, ⟨some 241, .pick (.tmp 237) (.tmp 240) (.const (.bool false)), 4, "outright.go:391", #[⟨19, .data⟩, ⟨22, .data⟩, ⟨16, .guard⟩], some (16, false)⟩, ⟨some 242, .pick (.tmp 234) (.const (.bool true)) (.tmp 241), 4, "outright.go:391", #[⟨16, .data⟩, ⟨23, .data⟩, ⟨13, .guard⟩], some (13, true)⟩, ⟨some 243, .pick (.tmp 231) (.tmp 242) (.const (.bool false)), 4, "outright.go:391", #[⟨13, .data⟩, ⟨24, .data⟩], none⟩, ⟨some 244, .move (.tmp 243), 4, "outright.go:391", #[⟨25, .data⟩, ⟨19, .chain⟩], none⟩, ⟨some 245, .move (.tmp 11), 39, "outright.go:391", #[⟨26, .guard⟩], some (26, true)⟩, ⟨some 246, .binOp .eql 39 (.tmp 245) (.const (.int .i64 0)) 39, 4, "outright.go:391", #[⟨27, .data⟩, ⟨26, .guard⟩], some (26, true)⟩, ⟨some 247, .move (.tmp 246), 4, "outright.go:391", #[⟨28, .data⟩, ⟨26, .chain⟩, ⟨26, .guard⟩], some (26, true)⟩, ⟨some 248, .move (.tmp 11), 39, "outright.go:391", #[⟨29, .guard⟩], some (29, false)⟩, ⟨some 249, .binOp .eql 39 (.tmp 248) (.const (.int .i64 11)) 39, 4, "outright.go:391", #[⟨30, .data⟩, ⟨29, .guard⟩], some (29, false)⟩, ⟨some 250, .pick (.tmp 247) (.const (.bool true)) (.tmp 249), 4, "outright.go:391", #[⟨29, .data⟩, ⟨31, .data⟩, ⟨26, .guard⟩], some (26, true)⟩, ⟨some 251, .pick (.tmp 244) (.tmp 250) (.const (.bool false)), 4, "outright.go:391", #[⟨26, .data⟩, ⟨32, .data⟩], none⟩, ⟨some 252, .move (.tmp 251), 4, "outright.go:391", #[⟨33, .data⟩, ⟨29, .chain⟩], none⟩, ⟨some 253, .move (.tmp 15), 39, "outright.go:391", #[⟨34, .guard⟩], some (34, true)⟩, ⟨some 254, .binOp .eql 39 (.tmp 253) (.const (.int .i64 0)) 39, 4, "outright.go:391", #[⟨35, .data⟩, ⟨34, .guard⟩], some (34, true)⟩, ⟨some 255, .move (.tmp 254), 4, "outright.go:391", #[⟨36, .data⟩, ⟨34, .chain⟩, ⟨34, .guard⟩], some (34, true)⟩, ⟨some 256, .move (.tmp 15), 39, "outright.go:391", #[⟨37, .guard⟩], some (37, false)⟩, ⟨some 257, .binOp .eql 39 (.tmp 256) (.const (.int .i64 11)) 39, 4, "outright.go:391", #[⟨38, .data⟩, ⟨37, .guard⟩], some (37, false)⟩, ⟨some 258, .pick (.tmp 255) (.const (.bool true)) (.tmp 257), 4, "outright.go:391", #[⟨37, .data⟩, ⟨39, .data⟩, ⟨34, .guard⟩], some (34, true)⟩, ⟨some 259, .pick (.tmp 252) (.tmp 258) (.const (.bool false)), 4, "outright.go:391", #[⟨34, .data⟩, ⟨40, .data⟩], none⟩, ⟨some 260, .move (.tmp 259), 4, "outright.go:391", #[⟨41, .data⟩, ⟨37, .chain⟩], none⟩, ⟨some 261, .call { callee := .value (.func 11), args := #[], argTypes := #[] }, 4, "outright.go:391", #[⟨42, .chain⟩, ⟨42, .guard⟩], some (42, true)⟩, ⟨some 262, .pick (.tmp 260) (.tmp 261) (.const (.bool false)), 4, "outright.go:391", #[⟨42, .data⟩, ⟨43, .data⟩], none⟩, ⟨some 2, .assign (.tmp 262), 4, "outright.go:391", #[⟨44, .data⟩, ⟨43, .chain⟩, ⟨0, .phase⟩, ⟨1, .phase⟩, ⟨2, .phase⟩, ⟨3, .phase⟩, ⟨4, .phase⟩, ⟨5, .phase⟩, ⟨6, .phase⟩, ⟨7, .phase⟩, ⟨8, .phase⟩, ⟨9, .phase⟩, ⟨10, .phase⟩, ⟨11, .phase⟩, ⟨12, .phase⟩, ⟨13, .phase⟩, ⟨14, .phase⟩, ⟨15, .phase⟩, ⟨16, .phase⟩, ⟨17, .phase⟩, ⟨18, .phase⟩, ⟨19, .phase⟩, ⟨20, .phase⟩, ⟨21, .phase⟩, ⟨22, .phase⟩, ⟨23, .phase⟩, ⟨24, .phase⟩, ⟨25, .phase⟩, ⟨26, .phase⟩, ⟨27, .phase⟩, ⟨28, .phase⟩, ⟨29, .phase⟩, ⟨30, .phase⟩, ⟨31, .phase⟩, ⟨32, .phase⟩, ⟨33, .phase⟩, ⟨34, .phase⟩, ⟨35, .phase⟩, ⟨36, .phase⟩, ⟨37, .phase⟩, ⟨38, .phase⟩, ⟨39, .phase⟩, ⟨40, .phase⟩, ⟨41, .phase⟩, ⟨42, .phase⟩, ⟨43, .phase⟩, ⟨44, .phase⟩], none⟩]
noncomputable def bebody : Code := Try.f7.body.getD .skip
noncomputable def berest1 : Code := sndB bebody
noncomputable def berest2 : Code := sndB berest1
noncomputable def berest3 : Code := sndB berest2
noncomputable def berest4 : Code := sndB berest3
noncomputable def berest5 : Code := sndB berest4
noncomputable def berest6 : Code := sndB berest5
noncomputable def berest7 : Code := sndB berest6
noncomputable def berest8 : Code := sndB berest7
noncomputable def berest9 : Code := sndB berest8
noncomputable def berest10 : Code := sndB berest9
noncomputable def berest11 : Code := sndB berest10
noncomputable def berest12 : Code := sndB berest11
noncomputable def berest13 : Code := sndB berest12
noncomputable def berest14 : Code := sndB berest13
noncomputable def berest15 : Code := sndB berest14
noncomputable def berest16 : Code := sndB berest15
noncomputable def berest17 : Code := sndB berest16
noncomputable def berest18 : Code := sndB berest17
noncomputable def berest19 : Code := sndB berest18
set_option maxRecDepth 1000000 in
theorem bebody_eq : bebody = .seq (Code.region 0 #[⟨some 2, .assign (.const (.bool false)), 4, "outright.go:368", #[], none⟩] false) berest1 := by kernel_rfl
set_option maxRecDepth 1000000 in
theorem berest1_eq : berest1 = .seq (Code.region 1 #[⟨some 20, .move (.tmp 0), 31, "outright.go:369", #[], none⟩, ⟨some 21, .call { callee := .value (.func 12), args := #[.tmp 20], argTypes := #[31] }, 34, "outright.go:369", #[⟨0, .data⟩], none⟩, ⟨some 3, .assign (.tmp 21), 34, "outright.go:369", #[⟨1, .data⟩, ⟨1, .chain⟩, ⟨0, .phase⟩, ⟨1, .phase⟩], none⟩] false) berest2 := by kernel_rfl
set_option maxRecDepth 1000000 in
theorem berest2_eq : berest2 = .seq (Code.region 2 #[⟨some 22, .move (.tmp 3), 34, "outright.go:370", #[], none⟩, ⟨some 23, .call { callee := .value (.func 13), args := #[.tmp 22, .const (.int .i64 2), .const (.int .i64 1)], argTypes := #[34, 3, 3] }, 30, "outright.go:370", #[⟨0, .data⟩], none⟩, ⟨some 4, .alloc 30, 0, "outright.go:370", #[], none⟩, ⟨none, .store 30 (.tmp 4) (.tmp 23), 0, "outright.go:370", #[⟨2, .data⟩, ⟨1, .data⟩, ⟨1, .chain⟩, ⟨0, .phase⟩, ⟨1, .phase⟩, ⟨2, .phase⟩], none⟩] false) berest3 := by kernel_rfl
set_option maxRecDepth 1000000 in
theorem berest3_eq : berest3 = .seq (Code.region 3 #[⟨some 24, .load 30 (.tmp 4), 30, "outright.go:371", #[], none⟩, ⟨some 25, .call { callee := .value (.func 14), args := #[.tmp 24], argTypes := #[30] }, 30, "outright.go:371", #[⟨0, .data⟩], none⟩, ⟨some 5, .alloc 30, 0, "outright.go:371", #[], none⟩, ⟨none, .store 30 (.tmp 5) (.tmp 25), 0, "outright.go:371", #[⟨2, .data⟩, ⟨1, .data⟩, ⟨1, .chain⟩, ⟨0, .phase⟩, ⟨1, .phase⟩, ⟨2, .phase⟩], none⟩] false) berest4 := by kernel_rfl
set_option maxRecDepth 1000000 in
theorem berest4_eq : berest4 = .seq (Code.region 4 #[⟨some 26, .move (.tmp 3), 34, "outright.go:372", #[], none⟩, ⟨some 27, .fieldAddr 30 (.tmp 4) 0, 0, "outright.go:372", #[], none⟩, ⟨some 28, .fieldAddr 25 (.tmp 27) 0, 0, "outright.go:372", #[⟨1, .data⟩], none⟩, ⟨some 29, .load 23 (.tmp 28), 23, "outright.go:372", #[⟨2, .data⟩], none⟩, ⟨some 30, .move (.tmp 3), 34, "outright.go:372", #[], none⟩, ⟨some 31, .fieldAddr 30 (.tmp 4) 0, 0, "outright.go:372", #[], none⟩, ⟨some 32, .fieldAddr 25 (.tmp 31) 0, 0, "outright.go:372", #[⟨5, .data⟩], none⟩, ⟨some 33, .load 23 (.tmp 32), 23, "outright.go:372", #[⟨6, .data⟩], none⟩, ⟨some 34, .call { callee := .value (.func 43), args := #[.tmp 30, .tmp 33], argTypes := #[34, 23] }, 3, "outright.go:372", #[⟨4, .data⟩, ⟨7, .data⟩], none⟩, ⟨some 35, .call { callee := .value (.func 42), args := #[.tmp 26, .tmp 29, .tmp 34], argTypes := #[34, 23, 3] }, 23, "outright.go:372", #[⟨0, .data⟩, ⟨3, .data⟩, ⟨8, .data⟩, ⟨8, .chain⟩], none⟩, ⟨some 36, .move (.tmp 3), 34, "outright.go:372", #[], none⟩, ⟨some 37, .fieldAddr 30 (.tmp 4) 0, 0, "outright.go:372", #[], none⟩, ⟨some 38, .fieldAddr 25 (.tmp 37) 1, 0, "outright.go:372", #[⟨11, .data⟩], none⟩, ⟨some 39, .load 23 (.tmp 38), 23, "outright.go:372", #[⟨12, .data⟩], none⟩, ⟨some 40, .move (.tmp 3), 34, "outright.go:372", #[], none⟩, ⟨some 41, .fieldAddr 30 (.tmp 4) 0, 0, "outright.go:372", #[], none⟩, ⟨some 42, .fieldAddr 25 (.tmp 41) 1, 0, "outright.go:372", #[⟨15, .data⟩], none⟩, ⟨some 43, .load 23 (.tmp 42), 23, "outright.go:372", #[⟨16, .data⟩], none⟩, ⟨some 44, .call { callee := .value (.func 43), args := #[.tmp 40, .tmp 43], argTypes := #[34, 23] }, 3, "outright.go:372", #[⟨14, .data⟩, ⟨17, .data⟩, ⟨9, .chain⟩], none⟩, ⟨some 45, .call { callee := .value (.func 42), args := #[.tmp 36, .tmp 39, .tmp 44], argTypes := #[34, 23, 3] }, 23, "outright.go:372", #[⟨10, .data⟩, ⟨13, .data⟩, ⟨18, .data⟩, ⟨18, .chain⟩], none⟩, ⟨some 46, .move (.tmp 3), 34, "outright.go:372", #[], none⟩, ⟨some 47, .fieldAddr 30 (.tmp 4) 0, 0, "outright.go:372", #[], none⟩, ⟨some 48, .fieldAddr 25 (.tmp 47) 2, 0, "outright.go:372", #[⟨21, .data⟩], none⟩, ⟨some 49, .load 23 (.tmp 48), 23, "outright.go:372", #[⟨22, .data⟩], none⟩, ⟨some 50, .move (.tmp 3), 34, "outright.go:372", #[], none⟩, ⟨some 51, .fieldAddr 30 (.tmp 4) 0, 0, "outright.go:372", #[], none⟩, ⟨some 52, .fieldAddr 25 (.tmp 51) 2, 0, "outright.go:372", #[⟨25, .data⟩], none⟩, ⟨some 53, .load 23 (.tmp 52), 23, "outright.go:372", #[⟨26, .data⟩], none⟩, ⟨some 54, .call { callee := .value (.func 43), args := #[.tmp 50, .tmp 53], argTypes := #[34, 23] }, 3, "outright.go:372", #[⟨24, .data⟩, ⟨27, .data⟩, ⟨19, .chain⟩], none⟩, ⟨some 55, .call { callee := .value (.func 42), args := #[.tmp 46, .tmp 49, .tmp 54], argTypes := #[34, 23, 3] }, 23, "outright.go:372", #[⟨20, .data⟩, ⟨23, .data⟩, ⟨28, .data⟩, ⟨28, .chain⟩], none⟩, ⟨some 56, .fieldAddr 30 (.tmp 5) 0, 0, "outright.go:372", #[⟨0, .phase⟩, ⟨1, .phase⟩, ⟨2, .phase⟩, ⟨3, .phase⟩, ⟨4, .phase⟩, ⟨5, .phase⟩, ⟨6, .phase⟩, ⟨7, .phase⟩, ⟨8, .phase⟩, ⟨9, .phase⟩, ⟨10, .textOnly .lateStores⟩, ⟨11, .textOnly .lateStores⟩, ⟨12, .textOnly .lateStores⟩, ⟨13, .textOnly .lateStores⟩, ⟨14, .textOnly .lateStores⟩, ⟨15, .textOnly .lateStores⟩, ⟨16, .textOnly .lateStores⟩, ⟨17, .textOnly .lateStores⟩, ⟨18, .textOnly .lateStoresUnsure⟩, ⟨19, .textOnly .lateStoresUnsure⟩, ⟨20, .textOnly .lateStores⟩, ⟨21, .textOnly .lateStores⟩, ⟨22, .textOnly .lateStores⟩, ⟨23, .textOnly .lateStores⟩, ⟨24, .textOnly .lateStores⟩, ⟨25, .textOnly .lateStores⟩, ⟨26, .textOnly .lateStores⟩, ⟨27, .textOnly .lateStores⟩, ⟨28, .textOnly .lateStoresUnsure⟩, ⟨29, .textOnly .lateStoresUnsure⟩], none⟩, ⟨some 57, .fieldAddr 25 (.tmp 56) 0, 0, "outright.go:372", #[⟨30, .data⟩, ⟨0, .phase⟩, ⟨1, .phase⟩, ⟨2, .phase⟩, ⟨3, .phase⟩, ⟨4, .phase⟩, ⟨5, .phase⟩, ⟨6, .phase⟩, ⟨7, .phase⟩, ⟨8, .phase⟩, ⟨9, .phase⟩, ⟨10, .textOnly .lateStores⟩, ⟨11, .textOnly .lateStores⟩, ⟨12, .textOnly .lateStores⟩, ⟨13, .textOnly .lateStores⟩, ⟨14, .textOnly .lateStores⟩, ⟨15, .textOnly .lateStores⟩, ⟨16, .textOnly .lateStores⟩, ⟨17, .textOnly .lateStores⟩, ⟨18, .textOnly .lateStoresUnsure⟩, ⟨19, .textOnly .lateStoresUnsure⟩, ⟨20, .textOnly .lateStores⟩, ⟨21, .textOnly .lateStores⟩, ⟨22, .textOnly .lateStores⟩, ⟨23, .textOnly .lateStores⟩, ⟨24, .textOnly .lateStores⟩, ⟨25, .textOnly .lateStores⟩, ⟨26, .textOnly .lateStores⟩, ⟨27, .textOnly .lateStores⟩, ⟨28, .textOnly .lateStoresUnsure⟩, ⟨29, .textOnly .lateStoresUnsure⟩], none⟩, ⟨none, .store 23 (.tmp 57) (.tmp 35), 0, "outright.go:372", #[⟨31, .data⟩, ⟨9, .data⟩, ⟨29, .chain⟩, ⟨0, .phase⟩, ⟨1, .phase⟩, ⟨2, .phase⟩, ⟨3, .phase⟩, ⟨4, .phase⟩, ⟨5, .phase⟩, ⟨6, .phase⟩, ⟨7, .phase⟩, ⟨8, .phase⟩, ⟨9, .phase⟩, ⟨10, .textOnly .lateStores⟩, ⟨11, .textOnly .lateStores⟩, ⟨12, .textOnly .lateStores⟩, ⟨13, .textOnly .lateStores⟩, ⟨14, .textOnly .lateStores⟩, ⟨15, .textOnly .lateStores⟩, ⟨16, .textOnly .lateStores⟩, ⟨17, .textOnly .lateStores⟩, ⟨18, .textOnly .lateStoresUnsure⟩, ⟨19, .textOnly .lateStoresUnsure⟩, ⟨20, .textOnly .lateStores⟩, ⟨21, .textOnly .lateStores⟩, ⟨22, .textOnly .lateStores⟩, ⟨23, .textOnly .lateStores⟩, ⟨24, .textOnly .lateStores⟩, ⟨25, .textOnly .lateStores⟩, ⟨26, .textOnly .lateStores⟩, ⟨27, .textOnly .lateStores⟩, ⟨28, .textOnly .lateStoresUnsure⟩, ⟨29, .textOnly .lateStoresUnsure⟩], none⟩, ⟨some 58, .fieldAddr 30 (.tmp 5) 0, 0, "outright.go:372", #[⟨0, .phase⟩, ⟨1, .phase⟩, ⟨2, .phase⟩, ⟨3, .phase⟩, ⟨4, .phase⟩, ⟨5, .phase⟩, ⟨6, .phase⟩, ⟨7, .phase⟩, ⟨8, .phase⟩, ⟨9, .phase⟩, ⟨10, .phase⟩, ⟨11, .phase⟩, ⟨12, .phase⟩, ⟨13, .phase⟩, ⟨14, .phase⟩, ⟨15, .phase⟩, ⟨16, .phase⟩, ⟨17, .phase⟩, ⟨18, .phase⟩, ⟨19, .phase⟩, ⟨20, .textOnly .lateStores⟩, ⟨21, .textOnly .lateStores⟩, ⟨22, .textOnly .lateStores⟩, ⟨23, .textOnly .lateStores⟩, ⟨24, .textOnly .lateStores⟩, ⟨25, .textOnly .lateStores⟩, ⟨26, .textOnly .lateStores⟩, ⟨27, .textOnly .lateStores⟩, ⟨28, .textOnly .lateStoresUnsure⟩, ⟨29, .textOnly .lateStoresUnsure⟩, ⟨30, .phase⟩, ⟨31, .phase⟩, ⟨32, .phase⟩], none⟩, ⟨some 59, .fieldAddr 25 (.tmp 58) 1, 0, "outright.go:372", #[⟨33, .data⟩, ⟨0, .phase⟩, ⟨1, .phase⟩, ⟨2, .phase⟩, ⟨3, .phase⟩, ⟨4, .phase⟩, ⟨5, .phase⟩, ⟨6, .phase⟩, ⟨7, .phase⟩, ⟨8, .phase⟩, ⟨9, .phase⟩, ⟨10, .phase⟩, ⟨11, .phase⟩, ⟨12, .phase⟩, ⟨13, .phase⟩, ⟨14, .phase⟩, ⟨15, .phase⟩, ⟨16, .phase⟩, ⟨17, .phase⟩, ⟨18, .phase⟩, ⟨19, .phase⟩, ⟨20, .textOnly .lateStores⟩, ⟨21, .textOnly .lateStores⟩, ⟨22, .textOnly .lateStores⟩, ⟨23, .textOnly .lateStores⟩, ⟨24, .textOnly .lateStores⟩, ⟨25, .textOnly .lateStores⟩, ⟨26, .textOnly .lateStores⟩, ⟨27, .textOnly .lateStores⟩, ⟨28, .textOnly .lateStoresUnsure⟩, ⟨29, .textOnly .lateStoresUnsure⟩, ⟨30, .phase⟩, ⟨31, .phase⟩, ⟨32, .phase⟩], none⟩, ⟨none, .store 23 (.tmp 59) (.tmp 45), 0, "outright.go:372", #[⟨34, .data⟩, ⟨19, .data⟩, ⟨32, .chain⟩, ⟨0, .phase⟩, ⟨1, .phase⟩, ⟨2, .phase⟩, ⟨3, .phase⟩, ⟨4, .phase⟩, ⟨5, .phase⟩, ⟨6, .phase⟩, ⟨7, .phase⟩, ⟨8, .phase⟩, ⟨9, .phase⟩, ⟨10, .phase⟩, ⟨11, .phase⟩, ⟨12, .phase⟩, ⟨13, .phase⟩, ⟨14, .phase⟩, ⟨15, .phase⟩, ⟨16, .phase⟩, ⟨17, .phase⟩, ⟨18, .phase⟩, ⟨19, .phase⟩, ⟨20, .textOnly .lateStores⟩, ⟨21, .textOnly .lateStores⟩, ⟨22, .textOnly .lateStores⟩, ⟨23, .textOnly .lateStores⟩, ⟨24, .textOnly .lateStores⟩, ⟨25, .textOnly .lateStores⟩, ⟨26, .textOnly .lateStores⟩, ⟨27, .textOnly .lateStores⟩, ⟨28, .textOnly .lateStoresUnsure⟩, ⟨29, .textOnly .lateStoresUnsure⟩, ⟨30, .phase⟩, ⟨31, .phase⟩, ⟨32, .phase⟩], none⟩, ⟨some 60, .fieldAddr 30 (.tmp 5) 0, 0, "outright.go:372", #[⟨0, .phase⟩, ⟨1, .phase⟩, ⟨2, .phase⟩, ⟨3, .phase⟩, ⟨4, .phase⟩, ⟨5, .phase⟩, ⟨6, .phase⟩, ⟨7, .phase⟩, ⟨8, .phase⟩, ⟨9, .phase⟩, ⟨10, .phase⟩, ⟨11, .phase⟩, ⟨12, .phase⟩, ⟨13, .phase⟩, ⟨14, .phase⟩, ⟨15, .phase⟩, ⟨16, .phase⟩, ⟨17, .phase⟩, ⟨18, .phase⟩, ⟨19, .phase⟩, ⟨20, .phase⟩, ⟨21, .phase⟩, ⟨22, .phase⟩, ⟨23, .phase⟩, ⟨24, .phase⟩, ⟨25, .phase⟩, ⟨26, .phase⟩, ⟨27, .phase⟩, ⟨28, .phase⟩, ⟨29, .phase⟩, ⟨30, .phase⟩, ⟨31, .phase⟩, ⟨32, .phase⟩, ⟨33, .phase⟩, ⟨34, .phase⟩, ⟨35, .phase⟩], none⟩, ⟨some 61, .fieldAddr 25 (.tmp 60) 2, 0, "outright.go:372", #[⟨36, .data⟩, ⟨0, .phase⟩, ⟨1, .phase⟩, ⟨2, .phase⟩, ⟨3, .phase⟩, ⟨4, .phase⟩, ⟨5, .phase⟩, ⟨6, .phase⟩, ⟨7, .phase⟩, ⟨8, .phase⟩, ⟨9, .phase⟩, ⟨10, .phase⟩, ⟨11, .phase⟩, ⟨12, .phase⟩, ⟨13, .phase⟩, ⟨14, .phase⟩, ⟨15, .phase⟩, ⟨16, .phase⟩, ⟨17, .phase⟩, ⟨18, .phase⟩, ⟨19, .phase⟩, ⟨20, .phase⟩, ⟨21, .phase⟩, ⟨22, .phase⟩, ⟨23, .phase⟩, ⟨24, .phase⟩, ⟨25, .phase⟩, ⟨26, .phase⟩, ⟨27, .phase⟩, ⟨28, .phase⟩, ⟨29, .phase⟩, ⟨30, .phase⟩, ⟨31, .phase⟩, ⟨32, .phase⟩, ⟨33, .phase⟩, ⟨34, .phase⟩, ⟨35, .phase⟩], none⟩, ⟨none, .store 23 (.tmp 61) (.tmp 55), 0, "outright.go:372", #[⟨37, .data⟩, ⟨29, .data⟩, ⟨35, .chain⟩, ⟨0, .phase⟩, ⟨1, .phase⟩, ⟨2, .phase⟩, ⟨3, .phase⟩, ⟨4, .phase⟩, ⟨5, .phase⟩, ⟨6, .phase⟩, ⟨7, .phase⟩, ⟨8, .phase⟩, ⟨9, .phase⟩, ⟨10, .phase⟩, ⟨11, .phase⟩, ⟨12, .phase⟩, ⟨13, .phase⟩, ⟨14, .phase⟩, ⟨15, .phase⟩, ⟨16, .phase⟩, ⟨17, .phase⟩, ⟨18, .phase⟩, ⟨19, .phase⟩, ⟨20, .phase⟩, ⟨21, .phase⟩, ⟨22, .phase⟩, ⟨23, .phase⟩, ⟨24, .phase⟩, ⟨25, .phase⟩, ⟨26, .phase⟩, ⟨27, .phase⟩, ⟨28, .phase⟩, ⟨29, .phase⟩, ⟨30, .phase⟩, ⟨31, .phase⟩, ⟨32, .phase⟩, ⟨33, .phase⟩, ⟨34, .phase⟩, ⟨35, .phase⟩], none⟩] true) berest5 := by kernel_rfl
set_option maxRecDepth 1000000 in
theorem berest5_eq : berest5 = .seq (Code.region 5 #[⟨some 62, .move (.tmp 3), 34, "outright.go:373", #[], none⟩, ⟨some 63, .fieldAddr 30 (.tmp 4) 1, 0, "outright.go:373", #[], none⟩, ⟨some 64, .fieldAddr 27 (.tmp 63) 0, 0, "outright.go:373", #[⟨1, .data⟩], none⟩, ⟨some 65, .load 23 (.tmp 64), 23, "outright.go:373", #[⟨2, .data⟩], none⟩, ⟨some 66, .move (.tmp 3), 34, "outright.go:373", #[], none⟩, ⟨some 67, .fieldAddr 30 (.tmp 4) 1, 0, "outright.go:373", #[], none⟩, ⟨some 68, .fieldAddr 27 (.tmp 67) 0, 0, "outright.go:373", #[⟨5, .data⟩], none⟩, ⟨some 69, .load 23 (.tmp 68), 23, "outright.go:373", #[⟨6, .data⟩], none⟩, ⟨some 70, .call { callee := .value (.func 43), args := #[.tmp 66, .tmp 69], argTypes := #[34, 23] }, 3, "outright.go:373", #[⟨4, .data⟩, ⟨7, .data⟩], none⟩, ⟨some 71, .call { callee := .value (.func 42), args := #[.tmp 62, .tmp 65, .tmp 70], argTypes := #[34, 23, 3] }, 23, "outright.go:373", #[⟨0, .data⟩, ⟨3, .data⟩, ⟨8, .data⟩, ⟨8, .chain⟩], none⟩, ⟨some 72, .move (.tmp 3), 34, "outright.go:373", #[], none⟩, ⟨some 73, .fieldAddr 30 (.tmp 4) 1, 0, "outright.go:373", #[], none⟩, ⟨some 74, .fieldAddr 27 (.tmp 73) 1, 0, "outright.go:373", #[⟨11, .data⟩], none⟩, ⟨some 75, .load 23 (.tmp 74), 23, "outright.go:373", #[⟨12, .data⟩], none⟩, ⟨some 76, .move (.tmp 3), 34, "outright.go:373", #[], none⟩, ⟨some 77, .fieldAddr 30 (.tmp 4) 1, 0, "outright.go:373", #[], none⟩, ⟨some 78, .fieldAddr 27 (.tmp 77) 1, 0, "outright.go:373", #[⟨15, .data⟩], none⟩, ⟨some 79, .load 23 (.tmp 78), 23, "outright.go:373", #[⟨16, .data⟩], none⟩, ⟨some 80, .call { callee := .value (.func 43), args := #[.tmp 76, .tmp 79], argTypes := #[34, 23] }, 3, "outright.go:373", #[⟨14, .data⟩, ⟨17, .data⟩, ⟨9, .chain⟩], none⟩, ⟨some 81, .call { callee := .value (.func 42), args := #[.tmp 72, .tmp 75, .tmp 80], argTypes := #[34, 23, 3] }, 23, "outright.go:373", #[⟨10, .data⟩, ⟨13, .data⟩, ⟨18, .data⟩, ⟨18, .chain⟩], none⟩, ⟨some 82, .fieldAddr 30 (.tmp 5) 1, 0, "outright.go:373", #[⟨0, .phase⟩, ⟨1, .phase⟩, ⟨2, .phase⟩, ⟨3, .phase⟩, ⟨4, .phase⟩, ⟨5, .phase⟩, ⟨6, .phase⟩, ⟨7, .phase⟩, ⟨8, .phase⟩, ⟨9, .phase⟩, ⟨10, .textOnly .lateStores⟩, ⟨11, .textOnly .lateStores⟩, ⟨12, .textOnly .lateStores⟩, ⟨13, .textOnly .lateStores⟩, ⟨14, .textOnly .lateStores⟩, ⟨15, .textOnly .lateStores⟩, ⟨16, .textOnly .lateStores⟩, ⟨17, .textOnly .lateStores⟩, ⟨18, .textOnly .lateStoresUnsure⟩, ⟨19, .textOnly .lateStoresUnsure⟩], none⟩, ⟨some 83, .fieldAddr 27 (.tmp 82) 0, 0, "outright.go:373", #[⟨20, .data⟩, ⟨0, .phase⟩, ⟨1, .phase⟩, ⟨2, .phase⟩, ⟨3, .phase⟩, ⟨4, .phase⟩, ⟨5, .phase⟩, ⟨6, .phase⟩, ⟨7, .phase⟩, ⟨8, .phase⟩, ⟨9, .phase⟩, ⟨10, .textOnly .lateStores⟩, ⟨11, .textOnly .lateStores⟩, ⟨12, .textOnly .lateStores⟩, ⟨13, .textOnly .lateStores⟩, ⟨14, .textOnly .lateStores⟩, ⟨15, .textOnly .lateStores⟩, ⟨16, .textOnly .lateStores⟩, ⟨17, .textOnly .lateStores⟩, ⟨18, .textOnly .lateStoresUnsure⟩, ⟨19, .textOnly .lateStoresUnsure⟩], none⟩, ⟨none, .store 23 (.tmp 83) (.tmp 71), 0, "outright.go:373", #[⟨21, .data⟩, ⟨9, .data⟩, ⟨19, .chain⟩, ⟨0, .phase⟩, ⟨1, .phase⟩, ⟨2, .phase⟩, ⟨3, .phase⟩, ⟨4, .phase⟩, ⟨5, .phase⟩, ⟨6, .phase⟩, ⟨7, .phase⟩, ⟨8, .phase⟩, ⟨9, .phase⟩, ⟨10, .textOnly .lateStores⟩, ⟨11, .textOnly .lateStores⟩, ⟨12, .textOnly .lateStores⟩, ⟨13, .textOnly .lateStores⟩, ⟨14, .textOnly .lateStores⟩, ⟨15, .textOnly .lateStores⟩, ⟨16, .textOnly .lateStores⟩, ⟨17, .textOnly .lateStores⟩, ⟨18, .textOnly .lateStoresUnsure⟩, ⟨19, .textOnly .lateStoresUnsure⟩], none⟩, ⟨some 84, .fieldAddr 30 (.tmp 5) 1, 0, "outright.go:373", #[⟨0, .phase⟩, ⟨1, .phase⟩, ⟨2, .phase⟩, ⟨3, .phase⟩, ⟨4, .phase⟩, ⟨5, .phase⟩, ⟨6, .phase⟩, ⟨7, .phase⟩, ⟨8, .phase⟩, ⟨9, .phase⟩, ⟨10, .phase⟩, ⟨11, .phase⟩, ⟨12, .phase⟩, ⟨13, .phase⟩, ⟨14, .phase⟩, ⟨15, .phase⟩, ⟨16, .phase⟩, ⟨17, .phase⟩, ⟨18, .phase⟩, ⟨19, .phase⟩, ⟨20, .phase⟩, ⟨21, .phase⟩, ⟨22, .phase⟩], none⟩, ⟨some 85, .fieldAddr 27 (.tmp 84) 1, 0, "outright.go:373", #[⟨23, .data⟩, ⟨0, .phase⟩, ⟨1, .phase⟩, ⟨2, .phase⟩, ⟨3, .phase⟩, ⟨4, .phase⟩, ⟨5, .phase⟩, ⟨6, .phase⟩, ⟨7, .phase⟩, ⟨8, .phase⟩, ⟨9, .phase⟩, ⟨10, .phase⟩, ⟨11, .phase⟩, ⟨12, .phase⟩, ⟨13, .phase⟩, ⟨14, .phase⟩, ⟨15, .phase⟩, ⟨16, .phase⟩, ⟨17, .phase⟩, ⟨18, .phase⟩, ⟨19, .phase⟩, ⟨20, .phase⟩, ⟨21, .phase⟩, ⟨22, .phase⟩], none⟩, ⟨none, .store 23 (.tmp 85) (.tmp 81), 0, "outright.go:373", #[⟨24, .data⟩, ⟨19, .data⟩, ⟨22, .chain⟩, ⟨0, .phase⟩, ⟨1, .phase⟩, ⟨2, .phase⟩, ⟨3, .phase⟩, ⟨4, .phase⟩, ⟨5, .phase⟩, ⟨6, .phase⟩, ⟨7, .phase⟩, ⟨8, .phase⟩, ⟨9, .phase⟩, ⟨10, .phase⟩, ⟨11, .phase⟩, ⟨12, .phase⟩, ⟨13, .phase⟩, ⟨14, .phase⟩, ⟨15, .phase⟩, ⟨16, .phase⟩, ⟨17, .phase⟩, ⟨18, .phase⟩, ⟨19, .phase⟩, ⟨20, .phase⟩, ⟨21, .phase⟩, ⟨22, .phase⟩], none⟩] true) berest6 := by kernel_rfl
set_option maxRecDepth 1000000 in
theorem berest6_eq : berest6 = .seq (Code.region 6 #[⟨some 86, .move (.tmp 3), 34, "outright.go:374", #[], none⟩, ⟨some 87, .fieldAddr 30 (.tmp 4) 1, 0, "outright.go:374", #[], none⟩, ⟨some 88, .fieldAddr 27 (.tmp 87) 2, 0, "outright.go:374", #[⟨1, .data⟩], none⟩, ⟨some 89, .load 23 (.tmp 88), 23, "outright.go:374", #[⟨2, .data⟩], none⟩, ⟨some 90, .move (.tmp 3), 34, "outright.go:374", #[], none⟩, ⟨some 91, .fieldAddr 30 (.tmp 4) 1, 0, "outright.go:374", #[], none⟩, ⟨some 92, .fieldAddr 27 (.tmp 91) 2, 0, "outright.go:374", #[⟨5, .data⟩], none⟩, ⟨some 93, .load 23 (.tmp 92), 23, "outright.go:374", #[⟨6, .data⟩], none⟩, ⟨some 94, .call { callee := .value (.func 43), args := #[.tmp 90, .tmp 93], argTypes := #[34, 23] }, 3, "outright.go:374", #[⟨4, .data⟩, ⟨7, .data⟩], none⟩, ⟨some 95, .call { callee := .value (.func 42), args := #[.tmp 86, .tmp 89, .tmp 94], argTypes := #[34, 23, 3] }, 23, "outright.go:374", #[⟨0, .data⟩, ⟨3, .data⟩, ⟨8, .data⟩, ⟨8, .chain⟩], none⟩, ⟨some 96, .move (.tmp 3), 34, "outright.go:374", #[], none⟩, ⟨some 97, .fieldAddr 30 (.tmp 4) 1, 0, "outright.go:374", #[], none⟩, ⟨some 98, .fieldAddr 27 (.tmp 97) 3, 0, "outright.go:374", #[⟨11, .data⟩], none⟩, ⟨some 99, .load 23 (.tmp 98), 23, "outright.go:374", #[⟨12, .data⟩], none⟩, ⟨some 100, .move (.tmp 3), 34, "outright.go:374", #[], none⟩, ⟨some 101, .fieldAddr 30 (.tmp 4) 1, 0, "outright.go:374", #[], none⟩, ⟨some 102, .fieldAddr 27 (.tmp 101) 3, 0, "outright.go:374", #[⟨15, .data⟩], none⟩, ⟨some 103, .load 23 (.tmp 102), 23, "outright.go:374", #[⟨16, .data⟩], none⟩, ⟨some 104, .call { callee := .value (.func 43), args := #[.tmp 100, .tmp 103], argTypes := #[34, 23] }, 3, "outright.go:374", #[⟨14, .data⟩, ⟨17, .data⟩, ⟨9, .chain⟩], none⟩, ⟨some 105, .call { callee := .value (.func 42), args := #[.tmp 96, .tmp 99, .tmp 104], argTypes := #[34, 23, 3] }, 23, "outright.go:374", #[⟨10, .data⟩, ⟨13, .data⟩, ⟨18, .data⟩, ⟨18, .chain⟩], none⟩, ⟨some 106, .fieldAddr 30 (.tmp 5) 1, 0, "outright.go:374", #[⟨0, .phase⟩, ⟨1, .phase⟩, ⟨2, .phase⟩, ⟨3, .phase⟩, ⟨4, .phase⟩, ⟨5, .phase⟩, ⟨6, .phase⟩, ⟨7, .phase⟩, ⟨8, .phase⟩, ⟨9, .phase⟩, ⟨10, .textOnly .lateStores⟩, ⟨11, .textOnly .lateStores⟩, ⟨12, .textOnly .lateStores⟩, ⟨13, .textOnly .lateStores⟩, ⟨14, .textOnly .lateStores⟩, ⟨15, .textOnly .lateStores⟩, ⟨16, .textOnly .lateStores⟩, ⟨17, .textOnly .lateStores⟩, ⟨18, .textOnly .lateStoresUnsure⟩, ⟨19, .textOnly .lateStoresUnsure⟩], none⟩, ⟨some 107, .fieldAddr 27 (.tmp 106) 2, 0, "outright.go:374", #[⟨20, .data⟩, ⟨0, .phase⟩, ⟨1, .phase⟩, ⟨2, .phase⟩, ⟨3, .phase⟩, ⟨4, .phase⟩, ⟨5, .phase⟩, ⟨6, .phase⟩, ⟨7, .phase⟩, ⟨8, .phase⟩, ⟨9, .phase⟩, ⟨10, .textOnly .lateStores⟩, ⟨11, .textOnly .lateStores⟩, ⟨12, .textOnly .lateStores⟩, ⟨13, .textOnly .lateStores⟩, ⟨14, .textOnly .lateStores⟩, ⟨15, .textOnly .lateStores⟩, ⟨16, .textOnly .lateStores⟩, ⟨17, .textOnly .lateStores⟩, ⟨18, .textOnly .lateStoresUnsure⟩, ⟨19, .textOnly .lateStoresUnsure⟩], none⟩, ⟨none, .store 23 (.tmp 107) (.tmp 95), 0, "outright.go:374", #[⟨21, .data⟩, ⟨9, .data⟩, ⟨19, .chain⟩, ⟨0, .phase⟩, ⟨1, .phase⟩, ⟨2, .phase⟩, ⟨3, .phase⟩, ⟨4, .phase⟩, ⟨5, .phase⟩, ⟨6, .phase⟩, ⟨7, .phase⟩, ⟨8, .phase⟩, ⟨9, .phase⟩, ⟨10, .textOnly .lateStores⟩, ⟨11, .textOnly .lateStores⟩, ⟨12, .textOnly .lateStores⟩, ⟨13, .textOnly .lateStores⟩, ⟨14, .textOnly .lateStores⟩, ⟨15, .textOnly .lateStores⟩, ⟨16, .textOnly .lateStores⟩, ⟨17, .textOnly .lateStores⟩, ⟨18, .textOnly .lateStoresUnsure⟩, ⟨19, .textOnly .lateStoresUnsure⟩], none⟩, ⟨some 108, .fieldAddr 30 (.tmp 5) 1, 0, "outright.go:374", #[⟨0, .phase⟩, ⟨1, .phase⟩, ⟨2, .phase⟩, ⟨3, .phase⟩, ⟨4, .phase⟩, ⟨5, .phase⟩, ⟨6, .phase⟩, ⟨7, .phase⟩, ⟨8, .phase⟩, ⟨9, .phase⟩, ⟨10, .phase⟩, ⟨11, .phase⟩, ⟨12, .phase⟩, ⟨13, .phase⟩, ⟨14, .phase⟩, ⟨15, .phase⟩, ⟨16, .phase⟩, ⟨17, .phase⟩, ⟨18, .phase⟩, ⟨19, .phase⟩, ⟨20, .phase⟩, ⟨21, .phase⟩, ⟨22, .phase⟩], none⟩, ⟨some 109, .fieldAddr 27 (.tmp 108) 3, 0, "outright.go:374", #[⟨23, .data⟩, ⟨0, .phase⟩, ⟨1, .phase⟩, ⟨2, .phase⟩, ⟨3, .phase⟩, ⟨4, .phase⟩, ⟨5, .phase⟩, ⟨6, .phase⟩, ⟨7, .phase⟩, ⟨8, .phase⟩, ⟨9, .phase⟩, ⟨10, .phase⟩, ⟨11, .phase⟩, ⟨12, .phase⟩, ⟨13, .phase⟩, ⟨14, .phase⟩, ⟨15, .phase⟩, ⟨16, .phase⟩, ⟨17, .phase⟩, ⟨18, .phase⟩, ⟨19, .phase⟩, ⟨20, .phase⟩, ⟨21, .phase⟩, ⟨22, .phase⟩], none⟩, ⟨none, .store 23 (.tmp 109) (.tmp 105), 0, "outright.go:374", #[⟨24, .data⟩, ⟨19, .data⟩, ⟨22, .chain⟩, ⟨0, .phase⟩, ⟨1, .phase⟩, ⟨2, .phase⟩, ⟨3, .phase⟩, ⟨4, .phase⟩, ⟨5, .phase⟩, ⟨6, .phase⟩, ⟨7, .phase⟩, ⟨8, .phase⟩, ⟨9, .phase⟩, ⟨10, .phase⟩, ⟨11, .phase⟩, ⟨12, .phase⟩, ⟨13, .phase⟩, ⟨14, .phase⟩, ⟨15, .phase⟩, ⟨16, .phase⟩, ⟨17, .phase⟩, ⟨18, .phase⟩, ⟨19, .phase⟩, ⟨20, .phase⟩, ⟨21, .phase⟩, ⟨22, .phase⟩], none⟩] true) berest7 := by kernel_rfl
set_option maxRecDepth 1000000 in
theorem berest7_eq : berest7 = .seq (.seq (Code.region 7 #[⟨some 6, .assign (.const (.int .i64 0)), 3, "outright.go:375", #[], none⟩] false) (.block 0 (.loop (.seq (.seq (Code.region 8 #[⟨some 110, .move (.tmp 6), 3, "outright.go:375", #[], none⟩, ⟨some 111, .fieldAddr 30 (.tmp 5) 2, 0, "outright.go:375", #[], none⟩, ⟨some 112, .load 28 (.tmp 111), 28, "outright.go:375", #[⟨1, .data⟩], none⟩, ⟨some 113, .call { callee := .builtin .len, args := #[.tmp 112], argTypes := #[28] }, 3, "outright.go:375", #[⟨2, .data⟩], none⟩, ⟨some 114, .binOp .lss 3 (.tmp 110) (.tmp 113) 3, 4, "outright.go:375", #[⟨0, .data⟩, ⟨3, .data⟩], none⟩] false) (.cond (.tmp 114) .skip (.exit 0))) (.seq (.block 1 (Code.region 10 #[⟨some 117, .fieldAddr 30 (.tmp 5) 2, 0, "outright.go:376", #[], none⟩, ⟨some 118, .load 28 (.tmp 117), 28, "outright.go:376", #[⟨0, .data⟩], none⟩, ⟨some 119, .move (.tmp 6), 3, "outright.go:376", #[], none⟩, ⟨some 120, .move (.tmp 3), 34, "outright.go:376", #[], none⟩, ⟨some 121, .fieldAddr 30 (.tmp 5) 2, 0, "outright.go:376", #[], none⟩, ⟨some 122, .load 28 (.tmp 121), 28, "outright.go:376", #[⟨4, .data⟩], none⟩, ⟨some 123, .move (.tmp 6), 3, "outright.go:376", #[], none⟩, ⟨some 124, .indexAddr 28 (.tmp 122) (.tmp 123), 0, "outright.go:376", #[⟨5, .data⟩, ⟨6, .data⟩], none⟩, ⟨some 125, .load 23 (.tmp 124), 23, "outright.go:376", #[⟨7, .data⟩], none⟩, ⟨some 126, .move (.tmp 3), 34, "outright.go:376", #[], none⟩, ⟨some 127, .fieldAddr 30 (.tmp 5) 2, 0, "outright.go:376", #[], none⟩, ⟨some 128, .load 28 (.tmp 127), 28, "outright.go:376", #[⟨10, .data⟩], none⟩, ⟨some 129, .move (.tmp 6), 3, "outright.go:376", #[], none⟩, ⟨some 130, .indexAddr 28 (.tmp 128) (.tmp 129), 0, "outright.go:376", #[⟨11, .data⟩, ⟨12, .data⟩], none⟩, ⟨some 131, .load 23 (.tmp 130), 23, "outright.go:376", #[⟨13, .data⟩], none⟩, ⟨some 132, .call { callee := .value (.func 43), args := #[.tmp 126, .tmp 131], argTypes := #[34, 23] }, 3, "outright.go:376", #[⟨9, .data⟩, ⟨14, .data⟩], none⟩, ⟨some 133, .call { callee := .value (.func 42), args := #[.tmp 120, .tmp 125, .tmp 132], argTypes := #[34, 23, 3] }, 23, "outright.go:376", #[⟨3, .data⟩, ⟨8, .data⟩, ⟨15, .data⟩, ⟨15, .chain⟩], none⟩, ⟨some 134, .indexAddr 28 (.tmp 118) (.tmp 119), 0, "outright.go:376", #[⟨1, .data⟩, ⟨2, .data⟩, ⟨0, .phase⟩, ⟨1, .phase⟩, ⟨2, .phase⟩, ⟨3, .phase⟩, ⟨4, .phase⟩, ⟨5, .phase⟩, ⟨6, .phase⟩, ⟨7, .phase⟩, ⟨8, .phase⟩, ⟨9, .phase⟩, ⟨10, .phase⟩, ⟨11, .phase⟩, ⟨12, .phase⟩, ⟨13, .phase⟩, ⟨14, .phase⟩, ⟨15, .phase⟩, ⟨16, .phase⟩], none⟩, ⟨none, .store 23 (.tmp 134) (.tmp 133), 0, "outright.go:376", #[⟨17, .data⟩, ⟨16, .data⟩, ⟨16, .chain⟩, ⟨0, .phase⟩, ⟨1, .phase⟩, ⟨2, .phase⟩, ⟨3, .phase⟩, ⟨4, .phase⟩, ⟨5, .phase⟩, ⟨6, .phase⟩, ⟨7, .phase⟩, ⟨8, .phase⟩, ⟨9, .phase⟩, ⟨10, .phase⟩, ⟨11, .phase⟩, ⟨12, .phase⟩, ⟨13, .phase⟩, ⟨14, .phase⟩, ⟨15, .phase⟩, ⟨16, .phase⟩], none⟩] true)) (Code.region 9 #[⟨some 115, .move (.tmp 6), 3, "outright.go:375", #[], none⟩, ⟨some 116, .binOp .add 3 (.tmp 115) (.const (.int .i64 1)) 3, 3, "outright.go:375", #[⟨0, .data⟩], none⟩, ⟨some 6, .assign (.tmp 116), 3, "outright.go:375", #[⟨1, .data⟩, ⟨0, .phase⟩, ⟨1, .phase⟩], none⟩] false)))))) berest8 := by kernel_rfl
set_option maxRecDepth 1000000 in
theorem berest8_eq : berest8 = .seq (Code.region 11 #[⟨some 135, .move (.tmp 3), 34, "outright.go:378", #[], none⟩, ⟨some 136, .fieldAddr 30 (.tmp 4) 4, 0, "outright.go:378", #[], none⟩, ⟨some 137, .load 3 (.tmp 136), 3, "outright.go:378", #[⟨1, .data⟩], none⟩, ⟨some 138, .call { callee := .value (.func 25), args := #[.tmp 135, .tmp 137], argTypes := #[34, 3] }, 3, "outright.go:378", #[⟨0, .data⟩, ⟨2, .data⟩], none⟩, ⟨some 139, .fieldAddr 30 (.tmp 5) 4, 0, "outright.go:378", #[⟨0, .phase⟩, ⟨1, .phase⟩, ⟨2, .phase⟩, ⟨3, .phase⟩], none⟩, ⟨none, .store 3 (.tmp 139) (.tmp 138), 0, "outright.go:378", #[⟨4, .data⟩, ⟨3, .data⟩, ⟨3, .chain⟩, ⟨0, .phase⟩, ⟨1, .phase⟩, ⟨2, .phase⟩, ⟨3, .phase⟩], none⟩] false) berest9 := by kernel_rfl
set_option maxRecDepth 1000000 in
theorem berest9_eq : berest9 = .seq (Code.region 12 #[⟨some 140, .move (.tmp 3), 34, "outright.go:379", #[], none⟩, ⟨some 141, .call { callee := .value (.func 26), args := #[.tmp 140, .const (.int .i64 3)], argTypes := #[34, 3] }, 31, "outright.go:379", #[⟨0, .data⟩], none⟩, ⟨some 7, .assign (.tmp 141), 31, "outright.go:379", #[⟨1, .data⟩, ⟨1, .chain⟩, ⟨0, .phase⟩, ⟨1, .phase⟩], none⟩] false) berest10 := by kernel_rfl
set_option maxRecDepth 1000000 in
theorem berest10_eq : berest10 = .seq (Code.region 13 #[⟨some 143, .load 30 (.tmp 4), 30, "outright.go:380", #[], none⟩, ⟨some 144, .move (.tmp 7), 31, "outright.go:380", #[], none⟩, ⟨some 145, .call { callee := .value (.func 31), args := #[.tmp 143, .tmp 144], argTypes := #[30, 31] }, 40, "outright.go:380", #[⟨0, .data⟩, ⟨1, .data⟩], none⟩, ⟨some 142, .move (.tmp 145), 40, "outright.go:380", #[⟨2, .data⟩], none⟩, ⟨some 146, .extract (.tmp 142) 0, 3, "outright.go:380", #[⟨3, .data⟩], none⟩, ⟨some 147, .extract (.tmp 142) 1, 39, "outright.go:380", #[⟨3, .data⟩, ⟨6, .gcOnly .lateStores⟩], none⟩, ⟨some 8, .assign (.tmp 146), 3, "outright.go:380", #[⟨4, .data⟩, ⟨2, .chain⟩, ⟨0, .phase⟩, ⟨1, .phase⟩, ⟨2, .phase⟩, ⟨3, .phase⟩, ⟨4, .phase⟩, ⟨5, .textOnly .lateStores⟩], none⟩, ⟨some 9, .assign (.tmp 147), 39, "outright.go:380", #[⟨5, .data⟩, ⟨6, .chain⟩, ⟨0, .phase⟩, ⟨1, .phase⟩, ⟨2, .phase⟩, ⟨3, .phase⟩, ⟨4, .phase⟩, ⟨5, .phase⟩, ⟨6, .phase⟩], none⟩] false) berest11 := by kernel_rfl
set_option maxRecDepth 1000000 in
theorem berest11_eq : berest11 = .seq (Code.region 14 #[⟨some 149, .load 30 (.tmp 5), 30, "outright.go:381", #[], none⟩, ⟨some 150, .move (.tmp 7), 31, "outright.go:381", #[], none⟩, ⟨some 151, .call { callee := .value (.func 31), args := #[.tmp 149, .tmp 150], argTypes := #[30, 31] }, 40, "outright.go:381", #[⟨0, .data⟩, ⟨1, .data⟩], none⟩, ⟨some 148, .move (.tmp 151), 40, "outright.go:381", #[⟨2, .data⟩], none⟩, ⟨some 152, .extract (.tmp 148) 0, 3, "outright.go:381", #[⟨3, .data⟩], none⟩, ⟨some 153, .extract (.tmp 148) 1, 39, "outright.go:381", #[⟨3, .data⟩, ⟨6, .gcOnly .lateStores⟩], none⟩, ⟨some 10, .assign (.tmp 152), 3, "outright.go:381", #[⟨4, .data⟩, ⟨2, .chain⟩, ⟨0, .phase⟩, ⟨1, .phase⟩, ⟨2, .phase⟩, ⟨3, .phase⟩, ⟨4, .phase⟩, ⟨5, .textOnly .lateStores⟩], none⟩, ⟨some 11, .assign (.tmp 153), 39, "outright.go:381", #[⟨5, .data⟩, ⟨6, .chain⟩, ⟨0, .phase⟩, ⟨1, .phase⟩, ⟨2, .phase⟩, ⟨3, .phase⟩, ⟨4, .phase⟩, ⟨5, .phase⟩, ⟨6, .phase⟩], none⟩] false) berest12 := by kernel_rfl
set_option maxRecDepth 1000000 in
theorem berest12_eq : berest12 = .seq (Code.region 15 #[⟨some 155, .load 30 (.tmp 4), 30, "outright.go:382", #[], none⟩, ⟨some 156, .move (.tmp 7), 31, "outright.go:382", #[], none⟩, ⟨some 157, .call { callee := .value (.func 30), args := #[.tmp 155, .tmp 156], argTypes := #[30, 31] }, 40, "outright.go:382", #[⟨0, .data⟩, ⟨1, .data⟩], none⟩, ⟨some 154, .move (.tmp 157), 40, "outright.go:382", #[⟨2, .data⟩], none⟩, ⟨some 158, .extract (.tmp 154) 0, 3, "outright.go:382", #[⟨3, .data⟩], none⟩, ⟨some 159, .extract (.tmp 154) 1, 39, "outright.go:382", #[⟨3, .data⟩, ⟨6, .gcOnly .lateStores⟩], none⟩, ⟨some 12, .assign (.tmp 158), 3, "outright.go:382", #[⟨4, .data⟩, ⟨2, .chain⟩, ⟨0, .phase⟩, ⟨1, .phase⟩, ⟨2, .phase⟩, ⟨3, .phase⟩, ⟨4, .phase⟩, ⟨5, .textOnly .lateStores⟩], none⟩, ⟨some 13, .assign (.tmp 159), 39, "outright.go:382", #[⟨5, .data⟩, ⟨6, .chain⟩, ⟨0, .phase⟩, ⟨1, .phase⟩, ⟨2, .phase⟩, ⟨3, .phase⟩, ⟨4, .phase⟩, ⟨5, .phase⟩, ⟨6, .phase⟩], none⟩] false) berest13 := by kernel_rfl
set_option maxRecDepth 1000000 in
theorem berest13_eq : berest13 = .seq (Code.region 16 #[⟨some 161, .load 30 (.tmp 5), 30, "outright.go:383", #[], none⟩, ⟨some 162, .move (.tmp 7), 31, "outright.go:383", #[], none⟩, ⟨some 163, .call { callee := .value (.func 30), args := #[.tmp 161, .tmp 162], argTypes := #[30, 31] }, 40, "outright.go:383", #[⟨0, .data⟩, ⟨1, .data⟩], none⟩, ⟨some 160, .move (.tmp 163), 40, "outright.go:383", #[⟨2, .data⟩], none⟩, ⟨some 164, .extract (.tmp 160) 0, 3, "outright.go:383", #[⟨3, .data⟩], none⟩, ⟨some 165, .extract (.tmp 160) 1, 39, "outright.go:383", #[⟨3, .data⟩, ⟨6, .gcOnly .lateStores⟩], none⟩, ⟨some 14, .assign (.tmp 164), 3, "outright.go:383", #[⟨4, .data⟩, ⟨2, .chain⟩, ⟨0, .phase⟩, ⟨1, .phase⟩, ⟨2, .phase⟩, ⟨3, .phase⟩, ⟨4, .phase⟩, ⟨5, .textOnly .lateStores⟩], none⟩, ⟨some 15, .assign (.tmp 165), 39, "outright.go:383", #[⟨5, .data⟩, ⟨6, .chain⟩, ⟨0, .phase⟩, ⟨1, .phase⟩, ⟨2, .phase⟩, ⟨3, .phase⟩, ⟨4, .phase⟩, ⟨5, .phase⟩, ⟨6, .phase⟩], none⟩] false) berest14 := by kernel_rfl
set_option maxRecDepth 1000000 in
theorem berest14_eq : berest14 = .seq (.seq (Code.region 17 #[⟨some 166, .move (.tmp 9), 39, "outright.go:384", #[], none⟩, ⟨some 167, .binOp .neq 39 (.tmp 166) (.const (.int .i64 0)) 39, 4, "outright.go:384", #[⟨0, .data⟩], none⟩, ⟨some 168, .move (.tmp 167), 4, "outright.go:384", #[⟨1, .data⟩], none⟩, ⟨some 169, .move (.tmp 11), 39, "outright.go:384", #[⟨2, .guard⟩], some (2, false)⟩, ⟨some 170, .binOp .neq 39 (.tmp 169) (.const (.int .i64 0)) 39, 4, "outright.go:384", #[⟨3, .data⟩, ⟨2, .guard⟩], some (2, false)⟩, ⟨some 171, .pick (.tmp 168) (.const (.bool true)) (.tmp 170), 4, "outright.go:384", #[⟨2, .data⟩, ⟨4, .data⟩], none⟩, ⟨some 172, .move (.tmp 171), 4, "outright.go:384", #[⟨5, .data⟩, ⟨2, .chain⟩], none⟩, ⟨some 173, .move (.tmp 13), 39, "outright.go:384", #[⟨6, .guard⟩], some (6, false)⟩, ⟨some 174, .binOp .neq 39 (.tmp 173) (.const (.int .i64 0)) 39, 4, "outright.go:384", #[⟨7, .data⟩, ⟨6, .guard⟩], some (6, false)⟩, ⟨some 175, .pick (.tmp 172) (.const (.bool true)) (.tmp 174), 4, "outright.go:384", #[⟨6, .data⟩, ⟨8, .data⟩], none⟩, ⟨some 176, .move (.tmp 175), 4, "outright.go:384", #[⟨9, .data⟩, ⟨6, .chain⟩], none⟩, ⟨some 177, .move (.tmp 15), 39, "outright.go:384", #[⟨10, .guard⟩], some (10, false)⟩, ⟨some 178, .binOp .neq 39 (.tmp 177) (.const (.int .i64 0)) 39, 4, "outright.go:384", #[⟨11, .data⟩, ⟨10, .guard⟩], some (10, false)⟩, ⟨some 179, .pick (.tmp 176) (.const (.bool true)) (.tmp 178), 4, "outright.go:384", #[⟨10, .data⟩, ⟨12, .data⟩], none⟩, ⟨some 180, .move (.tmp 179), 4, "outright.go:384", #[⟨13, .data⟩, ⟨10, .chain⟩], none⟩, ⟨some 181, .move (.tmp 8), 3, "outright.go:384", #[⟨14, .guard⟩], some (14, false)⟩, ⟨some 182, .binOp .neq 3 (.tmp 181) (.const (.int .i64 3)) 3, 4, "outright.go:384", #[⟨15, .data⟩, ⟨14, .guard⟩], some (14, false)⟩, ⟨some 183, .move (.tmp 182), 4, "outright.go:384", #[⟨16, .data⟩, ⟨14, .chain⟩, ⟨14, .guard⟩], some (14, false)⟩, ⟨some 184, .move (.tmp 8), 3, "outright.go:384", #[⟨17, .guard⟩], some (17, true)⟩, ⟨some 185, .move (.tmp 10), 3, "outright.go:384", #[⟨17, .guard⟩], some (17, true)⟩, ⟨some 186, .binOp .neq 3 (.tmp 184) (.tmp 185) 3, 4, "outright.go:384", #[⟨18, .data⟩, ⟨19, .data⟩, ⟨17, .guard⟩], some (17, true)⟩, ⟨some 187, .pick (.tmp 183) (.tmp 186) (.const (.bool false)), 4, "outright.go:384", #[⟨17, .data⟩, ⟨20, .data⟩, ⟨14, .guard⟩], some (14, false)⟩, ⟨some 188, .pick (.tmp 180) (.const (.bool true)) (.tmp 187), 4, "outright.go:384", #[⟨14, .data⟩, ⟨21, .data⟩], none⟩, ⟨some 189, .move (.tmp 188), 4, "outright.go:384", #[⟨22, .data⟩, ⟨17, .chain⟩], none⟩, ⟨some 190, .move (.tmp 12), 3, "outright.go:384", #[⟨23, .guard⟩], some (23, false)⟩, ⟨some 191, .binOp .neq 3 (.tmp 190) (.const (.int .i64 3)) 3, 4, "outright.go:384", #[⟨24, .data⟩, ⟨23, .guard⟩], some (23, false)⟩, ⟨some 192, .move (.tmp 191), 4, "outright.go:384", #[⟨25, .data⟩, ⟨23, .chain⟩, ⟨23, .guard⟩], some (23, false)⟩, ⟨some 193, .move (.tmp 12), 3, "outright.go:384", #[⟨26, .guard⟩], some (26, true)⟩, ⟨some 194, .move (.tmp 14), 3, "outright.go:384", #[⟨26, .guard⟩], some (26, true)⟩, ⟨some 195, .binOp .neq 3 (.tmp 193) (.tmp 194) 3, 4, "outright.go:384", #[⟨27, .data⟩, ⟨28, .data⟩, ⟨26, .guard⟩], some (26, true)⟩, ⟨some 196, .pick (.tmp 192) (.tmp 195) (.const (.bool false)), 4, "outright.go:384", #[⟨26, .data⟩, ⟨29, .data⟩, ⟨23, .guard⟩], some (23, false)⟩, ⟨some 197, .pick (.tmp 189) (.const (.bool true)) (.tmp 196), 4, "outright.go:384", #[⟨23, .data⟩, ⟨30, .data⟩], none⟩] false) (.cond (.tmp 197) (.seq (Code.region 18 #[⟨some 2, .assign (.const (.bool false)), 4, "outright.go:385", #[], none⟩] false) .ret) .skip)) berest15 := by kernel_rfl
set_option maxRecDepth 1000000 in
theorem berest15_eq : berest15 = .seq (Code.region 19 #[⟨some 199, .load 30 (.tmp 4), 30, "outright.go:387", #[], none⟩, ⟨some 200, .call { callee := .value (.func 44), args := #[.tmp 199], argTypes := #[30] }, 73, "outright.go:387", #[⟨0, .data⟩], none⟩, ⟨some 198, .move (.tmp 200), 73, "outright.go:387", #[⟨1, .data⟩], none⟩, ⟨some 201, .extract (.tmp 198) 0, 31, "outright.go:387", #[⟨2, .data⟩], none⟩, ⟨some 202, .extract (.tmp 198) 1, 39, "outright.go:387", #[⟨2, .data⟩, ⟨5, .gcOnly .lateStores⟩], none⟩, ⟨some 16, .assign (.tmp 201), 31, "outright.go:387", #[⟨3, .data⟩, ⟨1, .chain⟩, ⟨0, .phase⟩, ⟨1, .phase⟩, ⟨2, .phase⟩, ⟨3, .phase⟩, ⟨4, .textOnly .lateStores⟩], none⟩, ⟨some 9, .assign (.tmp 202), 39, "outright.go:387", #[⟨4, .data⟩, ⟨5, .chain⟩, ⟨0, .phase⟩, ⟨1, .phase⟩, ⟨2, .phase⟩, ⟨3, .phase⟩, ⟨4, .phase⟩, ⟨5, .phase⟩], none⟩] false) berest16 := by kernel_rfl
set_option maxRecDepth 1000000 in
theorem berest16_eq : berest16 = .seq (Code.region 20 #[⟨some 204, .load 30 (.tmp 5), 30, "outright.go:388", #[], none⟩, ⟨some 205, .call { callee := .value (.func 44), args := #[.tmp 204], argTypes := #[30] }, 73, "outright.go:388", #[⟨0, .data⟩], none⟩, ⟨some 203, .move (.tmp 205), 73, "outright.go:388", #[⟨1, .data⟩], none⟩, ⟨some 206, .extract (.tmp 203) 0, 31, "outright.go:388", #[⟨2, .data⟩], none⟩, ⟨some 207, .extract (.tmp 203) 1, 39, "outright.go:388", #[⟨2, .data⟩, ⟨5, .gcOnly .lateStores⟩], none⟩, ⟨some 17, .assign (.tmp 206), 31, "outright.go:388", #[⟨3, .data⟩, ⟨1, .chain⟩, ⟨0, .phase⟩, ⟨1, .phase⟩, ⟨2, .phase⟩, ⟨3, .phase⟩, ⟨4, .textOnly .lateStores⟩], none⟩, ⟨some 11, .assign (.tmp 207), 39, "outright.go:388", #[⟨4, .data⟩, ⟨5, .chain⟩, ⟨0, .phase⟩, ⟨1, .phase⟩, ⟨2, .phase⟩, ⟨3, .phase⟩, ⟨4, .phase⟩, ⟨5, .phase⟩], none⟩] false) berest17 := by kernel_rfl
set_option maxRecDepth 1000000 in
theorem berest17_eq : berest17 = .seq (Code.region 21 #[⟨some 209, .load 30 (.tmp 4), 30, "outright.go:389", #[], none⟩, ⟨some 210, .call { callee := .value (.func 15), args := #[.tmp 209], argTypes := #[30] }, 40, "outright.go:389", #[⟨0, .data⟩], none⟩, ⟨some 208, .move (.tmp 210), 40, "outright.go:389", #[⟨1, .data⟩], none⟩, ⟨some 211, .extract (.tmp 208) 0, 3, "outright.go:389", #[⟨2, .data⟩], none⟩, ⟨some 212, .extract (.tmp 208) 1, 39, "outright.go:389", #[⟨2, .data⟩, ⟨5, .gcOnly .lateStores⟩], none⟩, ⟨some 18, .assign (.tmp 211), 3, "outright.go:389", #[⟨3, .data⟩, ⟨1, .chain⟩, ⟨0, .phase⟩, ⟨1, .phase⟩, ⟨2, .phase⟩, ⟨3, .phase⟩, ⟨4, .textOnly .lateStores⟩], none⟩, ⟨some 13, .assign (.tmp 212), 39, "outright.go:389", #[⟨4, .data⟩, ⟨5, .chain⟩, ⟨0, .phase⟩, ⟨1, .phase⟩, ⟨2, .phase⟩, ⟨3, .phase⟩, ⟨4, .phase⟩, ⟨5, .phase⟩], none⟩] false) berest18 := by kernel_rfl
set_option maxRecDepth 1000000 in
theorem berest18_eq : berest18 = .seq (Code.region 22 #[⟨some 214, .load 30 (.tmp 5), 30, "outright.go:390", #[], none⟩, ⟨some 215, .call { callee := .value (.func 15), args := #[.tmp 214], argTypes := #[30] }, 40, "outright.go:390", #[⟨0, .data⟩], none⟩, ⟨some 213, .move (.tmp 215), 40, "outright.go:390", #[⟨1, .data⟩], none⟩, ⟨some 216, .extract (.tmp 213) 0, 3, "outright.go:390", #[⟨2, .data⟩], none⟩, ⟨some 217, .extract (.tmp 213) 1, 39, "outright.go:390", #[⟨2, .data⟩, ⟨5, .gcOnly .lateStores⟩], none⟩, ⟨some 19, .assign (.tmp 216), 3, "outright.go:390", #[⟨3, .data⟩, ⟨1, .chain⟩, ⟨0, .phase⟩, ⟨1, .phase⟩, ⟨2, .phase⟩, ⟨3, .phase⟩, ⟨4, .textOnly .lateStores⟩], none⟩, ⟨some 15, .assign (.tmp 217), 39, "outright.go:390", #[⟨4, .data⟩, ⟨5, .chain⟩, ⟨0, .phase⟩, ⟨1, .phase⟩, ⟨2, .phase⟩, ⟨3, .phase⟩, ⟨4, .phase⟩, ⟨5, .phase⟩], none⟩] false) berest19 := by kernel_rfl
set_option maxRecDepth 1000000 in
theorem berest19_eq : berest19 = .seq (Code.region 23 beo false) .ret := by kernel_rfl
theorem kindE_12 : ∀ (l : List Int), (∀ x ∈ l, x = 1 ∨ x = 2) → kindE l = 0
  | [], _ => rfl
  | y :: l, h => by
    unfold kindE
    rw [if_pos (h y List.mem_cons_self)]
    exact kindE_12 l fun x hx => h x (List.mem_cons_of_mem _ hx)

def QBE (w0 : World) : Exit → Act → World → Prop := bodyPost Try.prog Try.f7 fun e w' => e = .returned (.bool true) ∧ Below w0.heap.size w0 w'
/-- What lies about behind the two jobs and the strokes. -/
structure BW (w0 : World) (g4 g5 : Nat) (K X : Jb) (a : Option Addr) (n c : Nat) (oa : Option Addr) (oc : Nat) (la : Option Addr) (l : List Int) (w : World) : Prop where
  b0 : Below w0.heap.size w0 w
  j4 : Bk w g4 30 (jobC K (.slice a n c))
  r4 : Rg w w.heap.size a K.sh
  j5 : Bk w g5 30 (jobC X (.slice oa n oc))
  r5 : Rg w w.heap.size oa X.sh
  il : Is w w.heap.size la l
  ck : K.check = 0
  na : Nar K X
  hn : n = K.sh.length
  l12 : ∀ x ∈ l, x = 1 ∨ x = 2
  l4 : l.length ≤ 4
section
variable {w0 w w' : World} {g4 g5 : Nat} {K X : Jb} {a oa la : Option Addr} {n c oc : Nat} {l : List Int}
theorem BW.next (h : BW w0 g4 g5 K X a n c oa oc la l w) (hb : Below w.heap.size w w') : BW w0 g4 g5 K X a n c oa oc la l w' :=
  ⟨h.b0.trans (hb.mono h.b0.size), h.j4.below hb h.j4.lt, h.r4.up hb, h.j5.below hb h.j5.lt, h.r5.up hb, h.il.up hb, h.ck, h.na, h.hn, h.l12, h.l4⟩
theorem BW.nm (h : BW w0 g4 g5 K X a n c oa oc la l w) : n ≤ 9223372036854775807 := by have h4 := (check_full h.ck).len; have := h.hn; omega
theorem BW.hn5 (h : BW w0 g4 g5 K X a n c oa oc la l w) : n = X.sh.length := by rw [h.hn, h.na.sh.len]
theorem BW.ck5 (h : BW w0 g4 g5 K X a n c oa oc la l w) : X.check = 0 := (nar_full (check_full h.ck) h.na).check
theorem BW.up5 (h : BW w0 g4 g5 K X a n c oa oc la l w) : ∀ s ∈ X.sh, s.1 ≤ s.2 := fun s hs => ((nar_full (check_full h.ck) h.na).sh s hs).2.1
theorem BW.fl (h : BW w0 g4 g5 K X a n c oa oc la l w) : filedE K l = 0 := by
  unfold filedE strokesE
  rw [if_pos h.ck, if_neg (by have := h.l4; omega)]
  exact kindE_12 l h.l12
theorem BW.fl5 (h : BW w0 g4 g5 K X a n c oa oc la l w) : filedE X l = 0 := by
  unfold filedE strokesE
  rw [if_pos h.ck5, if_neg (by have := h.l4; omega)]
  exact kindE_12 l h.l12
end
set_option maxHeartbeats 1000000 in
set_option maxRecDepth 1000000 in
theorem be_s1 {w : World} {Q : Exit → Act → World → Prop} {sa ta : Option Addr} {sn sc tn tc : Nat} {ev fv ge he gn hn : Int} {u0 u1 u2 u3 u4 u5 u6 u7 u8 A0 A2 A4 Aa Ab Ac Ad Ae Af Ag Ah Ai Aj Ak Al Am An Ao Ap Aq Ar As At Au Av Aw Ax Ay Az C0 C1 C2 C3 C4 C5 C6 C7 C8 C9 Ca Cb Cc Cd Ce Cf Cg Ch Ci Cj Ck Cl Cm Cn Co Cp Cq Cr Cs Ct Cu Cv Cw Cx Cy Cz D0 D1 D2 D3 D4 D5 D6 D7 D8 D9 Da Db Dc Dd De Df Dg Dh Di Dj Dk Dl Dm Dn Do Dp Dq Dr Ds Dt Du Dv Dw Dx Dy Dz E0 E1 E2 E3 E4 E5 E6 E7 E8 E9 Ea Eb Ec Ed Ee Ef Eg Eh Ei Ej Ek El Em En Eo Ep Eq Er Es Et Eu Ev Ew Ex Ey Ez F0 F1 F2 F3 F4 F5 F6 F7 F8 F9 Fa Fb Fc Fd Fe Ff Fg Fh Fi Fj Fk Fl Fm Fn Fo Fp Fq Fr Fs Ft Fu Fv Fw Fx Fy Fz L0 L1 L2 L3 L4 L5 L6 L7 L8 L9 La Lb Lc Ld Le Lf Lg Lh Li Lj Lk Ll Lm Ln Lo Lp Lq Lr Ls Lt Lu Lv Lw Lx Ly Lz M0 M1 M2 M3 M4 M5 M6 M7 M8 M9 Ma Mb Mc Md Me Mf Mg Mh Mi Mj Mk Ml Mm Mn Mo Mp Mq Mr Ms Mt Mu Mv Mw Mx My Mz N0 : Value} (hA : (ev ≠ 0 ∨ (fv = 0 ∧ tn ≤ sn)) ∧ (fv = 0 ∨ fv = 11)) (hK : ∀ (u0 u1 u2 u3 u4 u5 u6 u7 u8 A0 A2 A4 Aa Ab Ac Ad Ae Af Ag Ah Ai Aj Ak Al Am An Ao Ap Aq Ar As At Au Av Aw Ax Ay Az C0 C1 C2 C3 C4 C5 C6 C7 C8 C9 Ca Cb Cc Cd Ce Cf Cg Ch Ci Cj Ck Cl Cm Cn Co Cp Cq Cr Cs Ct Cu Cv Cw Cx Cy Cz D0 D1 D2 D3 D4 D5 D6 D7 D8 D9 Da Db Dc Dd De Df Dg Dh Di Dj Dk Dl Dm Dn Do Dp Dq Dr Ds Dt Du Dv Dw Dx Dy Dz E0 E1 E2 E3 E4 E5 E6 E7 E8 E9 Ea Eb Ec Ed Ee Ef Eg Eh Ei Ej Ek El Em En Eo Ep Eq Er Es Et Eu Ev Ew Ex Ey Ez F0 F1 F2 F3 F4 F5 F6 F7 F8 F9 Fa Fb Fc Fd Fe Ff Fg Fh Fi Fj Fk Fl Fm Fn Fo Fp Fq Fr Fs Ft Fu Fv Fw Fx Fy Fz L0 L1 L2 L3 L4 L5 L6 L7 L8 L9 La Lb Lc Ld Le Lf Lg Lh Li Lj Lk Ll Lm Ln Lo Lp Lq Lr Ls Lt Lu Lv Lw Lx Ly Lz M0 M1 M2 M3 M4 M6 M7 M8 M9 Ma Mb Mc Md Me Mf Mg Mh Mi Mj Mk Ml Mm Mn Mo Mp Mq Mr Ms Mt Mu Mv Mw Mx My Mz N0 : Value), wpOps Try.prog beo Q [14, 15, 16, 17, 18, 19, 20, 21, 22, 23, 24, 25, 26, 27, 28, 29, 30, 31, 32, 33, 34, 35, 36, 37, 38, 39, 40, 41, 42, 43, 44, 45] ⟨#[u0, u1, u2, u3, u4, u5, u6, u7, u8, (.int .i64 ev), A0, (.int .i64 fv), A2, (.int .i64 ge), A4, (.int .i64 he), (.slice sa sn sc), (.slice ta tn tc), (.int .i64 gn), (.int .i64 hn), Aa, Ab, Ac, Ad, Ae, Af, Ag, Ah, Ai, Aj, Ak, Al, Am, An, Ao, Ap, Aq, Ar, As, At, Au, Av, Aw, Ax, Ay, Az, C0, C1, C2, C3, C4, C5, C6, C7, C8, C9, Ca, Cb, Cc, Cd, Ce, Cf, Cg, Ch, Ci, Cj, Ck, Cl, Cm, Cn, Co, Cp, Cq, Cr, Cs, Ct, Cu, Cv, Cw, Cx, Cy, Cz, D0, D1, D2, D3, D4, D5, D6, D7, D8, D9, Da, Db, Dc, Dd, De, Df, Dg, Dh, Di, Dj, Dk, Dl, Dm, Dn, Do, Dp, Dq, Dr, Ds, Dt, Du, Dv, Dw, Dx, Dy, Dz, E0, E1, E2, E3, E4, E5, E6, E7, E8, E9, Ea, Eb, Ec, Ed, Ee, Ef, Eg, Eh, Ei, Ej, Ek, El, Em, En, Eo, Ep, Eq, Er, Es, Et, Eu, Ev, Ew, Ex, Ey, Ez, F0, F1, F2, F3, F4, F5, F6, F7, F8, F9, Fa, Fb, Fc, Fd, Fe, Ff, Fg, Fh, Fi, Fj, Fk, Fl, Fm, Fn, Fo, Fp, Fq, Fr, Fs, Ft, Fu, Fv, Fw, Fx, Fy, Fz, L0, L1, L2, L3, L4, L5, L6, L7, L8, L9, La, Lb, Lc, Ld, Le, Lf, Lg, Lh, Li, Lj, Lk, Ll, Lm, Ln, Lo, Lp, Lq, Lr, Ls, Lt, Lu, Lv, Lw, Lx, Ly, Lz, M0, M1, M2, M3, M4, (.bool true), M6, M7, M8, M9, Ma, Mb, Mc, Md, Me, Mf, Mg, Mh, Mi, Mj, Mk, Ml, Mm, Mn, Mo, Mp, Mq, Mr, Ms, Mt, Mu, Mv, Mw, Mx, My, Mz, N0], []⟩ w) : wpOps Try.prog beo Q [0, 1, 2, 3, 4, 5, 6, 7, 8, 9, 10, 11, 12, 13, 14, 15, 16, 17, 18, 19, 20, 21, 22, 23, 24, 25, 26, 27, 28, 29, 30, 31, 32, 33, 34, 35, 36, 37, 38, 39, 40, 41, 42, 43, 44, 45] ⟨#[u0, u1, u2, u3, u4, u5, u6, u7, u8, (.int .i64 ev), A0, (.int .i64 fv), A2, (.int .i64 ge), A4, (.int .i64 he), (.slice sa sn sc), (.slice ta tn tc), (.int .i64 gn), (.int .i64 hn), Aa, Ab, Ac, Ad, Ae, Af, Ag, Ah, Ai, Aj, Ak, Al, Am, An, Ao, Ap, Aq, Ar, As, At, Au, Av, Aw, Ax, Ay, Az, C0, C1, C2, C3, C4, C5, C6, C7, C8, C9, Ca, Cb, Cc, Cd, Ce, Cf, Cg, Ch, Ci, Cj, Ck, Cl, Cm, Cn, Co, Cp, Cq, Cr, Cs, Ct, Cu, Cv, Cw, Cx, Cy, Cz, D0, D1, D2, D3, D4, D5, D6, D7, D8, D9, Da, Db, Dc, Dd, De, Df, Dg, Dh, Di, Dj, Dk, Dl, Dm, Dn, Do, Dp, Dq, Dr, Ds, Dt, Du, Dv, Dw, Dx, Dy, Dz, E0, E1, E2, E3, E4, E5, E6, E7, E8, E9, Ea, Eb, Ec, Ed, Ee, Ef, Eg, Eh, Ei, Ej, Ek, El, Em, En, Eo, Ep, Eq, Er, Es, Et, Eu, Ev, Ew, Ex, Ey, Ez, F0, F1, F2, F3, F4, F5, F6, F7, F8, F9, Fa, Fb, Fc, Fd, Fe, Ff, Fg, Fh, Fi, Fj, Fk, Fl, Fm, Fn, Fo, Fp, Fq, Fr, Fs, Ft, Fu, Fv, Fw, Fx, Fy, Fz, L0, L1, L2, L3, L4, L5, L6, L7, L8, L9, La, Lb, Lc, Ld, Le, Lf, Lg, Lh, Li, Lj, Lk, Ll, Lm, Ln, Lo, Lp, Lq, Lr, Ls, Lt, Lu, Lv, Lw, Lx, Ly, Lz, M0, M1, M2, M3, M4, M5, M6, M7, M8, M9, Ma, Mb, Mc, Md, Me, Mf, Mg, Mh, Mi, Mj, Mk, Ml, Mm, Mn, Mo, Mp, Mq, Mr, Ms, Mt, Mu, Mv, Mw, Mx, My, Mz, N0], []⟩ w := by
  by_cases e0 : ev = 0
  · have eb : (ev != 0) = false := by simp [e0]
    obtain ⟨f0, hle⟩ : fv = 0 ∧ (tn : Int) ≤ (sn : Int) := by omega
    have fb : (fv == 0) = true := by simp [f0]
    have hd : decide ((tn : Int) ≤ (sn : Int)) = true := decide_eq_true hle
    refine opsL_take (o := ⟨some 218, .move (.tmp 9), 39, "outright.go:391", #[], none⟩) (v := ?_) rfl (by rfl) ?_ ?_
    rotate_left
    · (skip; go_simp <;> with_reducible rfl)
    (try simp only [Act.put, aT, aZ, aS])
    refine opsL_take (o := ⟨some 219, .binOp .neq 39 (.tmp 218) (.const (.int .i64 0)) 39, 4, "outright.go:391", #[⟨0, .data⟩], none⟩) (v := ?_) rfl (by rfl) ?_ ?_
    rotate_left
    · (skip; go_simp <;> with_reducible rfl)
    (try simp only [Act.put, aT, aZ, aS])
    refine opsL_take (o := ⟨some 220, .move (.tmp 219), 4, "outright.go:391", #[⟨1, .data⟩], none⟩) (v := ?_) rfl (by rfl) ?_ ?_
    rotate_left
    · (skip; go_simp <;> with_reducible rfl)
    (try simp only [Act.put, aT, aZ, aS])
    refine opsL_take (o := ⟨some 221, .move (.tmp 11), 39, "outright.go:391", #[⟨2, .guard⟩], some (2, false)⟩) (v := ?_) rfl (by rfl) ?_ ?_
    rotate_left
    · (skip; go_simp <;> with_reducible rfl)
    (try simp only [Act.put, aT, aZ, aS])
    refine opsL_take (o := ⟨some 222, .binOp .eql 39 (.tmp 221) (.const (.int .i64 0)) 39, 4, "outright.go:391", #[⟨3, .data⟩, ⟨2, .guard⟩], some (2, false)⟩) (v := ?_) rfl (by rfl) ?_ ?_
    rotate_left
    · (skip; go_simp <;> with_reducible rfl)
    (try simp only [Act.put, aT, aZ, aS])
    refine opsL_take (o := ⟨some 223, .move (.tmp 222), 4, "outright.go:391", #[⟨4, .data⟩, ⟨2, .chain⟩, ⟨2, .guard⟩], some (2, false)⟩) (v := ?_) rfl (by rfl) ?_ ?_
    rotate_left
    · (skip; go_simp <;> with_reducible rfl)
    (try simp only [Act.put, aT, aZ, aS])
    refine opsL_take (o := ⟨some 224, .move (.tmp 17), 31, "outright.go:391", #[⟨5, .guard⟩], some (5, true)⟩) (v := ?_) rfl (by rfl) ?_ ?_
    rotate_left
    · (skip; go_simp <;> with_reducible rfl)
    (try simp only [Act.put, aT, aZ, aS])
    refine opsL_take (o := ⟨some 225, .call { callee := .builtin .len, args := #[.tmp 224], argTypes := #[31] }, 3, "outright.go:391", #[⟨6, .data⟩, ⟨5, .guard⟩], some (5, true)⟩) (v := ?_) rfl (by rfl) ?_ ?_
    rotate_left
    · (skip; go_simp <;> with_reducible rfl)
    (try simp only [Act.put, aT, aZ, aS])
    refine opsL_take (o := ⟨some 226, .move (.tmp 16), 31, "outright.go:391", #[⟨5, .guard⟩], some (5, true)⟩) (v := ?_) rfl (by rfl) ?_ ?_
    rotate_left
    · (skip; go_simp <;> with_reducible rfl)
    (try simp only [Act.put, aT, aZ, aS])
    refine opsL_take (o := ⟨some 227, .call { callee := .builtin .len, args := #[.tmp 226], argTypes := #[31] }, 3, "outright.go:391", #[⟨8, .data⟩, ⟨5, .guard⟩], some (5, true)⟩) (v := ?_) rfl (by rfl) ?_ ?_
    rotate_left
    · (skip; go_simp <;> with_reducible rfl)
    (try simp only [Act.put, aT, aZ, aS])
    refine opsL_take (o := ⟨some 228, .binOp .leq 3 (.tmp 225) (.tmp 227) 3, 4, "outright.go:391", #[⟨7, .data⟩, ⟨9, .data⟩, ⟨5, .guard⟩], some (5, true)⟩) (v := ?_) rfl (by rfl) ?_ ?_
    rotate_left
    · (skip; go_simp <;> with_reducible rfl)
    (try simp only [Act.put, aT, aZ, aS])
    refine opsL_take (o := ⟨some 229, .pick (.tmp 223) (.tmp 228) (.const (.bool false)), 4, "outright.go:391", #[⟨5, .data⟩, ⟨10, .data⟩, ⟨2, .guard⟩], some (2, false)⟩) (v := ?_) rfl (by rfl) ?_ ?_
    rotate_left
    · (skip; go_simp <;> with_reducible rfl)
    (try simp only [Act.put, aT, aZ, aS])
    refine opsL_take (o := ⟨some 230, .pick (.tmp 220) (.const (.bool true)) (.tmp 229), 4, "outright.go:391", #[⟨2, .data⟩, ⟨11, .data⟩], none⟩) (v := ?_) rfl (by rfl) ?_ ?_
    rotate_left
    · (skip; go_simp <;> with_reducible rfl)
    (try simp only [Act.put, aT, aZ, aS])
    refine opsL_take (o := ⟨some 231, .move (.tmp 230), 4, "outright.go:391", #[⟨12, .data⟩, ⟨5, .chain⟩], none⟩) (v := ?_) rfl (by rfl) ?_ ?_
    rotate_left
    · (skip; go_simp <;> with_reducible rfl)
    (try simp only [Act.put, aT, aZ, aS])
    apply hK
  · have eb : (ev != 0) = true := by simp [e0]
    refine opsL_take (o := ⟨some 218, .move (.tmp 9), 39, "outright.go:391", #[], none⟩) (v := ?_) rfl (by rfl) ?_ ?_
    rotate_left
    · (skip; go_simp <;> with_reducible rfl)
    (try simp only [Act.put, aT, aZ, aS])
    refine opsL_take (o := ⟨some 219, .binOp .neq 39 (.tmp 218) (.const (.int .i64 0)) 39, 4, "outright.go:391", #[⟨0, .data⟩], none⟩) (v := ?_) rfl (by rfl) ?_ ?_
    rotate_left
    · (skip; go_simp <;> with_reducible rfl)
    (try simp only [Act.put, aT, aZ, aS])
    refine opsL_take (o := ⟨some 220, .move (.tmp 219), 4, "outright.go:391", #[⟨1, .data⟩], none⟩) (v := ?_) rfl (by rfl) ?_ ?_
    rotate_left
    · (skip; go_simp <;> with_reducible rfl)
    (try simp only [Act.put, aT, aZ, aS])
    have ho : beo[3]? = some (⟨some 221, .move (.tmp 11), 39, "outright.go:391", #[⟨2, .guard⟩], some (2, false)⟩ : Oper) := rfl
    have hz := fun a rest => @opsL_skip Try.prog beo Q a w 3 rest _ ho
    refine hz _ _ ?_ ?_
    · kernel_rfl
    clear hz ho
    (try simp only [Act.put, aT, aZ, aS])
    have ho : beo[4]? = some (⟨some 222, .binOp .eql 39 (.tmp 221) (.const (.int .i64 0)) 39, 4, "outright.go:391", #[⟨3, .data⟩, ⟨2, .guard⟩], some (2, false)⟩ : Oper) := rfl
    have hz := fun a rest => @opsL_skip Try.prog beo Q a w 4 rest _ ho
    refine hz _ _ ?_ ?_
    · kernel_rfl
    clear hz ho
    (try simp only [Act.put, aT, aZ, aS])
    have ho : beo[5]? = some (⟨some 223, .move (.tmp 222), 4, "outright.go:391", #[⟨4, .data⟩, ⟨2, .chain⟩, ⟨2, .guard⟩], some (2, false)⟩ : Oper) := rfl
    have hz := fun a rest => @opsL_skip Try.prog beo Q a w 5 rest _ ho
    refine hz _ _ ?_ ?_
    · kernel_rfl
    clear hz ho
    (try simp only [Act.put, aT, aZ, aS])
    have ho : beo[6]? = some (⟨some 224, .move (.tmp 17), 31, "outright.go:391", #[⟨5, .guard⟩], some (5, true)⟩ : Oper) := rfl
    have hz := fun a rest => @opsL_skip Try.prog beo Q a w 6 rest _ ho
    refine hz _ _ ?_ ?_
    · kernel_rfl
    clear hz ho
    (try simp only [Act.put, aT, aZ, aS])
    have ho : beo[7]? = some (⟨some 225, .call { callee := .builtin .len, args := #[.tmp 224], argTypes := #[31] }, 3, "outright.go:391", #[⟨6, .data⟩, ⟨5, .guard⟩], some (5, true)⟩ : Oper) := rfl
    have hz := fun a rest => @opsL_skip Try.prog beo Q a w 7 rest _ ho
    refine hz _ _ ?_ ?_
    · kernel_rfl
    clear hz ho
    (try simp only [Act.put, aT, aZ, aS])
    have ho : beo[8]? = some (⟨some 226, .move (.tmp 16), 31, "outright.go:391", #[⟨5, .guard⟩], some (5, true)⟩ : Oper) := rfl
    have hz := fun a rest => @opsL_skip Try.prog beo Q a w 8 rest _ ho
    refine hz _ _ ?_ ?_
    · kernel_rfl
    clear hz ho
    (try simp only [Act.put, aT, aZ, aS])
    have ho : beo[9]? = some (⟨some 227, .call { callee := .builtin .len, args := #[.tmp 226], argTypes := #[31] }, 3, "outright.go:391", #[⟨8, .data⟩, ⟨5, .guard⟩], some (5, true)⟩ : Oper) := rfl
    have hz := fun a rest => @opsL_skip Try.prog beo Q a w 9 rest _ ho
    refine hz _ _ ?_ ?_
    · kernel_rfl
    clear hz ho
    (try simp only [Act.put, aT, aZ, aS])
    have ho : beo[10]? = some (⟨some 228, .binOp .leq 3 (.tmp 225) (.tmp 227) 3, 4, "outright.go:391", #[⟨7, .data⟩, ⟨9, .data⟩, ⟨5, .guard⟩], some (5, true)⟩ : Oper) := rfl
    have hz := fun a rest => @opsL_skip Try.prog beo Q a w 10 rest _ ho
    refine hz _ _ ?_ ?_
    · kernel_rfl
    clear hz ho
    (try simp only [Act.put, aT, aZ, aS])
    have ho : beo[11]? = some (⟨some 229, .pick (.tmp 223) (.tmp 228) (.const (.bool false)), 4, "outright.go:391", #[⟨5, .data⟩, ⟨10, .data⟩, ⟨2, .guard⟩], some (2, false)⟩ : Oper) := rfl
    have hz := fun a rest => @opsL_skip Try.prog beo Q a w 11 rest _ ho
    refine hz _ _ ?_ ?_
    · kernel_rfl
    clear hz ho
    (try simp only [Act.put, aT, aZ, aS])
    refine opsL_take (o := ⟨some 230, .pick (.tmp 220) (.const (.bool true)) (.tmp 229), 4, "outright.go:391", #[⟨2, .data⟩, ⟨11, .data⟩], none⟩) (v := ?_) rfl (by rfl) ?_ ?_
    rotate_left
    · (skip; go_simp <;> with_reducible rfl)
    (try simp only [Act.put, aT, aZ, aS])
    refine opsL_take (o := ⟨some 231, .move (.tmp 230), 4, "outright.go:391", #[⟨12, .data⟩, ⟨5, .chain⟩], none⟩) (v := ?_) rfl (by rfl) ?_ ?_
    rotate_left
    · (skip; go_simp <;> with_reducible rfl)
    (try simp only [Act.put, aT, aZ, aS])
    apply hK
set_option maxHeartbeats 1000000 in
set_option maxRecDepth 1000000 in
theorem be_s2 {w : World} {Q : Exit → Act → World → Prop} {sa ta : Option Addr} {sn sc tn tc : Nat} {ev fv ge he gn hn : Int} {u0 u1 u2 u3 u4 u5 u6 u7 u8 A0 A2 A4 Aa Ab Ac Ad Ae Af Ag Ah Ai Aj Ak Al Am An Ao Ap Aq Ar As At Au Av Aw Ax Ay Az C0 C1 C2 C3 C4 C5 C6 C7 C8 C9 Ca Cb Cc Cd Ce Cf Cg Ch Ci Cj Ck Cl Cm Cn Co Cp Cq Cr Cs Ct Cu Cv Cw Cx Cy Cz D0 D1 D2 D3 D4 D5 D6 D7 D8 D9 Da Db Dc Dd De Df Dg Dh Di Dj Dk Dl Dm Dn Do Dp Dq Dr Ds Dt Du Dv Dw Dx Dy Dz E0 E1 E2 E3 E4 E5 E6 E7 E8 E9 Ea Eb Ec Ed Ee Ef Eg Eh Ei Ej Ek El Em En Eo Ep Eq Er Es Et Eu Ev Ew Ex Ey Ez F0 F1 F2 F3 F4 F5 F6 F7 F8 F9 Fa Fb Fc Fd Fe Ff Fg Fh Fi Fj Fk Fl Fm Fn Fo Fp Fq Fr Fs Ft Fu Fv Fw Fx Fy Fz L0 L1 L2 L3 L4 L5 L6 L7 L8 L9 La Lb Lc Ld Le Lf Lg Lh Li Lj Lk Ll Lm Ln Lo Lp Lq Lr Ls Lt Lu Lv Lw Lx Ly Lz M0 M1 M2 M3 M4 M6 M7 M8 M9 Ma Mb Mc Md Me Mf Mg Mh Mi Mj Mk Ml Mm Mn Mo Mp Mq Mr Ms Mt Mu Mv Mw Mx My Mz N0 : Value} (hC : (ge ≠ 0 ∨ (he = 0 ∧ hn ≤ gn)) ∧ (he = 0 ∨ he = 11)) (hK : ∀ (u0 u1 u2 u3 u4 u5 u6 u7 u8 A0 A2 A4 Aa Ab Ac Ad Ae Af Ag Ah Ai Aj Ak Al Am An Ao Ap Aq Ar As At Au Av Aw Ax Ay Az C0 C1 C2 C3 C4 C5 C6 C7 C8 C9 Ca Cb Cc Cd Ce Cf Cg Ch Ci Cj Ck Cl Cm Cn Co Cp Cq Cr Cs Ct Cu Cv Cw Cx Cy Cz D0 D1 D2 D3 D4 D5 D6 D7 D8 D9 Da Db Dc Dd De Df Dg Dh Di Dj Dk Dl Dm Dn Do Dp Dq Dr Ds Dt Du Dv Dw Dx Dy Dz E0 E1 E2 E3 E4 E5 E6 E7 E8 E9 Ea Eb Ec Ed Ee Ef Eg Eh Ei Ej Ek El Em En Eo Ep Eq Er Es Et Eu Ev Ew Ex Ey Ez F0 F1 F2 F3 F4 F5 F6 F7 F8 F9 Fa Fb Fc Fd Fe Ff Fg Fh Fi Fj Fk Fl Fm Fn Fo Fp Fq Fr Fs Ft Fu Fv Fw Fx Fy Fz L0 L1 L2 L3 L4 L5 L6 L7 L8 L9 La Lb Lc Ld Le Lf Lg Lh Li Lj Lk Ll Lm Ln Lo Lp Lq Lr Ls Lt Lu Lv Lw Lx Ly Lz M0 M1 M2 M3 M4 M5 M6 M7 M8 M9 Ma Mb Mc Md Me Mf Mg Mh Mj Mk Ml Mm Mn Mo Mp Mq Mr Ms Mt Mu Mv Mw Mx My Mz N0 : Value), wpOps Try.prog beo Q [27, 28, 29, 30, 31, 32, 33, 34, 35, 36, 37, 38, 39, 40, 41, 42, 43, 44, 45] ⟨#[u0, u1, u2, u3, u4, u5, u6, u7, u8, (.int .i64 ev), A0, (.int .i64 fv), A2, (.int .i64 ge), A4, (.int .i64 he), (.slice sa sn sc), (.slice ta tn tc), (.int .i64 gn), (.int .i64 hn), Aa, Ab, Ac, Ad, Ae, Af, Ag, Ah, Ai, Aj, Ak, Al, Am, An, Ao, Ap, Aq, Ar, As, At, Au, Av, Aw, Ax, Ay, Az, C0, C1, C2, C3, C4, C5, C6, C7, C8, C9, Ca, Cb, Cc, Cd, Ce, Cf, Cg, Ch, Ci, Cj, Ck, Cl, Cm, Cn, Co, Cp, Cq, Cr, Cs, Ct, Cu, Cv, Cw, Cx, Cy, Cz, D0, D1, D2, D3, D4, D5, D6, D7, D8, D9, Da, Db, Dc, Dd, De, Df, Dg, Dh, Di, Dj, Dk, Dl, Dm, Dn, Do, Dp, Dq, Dr, Ds, Dt, Du, Dv, Dw, Dx, Dy, Dz, E0, E1, E2, E3, E4, E5, E6, E7, E8, E9, Ea, Eb, Ec, Ed, Ee, Ef, Eg, Eh, Ei, Ej, Ek, El, Em, En, Eo, Ep, Eq, Er, Es, Et, Eu, Ev, Ew, Ex, Ey, Ez, F0, F1, F2, F3, F4, F5, F6, F7, F8, F9, Fa, Fb, Fc, Fd, Fe, Ff, Fg, Fh, Fi, Fj, Fk, Fl, Fm, Fn, Fo, Fp, Fq, Fr, Fs, Ft, Fu, Fv, Fw, Fx, Fy, Fz, L0, L1, L2, L3, L4, L5, L6, L7, L8, L9, La, Lb, Lc, Ld, Le, Lf, Lg, Lh, Li, Lj, Lk, Ll, Lm, Ln, Lo, Lp, Lq, Lr, Ls, Lt, Lu, Lv, Lw, Lx, Ly, Lz, M0, M1, M2, M3, M4, M5, M6, M7, M8, M9, Ma, Mb, Mc, Md, Me, Mf, Mg, Mh, (.bool true), Mj, Mk, Ml, Mm, Mn, Mo, Mp, Mq, Mr, Ms, Mt, Mu, Mv, Mw, Mx, My, Mz, N0], []⟩ w) : wpOps Try.prog beo Q [14, 15, 16, 17, 18, 19, 20, 21, 22, 23, 24, 25, 26, 27, 28, 29, 30, 31, 32, 33, 34, 35, 36, 37, 38, 39, 40, 41, 42, 43, 44, 45] ⟨#[u0, u1, u2, u3, u4, u5, u6, u7, u8, (.int .i64 ev), A0, (.int .i64 fv), A2, (.int .i64 ge), A4, (.int .i64 he), (.slice sa sn sc), (.slice ta tn tc), (.int .i64 gn), (.int .i64 hn), Aa, Ab, Ac, Ad, Ae, Af, Ag, Ah, Ai, Aj, Ak, Al, Am, An, Ao, Ap, Aq, Ar, As, At, Au, Av, Aw, Ax, Ay, Az, C0, C1, C2, C3, C4, C5, C6, C7, C8, C9, Ca, Cb, Cc, Cd, Ce, Cf, Cg, Ch, Ci, Cj, Ck, Cl, Cm, Cn, Co, Cp, Cq, Cr, Cs, Ct, Cu, Cv, Cw, Cx, Cy, Cz, D0, D1, D2, D3, D4, D5, D6, D7, D8, D9, Da, Db, Dc, Dd, De, Df, Dg, Dh, Di, Dj, Dk, Dl, Dm, Dn, Do, Dp, Dq, Dr, Ds, Dt, Du, Dv, Dw, Dx, Dy, Dz, E0, E1, E2, E3, E4, E5, E6, E7, E8, E9, Ea, Eb, Ec, Ed, Ee, Ef, Eg, Eh, Ei, Ej, Ek, El, Em, En, Eo, Ep, Eq, Er, Es, Et, Eu, Ev, Ew, Ex, Ey, Ez, F0, F1, F2, F3, F4, F5, F6, F7, F8, F9, Fa, Fb, Fc, Fd, Fe, Ff, Fg, Fh, Fi, Fj, Fk, Fl, Fm, Fn, Fo, Fp, Fq, Fr, Fs, Ft, Fu, Fv, Fw, Fx, Fy, Fz, L0, L1, L2, L3, L4, L5, L6, L7, L8, L9, La, Lb, Lc, Ld, Le, Lf, Lg, Lh, Li, Lj, Lk, Ll, Lm, Ln, Lo, Lp, Lq, Lr, Ls, Lt, Lu, Lv, Lw, Lx, Ly, Lz, M0, M1, M2, M3, M4, (.bool true), M6, M7, M8, M9, Ma, Mb, Mc, Md, Me, Mf, Mg, Mh, Mi, Mj, Mk, Ml, Mm, Mn, Mo, Mp, Mq, Mr, Ms, Mt, Mu, Mv, Mw, Mx, My, Mz, N0], []⟩ w := by
  by_cases g0 : ge = 0
  · have gb : (ge != 0) = false := by simp [g0]
    obtain ⟨h0, hle⟩ : he = 0 ∧ hn ≤ gn := by omega
    have hb : (he == 0) = true := by simp [h0]
    have hd : decide (hn ≤ gn) = true := decide_eq_true hle
    refine opsL_take (o := ⟨some 232, .move (.tmp 13), 39, "outright.go:391", #[⟨13, .guard⟩], some (13, true)⟩) (v := ?_) rfl (by rfl) ?_ ?_
    rotate_left
    · (skip; go_simp <;> with_reducible rfl)
    (try simp only [Act.put, aT, aZ, aS])
    refine opsL_take (o := ⟨some 233, .binOp .neq 39 (.tmp 232) (.const (.int .i64 0)) 39, 4, "outright.go:391", #[⟨14, .data⟩, ⟨13, .guard⟩], some (13, true)⟩) (v := ?_) rfl (by rfl) ?_ ?_
    rotate_left
    · (skip; go_simp <;> with_reducible rfl)
    (try simp only [Act.put, aT, aZ, aS])
    refine opsL_take (o := ⟨some 234, .move (.tmp 233), 4, "outright.go:391", #[⟨15, .data⟩, ⟨13, .chain⟩, ⟨13, .guard⟩], some (13, true)⟩) (v := ?_) rfl (by rfl) ?_ ?_
    rotate_left
    · (skip; go_simp <;> with_reducible rfl)
    (try simp only [Act.put, aT, aZ, aS])
    refine opsL_take (o := ⟨some 235, .move (.tmp 15), 39, "outright.go:391", #[⟨16, .guard⟩], some (16, false)⟩) (v := ?_) rfl (by rfl) ?_ ?_
    rotate_left
    · (skip; go_simp <;> with_reducible rfl)
    (try simp only [Act.put, aT, aZ, aS])
    refine opsL_take (o := ⟨some 236, .binOp .eql 39 (.tmp 235) (.const (.int .i64 0)) 39, 4, "outright.go:391", #[⟨17, .data⟩, ⟨16, .guard⟩], some (16, false)⟩) (v := ?_) rfl (by rfl) ?_ ?_
    rotate_left
    · (skip; go_simp <;> with_reducible rfl)
    (try simp only [Act.put, aT, aZ, aS])
    refine opsL_take (o := ⟨some 237, .move (.tmp 236), 4, "outright.go:391", #[⟨18, .data⟩, ⟨16, .chain⟩, ⟨16, .guard⟩], some (16, false)⟩) (v := ?_) rfl (by rfl) ?_ ?_
    rotate_left
    · (skip; go_simp <;> with_reducible rfl)
    (try simp only [Act.put, aT, aZ, aS])
    refine opsL_take (o := ⟨some 238, .move (.tmp 19), 3, "outright.go:391", #[⟨19, .guard⟩], some (19, true)⟩) (v := ?_) rfl (by rfl) ?_ ?_
    rotate_left
    · (skip; go_simp <;> with_reducible rfl)
    (try simp only [Act.put, aT, aZ, aS])
    refine opsL_take (o := ⟨some 239, .move (.tmp 18), 3, "outright.go:391", #[⟨19, .guard⟩], some (19, true)⟩) (v := ?_) rfl (by rfl) ?_ ?_
    rotate_left
    · (skip; go_simp <;> with_reducible rfl)
    (try simp only [Act.put, aT, aZ, aS])
    refine opsL_take (o := ⟨some 240, .binOp .leq 3 (.tmp 238) (.tmp 239) 3, 4, "outright.go:391", #[⟨20, .data⟩, ⟨21, .data⟩, ⟨19, .guard⟩], some (19, true)⟩) (v := ?_) rfl (by rfl) ?_ ?_
    rotate_left
    · (skip; go_simp <;> with_reducible rfl)
    (try simp only [Act.put, aT, aZ, aS])
    refine opsL_take (o := ⟨some 241, .pick (.tmp 237) (.tmp 240) (.const (.bool false)), 4, "outright.go:391", #[⟨19, .data⟩, ⟨22, .data⟩, ⟨16, .guard⟩], some (16, false)⟩) (v := ?_) rfl (by rfl) ?_ ?_
    rotate_left
    · (skip; go_simp <;> with_reducible rfl)
    (try simp only [Act.put, aT, aZ, aS])
    refine opsL_take (o := ⟨some 242, .pick (.tmp 234) (.const (.bool true)) (.tmp 241), 4, "outright.go:391", #[⟨16, .data⟩, ⟨23, .data⟩, ⟨13, .guard⟩], some (13, true)⟩) (v := ?_) rfl (by rfl) ?_ ?_
    rotate_left
    · (skip; go_simp <;> with_reducible rfl)
    (try simp only [Act.put, aT, aZ, aS])
    refine opsL_take (o := ⟨some 243, .pick (.tmp 231) (.tmp 242) (.const (.bool false)), 4, "outright.go:391", #[⟨13, .data⟩, ⟨24, .data⟩], none⟩) (v := ?_) rfl (by rfl) ?_ ?_
    rotate_left
    · (skip; go_simp <;> with_reducible rfl)
    (try simp only [Act.put, aT, aZ, aS])
    refine opsL_take (o := ⟨some 244, .move (.tmp 243), 4, "outright.go:391", #[⟨25, .data⟩, ⟨19, .chain⟩], none⟩) (v := ?_) rfl (by rfl) ?_ ?_
    rotate_left
    · (skip; go_simp <;> with_reducible rfl)
    (try simp only [Act.put, aT, aZ, aS])
    apply hK
  · have gb : (ge != 0) = true := by simp [g0]
    refine opsL_take (o := ⟨some 232, .move (.tmp 13), 39, "outright.go:391", #[⟨13, .guard⟩], some (13, true)⟩) (v := ?_) rfl (by rfl) ?_ ?_
    rotate_left
    · (skip; go_simp <;> with_reducible rfl)
    (try simp only [Act.put, aT, aZ, aS])
    refine opsL_take (o := ⟨some 233, .binOp .neq 39 (.tmp 232) (.const (.int .i64 0)) 39, 4, "outright.go:391", #[⟨14, .data⟩, ⟨13, .guard⟩], some (13, true)⟩) (v := ?_) rfl (by rfl) ?_ ?_
    rotate_left
    · (skip; go_simp <;> with_reducible rfl)
    (try simp only [Act.put, aT, aZ, aS])
    refine opsL_take (o := ⟨some 234, .move (.tmp 233), 4, "outright.go:391", #[⟨15, .data⟩, ⟨13, .chain⟩, ⟨13, .guard⟩], some (13, true)⟩) (v := ?_) rfl (by rfl) ?_ ?_
    rotate_left
    · (skip; go_simp <;> with_reducible rfl)
    (try simp only [Act.put, aT, aZ, aS])
    have ho : beo[17]? = some (⟨some 235, .move (.tmp 15), 39, "outright.go:391", #[⟨16, .guard⟩], some (16, false)⟩ : Oper) := rfl
    have hz := fun a rest => @opsL_skip Try.prog beo Q a w 17 rest _ ho
    refine hz _ _ ?_ ?_
    · kernel_rfl
    clear hz ho
    (try simp only [Act.put, aT, aZ, aS])
    have ho : beo[18]? = some (⟨some 236, .binOp .eql 39 (.tmp 235) (.const (.int .i64 0)) 39, 4, "outright.go:391", #[⟨17, .data⟩, ⟨16, .guard⟩], some (16, false)⟩ : Oper) := rfl
    have hz := fun a rest => @opsL_skip Try.prog beo Q a w 18 rest _ ho
    refine hz _ _ ?_ ?_
    · kernel_rfl
    clear hz ho
    (try simp only [Act.put, aT, aZ, aS])
    have ho : beo[19]? = some (⟨some 237, .move (.tmp 236), 4, "outright.go:391", #[⟨18, .data⟩, ⟨16, .chain⟩, ⟨16, .guard⟩], some (16, false)⟩ : Oper) := rfl
    have hz := fun a rest => @opsL_skip Try.prog beo Q a w 19 rest _ ho
    refine hz _ _ ?_ ?_
    · kernel_rfl
    clear hz ho
    (try simp only [Act.put, aT, aZ, aS])
    have ho : beo[20]? = some (⟨some 238, .move (.tmp 19), 3, "outright.go:391", #[⟨19, .guard⟩], some (19, true)⟩ : Oper) := rfl
    have hz := fun a rest => @opsL_skip Try.prog beo Q a w 20 rest _ ho
    refine hz _ _ ?_ ?_
    · kernel_rfl
    clear hz ho
    (try simp only [Act.put, aT, aZ, aS])
    have ho : beo[21]? = some (⟨some 239, .move (.tmp 18), 3, "outright.go:391", #[⟨19, .guard⟩], some (19, true)⟩ : Oper) := rfl
    have hz := fun a rest => @opsL_skip Try.prog beo Q a w 21 rest _ ho
    refine hz _ _ ?_ ?_
    · kernel_rfl
    clear hz ho
    (try simp only [Act.put, aT, aZ, aS])
    have ho : beo[22]? = some (⟨some 240, .binOp .leq 3 (.tmp 238) (.tmp 239) 3, 4, "outright.go:391", #[⟨20, .data⟩, ⟨21, .data⟩, ⟨19, .guard⟩], some (19, true)⟩ : Oper) := rfl
    have hz := fun a rest => @opsL_skip Try.prog beo Q a w 22 rest _ ho
    refine hz _ _ ?_ ?_
    · kernel_rfl
    clear hz ho
    (try simp only [Act.put, aT, aZ, aS])
    have ho : beo[23]? = some (⟨some 241, .pick (.tmp 237) (.tmp 240) (.const (.bool false)), 4, "outright.go:391", #[⟨19, .data⟩, ⟨22, .data⟩, ⟨16, .guard⟩], some (16, false)⟩ : Oper) := rfl
    have hz := fun a rest => @opsL_skip Try.prog beo Q a w 23 rest _ ho
    refine hz _ _ ?_ ?_
    · kernel_rfl
    clear hz ho
    (try simp only [Act.put, aT, aZ, aS])
    refine opsL_take (o := ⟨some 242, .pick (.tmp 234) (.const (.bool true)) (.tmp 241), 4, "outright.go:391", #[⟨16, .data⟩, ⟨23, .data⟩, ⟨13, .guard⟩], some (13, true)⟩) (v := ?_) rfl (by rfl) ?_ ?_
    rotate_left
    · (skip; go_simp <;> with_reducible rfl)
    (try simp only [Act.put, aT, aZ, aS])
    refine opsL_take (o := ⟨some 243, .pick (.tmp 231) (.tmp 242) (.const (.bool false)), 4, "outright.go:391", #[⟨13, .data⟩, ⟨24, .data⟩], none⟩) (v := ?_) rfl (by rfl) ?_ ?_
    rotate_left
    · (skip; go_simp <;> with_reducible rfl)
    (try simp only [Act.put, aT, aZ, aS])
    refine opsL_take (o := ⟨some 244, .move (.tmp 243), 4, "outright.go:391", #[⟨25, .data⟩, ⟨19, .chain⟩], none⟩) (v := ?_) rfl (by rfl) ?_ ?_
    rotate_left
    · (skip; go_simp <;> with_reducible rfl)
    (try simp only [Act.put, aT, aZ, aS])
    apply hK
set_option maxHeartbeats 1000000 in
set_option maxRecDepth 1000000 in
theorem be_s3 {w : World} {Q : Exit → Act → World → Prop} {sa ta : Option Addr} {sn sc tn tc : Nat} {ev fv ge he gn hn : Int} {u0 u1 u2 u3 u4 u5 u6 u7 u8 A0 A2 A4 Aa Ab Ac Ad Ae Af Ag Ah Ai Aj Ak Al Am An Ao Ap Aq Ar As At Au Av Aw Ax Ay Az C0 C1 C2 C3 C4 C5 C6 C7 C8 C9 Ca Cb Cc Cd Ce Cf Cg Ch Ci Cj Ck Cl Cm Cn Co Cp Cq Cr Cs Ct Cu Cv Cw Cx Cy Cz D0 D1 D2 D3 D4 D5 D6 D7 D8 D9 Da Db Dc Dd De Df Dg Dh Di Dj Dk Dl Dm Dn Do Dp Dq Dr Ds Dt Du Dv Dw Dx Dy Dz E0 E1 E2 E3 E4 E5 E6 E7 E8 E9 Ea Eb Ec Ed Ee Ef Eg Eh Ei Ej Ek El Em En Eo Ep Eq Er Es Et Eu Ev Ew Ex Ey Ez F0 F1 F2 F3 F4 F5 F6 F7 F8 F9 Fa Fb Fc Fd Fe Ff Fg Fh Fi Fj Fk Fl Fm Fn Fo Fp Fq Fr Fs Ft Fu Fv Fw Fx Fy Fz L0 L1 L2 L3 L4 L5 L6 L7 L8 L9 La Lb Lc Ld Le Lf Lg Lh Li Lj Lk Ll Lm Ln Lo Lp Lq Lr Ls Lt Lu Lv Lw Lx Ly Lz M0 M1 M2 M3 M4 M5 M6 M7 M8 M9 Ma Mb Mc Md Me Mf Mg Mh Mj Mk Ml Mm Mn Mo Mp Mq Mr Ms Mt Mu Mv Mw Mx My Mz N0 : Value} (hB : fv = 0 ∨ fv = 11) (hK : ∀ (u0 u1 u2 u3 u4 u5 u6 u7 u8 A0 A2 A4 Aa Ab Ac Ad Ae Af Ag Ah Ai Aj Ak Al Am An Ao Ap Aq Ar As At Au Av Aw Ax Ay Az C0 C1 C2 C3 C4 C5 C6 C7 C8 C9 Ca Cb Cc Cd Ce Cf Cg Ch Ci Cj Ck Cl Cm Cn Co Cp Cq Cr Cs Ct Cu Cv Cw Cx Cy Cz D0 D1 D2 D3 D4 D5 D6 D7 D8 D9 Da Db Dc Dd De Df Dg Dh Di Dj Dk Dl Dm Dn Do Dp Dq Dr Ds Dt Du Dv Dw Dx Dy Dz E0 E1 E2 E3 E4 E5 E6 E7 E8 E9 Ea Eb Ec Ed Ee Ef Eg Eh Ei Ej Ek El Em En Eo Ep Eq Er Es Et Eu Ev Ew Ex Ey Ez F0 F1 F2 F3 F4 F5 F6 F7 F8 F9 Fa Fb Fc Fd Fe Ff Fg Fh Fi Fj Fk Fl Fm Fn Fo Fp Fq Fr Fs Ft Fu Fv Fw Fx Fy Fz L0 L1 L2 L3 L4 L5 L6 L7 L8 L9 La Lb Lc Ld Le Lf Lg Lh Li Lj Lk Ll Lm Ln Lo Lp Lq Lr Ls Lt Lu Lv Lw Lx Ly Lz M0 M1 M2 M3 M4 M5 M6 M7 M8 M9 Ma Mb Mc Md Me Mf Mg Mh Mi Mj Mk Ml Mm Mn Mo Mp Mr Ms Mt Mu Mv Mw Mx My Mz N0 : Value), wpOps Try.prog beo Q [35, 36, 37, 38, 39, 40, 41, 42, 43, 44, 45] ⟨#[u0, u1, u2, u3, u4, u5, u6, u7, u8, (.int .i64 ev), A0, (.int .i64 fv), A2, (.int .i64 ge), A4, (.int .i64 he), (.slice sa sn sc), (.slice ta tn tc), (.int .i64 gn), (.int .i64 hn), Aa, Ab, Ac, Ad, Ae, Af, Ag, Ah, Ai, Aj, Ak, Al, Am, An, Ao, Ap, Aq, Ar, As, At, Au, Av, Aw, Ax, Ay, Az, C0, C1, C2, C3, C4, C5, C6, C7, C8, C9, Ca, Cb, Cc, Cd, Ce, Cf, Cg, Ch, Ci, Cj, Ck, Cl, Cm, Cn, Co, Cp, Cq, Cr, Cs, Ct, Cu, Cv, Cw, Cx, Cy, Cz, D0, D1, D2, D3, D4, D5, D6, D7, D8, D9, Da, Db, Dc, Dd, De, Df, Dg, Dh, Di, Dj, Dk, Dl, Dm, Dn, Do, Dp, Dq, Dr, Ds, Dt, Du, Dv, Dw, Dx, Dy, Dz, E0, E1, E2, E3, E4, E5, E6, E7, E8, E9, Ea, Eb, Ec, Ed, Ee, Ef, Eg, Eh, Ei, Ej, Ek, El, Em, En, Eo, Ep, Eq, Er, Es, Et, Eu, Ev, Ew, Ex, Ey, Ez, F0, F1, F2, F3, F4, F5, F6, F7, F8, F9, Fa, Fb, Fc, Fd, Fe, Ff, Fg, Fh, Fi, Fj, Fk, Fl, Fm, Fn, Fo, Fp, Fq, Fr, Fs, Ft, Fu, Fv, Fw, Fx, Fy, Fz, L0, L1, L2, L3, L4, L5, L6, L7, L8, L9, La, Lb, Lc, Ld, Le, Lf, Lg, Lh, Li, Lj, Lk, Ll, Lm, Ln, Lo, Lp, Lq, Lr, Ls, Lt, Lu, Lv, Lw, Lx, Ly, Lz, M0, M1, M2, M3, M4, M5, M6, M7, M8, M9, Ma, Mb, Mc, Md, Me, Mf, Mg, Mh, Mi, Mj, Mk, Ml, Mm, Mn, Mo, Mp, (.bool true), Mr, Ms, Mt, Mu, Mv, Mw, Mx, My, Mz, N0], []⟩ w) : wpOps Try.prog beo Q [27, 28, 29, 30, 31, 32, 33, 34, 35, 36, 37, 38, 39, 40, 41, 42, 43, 44, 45] ⟨#[u0, u1, u2, u3, u4, u5, u6, u7, u8, (.int .i64 ev), A0, (.int .i64 fv), A2, (.int .i64 ge), A4, (.int .i64 he), (.slice sa sn sc), (.slice ta tn tc), (.int .i64 gn), (.int .i64 hn), Aa, Ab, Ac, Ad, Ae, Af, Ag, Ah, Ai, Aj, Ak, Al, Am, An, Ao, Ap, Aq, Ar, As, At, Au, Av, Aw, Ax, Ay, Az, C0, C1, C2, C3, C4, C5, C6, C7, C8, C9, Ca, Cb, Cc, Cd, Ce, Cf, Cg, Ch, Ci, Cj, Ck, Cl, Cm, Cn, Co, Cp, Cq, Cr, Cs, Ct, Cu, Cv, Cw, Cx, Cy, Cz, D0, D1, D2, D3, D4, D5, D6, D7, D8, D9, Da, Db, Dc, Dd, De, Df, Dg, Dh, Di, Dj, Dk, Dl, Dm, Dn, Do, Dp, Dq, Dr, Ds, Dt, Du, Dv, Dw, Dx, Dy, Dz, E0, E1, E2, E3, E4, E5, E6, E7, E8, E9, Ea, Eb, Ec, Ed, Ee, Ef, Eg, Eh, Ei, Ej, Ek, El, Em, En, Eo, Ep, Eq, Er, Es, Et, Eu, Ev, Ew, Ex, Ey, Ez, F0, F1, F2, F3, F4, F5, F6, F7, F8, F9, Fa, Fb, Fc, Fd, Fe, Ff, Fg, Fh, Fi, Fj, Fk, Fl, Fm, Fn, Fo, Fp, Fq, Fr, Fs, Ft, Fu, Fv, Fw, Fx, Fy, Fz, L0, L1, L2, L3, L4, L5, L6, L7, L8, L9, La, Lb, Lc, Ld, Le, Lf, Lg, Lh, Li, Lj, Lk, Ll, Lm, Ln, Lo, Lp, Lq, Lr, Ls, Lt, Lu, Lv, Lw, Lx, Ly, Lz, M0, M1, M2, M3, M4, M5, M6, M7, M8, M9, Ma, Mb, Mc, Md, Me, Mf, Mg, Mh, (.bool true), Mj, Mk, Ml, Mm, Mn, Mo, Mp, Mq, Mr, Ms, Mt, Mu, Mv, Mw, Mx, My, Mz, N0], []⟩ w := by
  rcases hB with h | h
  · have fb : (fv == 0) = true := by simp [h]
    refine opsL_take (o := ⟨some 245, .move (.tmp 11), 39, "outright.go:391", #[⟨26, .guard⟩], some (26, true)⟩) (v := ?_) rfl (by rfl) ?_ ?_
    rotate_left
    · (skip; go_simp <;> with_reducible rfl)
    (try simp only [Act.put, aT, aZ, aS])
    refine opsL_take (o := ⟨some 246, .binOp .eql 39 (.tmp 245) (.const (.int .i64 0)) 39, 4, "outright.go:391", #[⟨27, .data⟩, ⟨26, .guard⟩], some (26, true)⟩) (v := ?_) rfl (by rfl) ?_ ?_
    rotate_left
    · (skip; go_simp <;> with_reducible rfl)
    (try simp only [Act.put, aT, aZ, aS])
    refine opsL_take (o := ⟨some 247, .move (.tmp 246), 4, "outright.go:391", #[⟨28, .data⟩, ⟨26, .chain⟩, ⟨26, .guard⟩], some (26, true)⟩) (v := ?_) rfl (by rfl) ?_ ?_
    rotate_left
    · (skip; go_simp <;> with_reducible rfl)
    (try simp only [Act.put, aT, aZ, aS])
    have ho : beo[30]? = some (⟨some 248, .move (.tmp 11), 39, "outright.go:391", #[⟨29, .guard⟩], some (29, false)⟩ : Oper) := rfl
    have hz := fun a rest => @opsL_skip Try.prog beo Q a w 30 rest _ ho
    refine hz _ _ ?_ ?_
    · kernel_rfl
    clear hz ho
    (try simp only [Act.put, aT, aZ, aS])
    have ho : beo[31]? = some (⟨some 249, .binOp .eql 39 (.tmp 248) (.const (.int .i64 11)) 39, 4, "outright.go:391", #[⟨30, .data⟩, ⟨29, .guard⟩], some (29, false)⟩ : Oper) := rfl
    have hz := fun a rest => @opsL_skip Try.prog beo Q a w 31 rest _ ho
    refine hz _ _ ?_ ?_
    · kernel_rfl
    clear hz ho
    (try simp only [Act.put, aT, aZ, aS])
    refine opsL_take (o := ⟨some 250, .pick (.tmp 247) (.const (.bool true)) (.tmp 249), 4, "outright.go:391", #[⟨29, .data⟩, ⟨31, .data⟩, ⟨26, .guard⟩], some (26, true)⟩) (v := ?_) rfl (by rfl) ?_ ?_
    rotate_left
    · (skip; go_simp <;> with_reducible rfl)
    (try simp only [Act.put, aT, aZ, aS])
    refine opsL_take (o := ⟨some 251, .pick (.tmp 244) (.tmp 250) (.const (.bool false)), 4, "outright.go:391", #[⟨26, .data⟩, ⟨32, .data⟩], none⟩) (v := ?_) rfl (by rfl) ?_ ?_
    rotate_left
    · (skip; go_simp <;> with_reducible rfl)
    (try simp only [Act.put, aT, aZ, aS])
    refine opsL_take (o := ⟨some 252, .move (.tmp 251), 4, "outright.go:391", #[⟨33, .data⟩, ⟨29, .chain⟩], none⟩) (v := ?_) rfl (by rfl) ?_ ?_
    rotate_left
    · (skip; go_simp <;> with_reducible rfl)
    (try simp only [Act.put, aT, aZ, aS])
    apply hK
  · have fb : (fv == 0) = false := by simp [h]
    have fb2 : (fv == 11) = true := by simp [h]
    refine opsL_take (o := ⟨some 245, .move (.tmp 11), 39, "outright.go:391", #[⟨26, .guard⟩], some (26, true)⟩) (v := ?_) rfl (by rfl) ?_ ?_
    rotate_left
    · (skip; go_simp <;> with_reducible rfl)
    (try simp only [Act.put, aT, aZ, aS])
    refine opsL_take (o := ⟨some 246, .binOp .eql 39 (.tmp 245) (.const (.int .i64 0)) 39, 4, "outright.go:391", #[⟨27, .data⟩, ⟨26, .guard⟩], some (26, true)⟩) (v := ?_) rfl (by rfl) ?_ ?_
    rotate_left
    · (skip; go_simp <;> with_reducible rfl)
    (try simp only [Act.put, aT, aZ, aS])
    refine opsL_take (o := ⟨some 247, .move (.tmp 246), 4, "outright.go:391", #[⟨28, .data⟩, ⟨26, .chain⟩, ⟨26, .guard⟩], some (26, true)⟩) (v := ?_) rfl (by rfl) ?_ ?_
    rotate_left
    · (skip; go_simp <;> with_reducible rfl)
    (try simp only [Act.put, aT, aZ, aS])
    refine opsL_take (o := ⟨some 248, .move (.tmp 11), 39, "outright.go:391", #[⟨29, .guard⟩], some (29, false)⟩) (v := ?_) rfl (by rfl) ?_ ?_
    rotate_left
    · (skip; go_simp <;> with_reducible rfl)
    (try simp only [Act.put, aT, aZ, aS])
    refine opsL_take (o := ⟨some 249, .binOp .eql 39 (.tmp 248) (.const (.int .i64 11)) 39, 4, "outright.go:391", #[⟨30, .data⟩, ⟨29, .guard⟩], some (29, false)⟩) (v := ?_) rfl (by rfl) ?_ ?_
    rotate_left
    · (skip; go_simp <;> with_reducible rfl)
    (try simp only [Act.put, aT, aZ, aS])
    refine opsL_take (o := ⟨some 250, .pick (.tmp 247) (.const (.bool true)) (.tmp 249), 4, "outright.go:391", #[⟨29, .data⟩, ⟨31, .data⟩, ⟨26, .guard⟩], some (26, true)⟩) (v := ?_) rfl (by rfl) ?_ ?_
    rotate_left
    · (skip; go_simp <;> with_reducible rfl)
    (try simp only [Act.put, aT, aZ, aS])
    refine opsL_take (o := ⟨some 251, .pick (.tmp 244) (.tmp 250) (.const (.bool false)), 4, "outright.go:391", #[⟨26, .data⟩, ⟨32, .data⟩], none⟩) (v := ?_) rfl (by rfl) ?_ ?_
    rotate_left
    · (skip; go_simp <;> with_reducible rfl)
    (try simp only [Act.put, aT, aZ, aS])
    refine opsL_take (o := ⟨some 252, .move (.tmp 251), 4, "outright.go:391", #[⟨33, .data⟩, ⟨29, .chain⟩], none⟩) (v := ?_) rfl (by rfl) ?_ ?_
    rotate_left
    · (skip; go_simp <;> with_reducible rfl)
    (try simp only [Act.put, aT, aZ, aS])
    apply hK
set_option maxHeartbeats 1000000 in
set_option maxRecDepth 1000000 in
theorem be_s4 {w : World} {Q : Exit → Act → World → Prop} {sa ta : Option Addr} {sn sc tn tc : Nat} {ev fv ge he gn hn : Int} {u0 u1 u2 u3 u4 u5 u6 u7 u8 A0 A2 A4 Aa Ab Ac Ad Ae Af Ag Ah Ai Aj Ak Al Am An Ao Ap Aq Ar As At Au Av Aw Ax Ay Az C0 C1 C2 C3 C4 C5 C6 C7 C8 C9 Ca Cb Cc Cd Ce Cf Cg Ch Ci Cj Ck Cl Cm Cn Co Cp Cq Cr Cs Ct Cu Cv Cw Cx Cy Cz D0 D1 D2 D3 D4 D5 D6 D7 D8 D9 Da Db Dc Dd De Df Dg Dh Di Dj Dk Dl Dm Dn Do Dp Dq Dr Ds Dt Du Dv Dw Dx Dy Dz E0 E1 E2 E3 E4 E5 E6 E7 E8 E9 Ea Eb Ec Ed Ee Ef Eg Eh Ei Ej Ek El Em En Eo Ep Eq Er Es Et Eu Ev Ew Ex Ey Ez F0 F1 F2 F3 F4 F5 F6 F7 F8 F9 Fa Fb Fc Fd Fe Ff Fg Fh Fi Fj Fk Fl Fm Fn Fo Fp Fq Fr Fs Ft Fu Fv Fw Fx Fy Fz L0 L1 L2 L3 L4 L5 L6 L7 L8 L9 La Lb Lc Ld Le Lf Lg Lh Li Lj Lk Ll Lm Ln Lo Lp Lq Lr Ls Lt Lu Lv Lw Lx Ly Lz M0 M1 M2 M3 M4 M5 M6 M7 M8 M9 Ma Mb Mc Md Me Mf Mg Mh Mi Mj Mk Ml Mm Mn Mo Mp Mr Ms Mt Mu Mv Mw Mx My Mz N0 : Value} (hB : he = 0 ∨ he = 11) (hK : ∀ (u0 u1 u2 u3 u4 u5 u6 u7 u8 A0 A2 A4 Aa Ab Ac Ad Ae Af Ag Ah Ai Aj Ak Al Am An Ao Ap Aq Ar As At Au Av Aw Ax Ay Az C0 C1 C2 C3 C4 C5 C6 C7 C8 C9 Ca Cb Cc Cd Ce Cf Cg Ch Ci Cj Ck Cl Cm Cn Co Cp Cq Cr Cs Ct Cu Cv Cw Cx Cy Cz D0 D1 D2 D3 D4 D5 D6 D7 D8 D9 Da Db Dc Dd De Df Dg Dh Di Dj Dk Dl Dm Dn Do Dp Dq Dr Ds Dt Du Dv Dw Dx Dy Dz E0 E1 E2 E3 E4 E5 E6 E7 E8 E9 Ea Eb Ec Ed Ee Ef Eg Eh Ei Ej Ek El Em En Eo Ep Eq Er Es Et Eu Ev Ew Ex Ey Ez F0 F1 F2 F3 F4 F5 F6 F7 F8 F9 Fa Fb Fc Fd Fe Ff Fg Fh Fi Fj Fk Fl Fm Fn Fo Fp Fq Fr Fs Ft Fu Fv Fw Fx Fy Fz L0 L1 L2 L3 L4 L5 L6 L7 L8 L9 La Lb Lc Ld Le Lf Lg Lh Li Lj Lk Ll Lm Ln Lo Lp Lq Lr Ls Lt Lu Lv Lw Lx Ly Lz M0 M1 M2 M3 M4 M5 M6 M7 M8 M9 Ma Mb Mc Md Me Mf Mg Mh Mi Mj Mk Ml Mm Mn Mo Mp Mq Mr Ms Mt Mu Mv Mw Mx Mz N0 : Value), wpOps Try.prog beo Q [43, 44, 45] ⟨#[u0, u1, u2, u3, u4, u5, u6, u7, u8, (.int .i64 ev), A0, (.int .i64 fv), A2, (.int .i64 ge), A4, (.int .i64 he), (.slice sa sn sc), (.slice ta tn tc), (.int .i64 gn), (.int .i64 hn), Aa, Ab, Ac, Ad, Ae, Af, Ag, Ah, Ai, Aj, Ak, Al, Am, An, Ao, Ap, Aq, Ar, As, At, Au, Av, Aw, Ax, Ay, Az, C0, C1, C2, C3, C4, C5, C6, C7, C8, C9, Ca, Cb, Cc, Cd, Ce, Cf, Cg, Ch, Ci, Cj, Ck, Cl, Cm, Cn, Co, Cp, Cq, Cr, Cs, Ct, Cu, Cv, Cw, Cx, Cy, Cz, D0, D1, D2, D3, D4, D5, D6, D7, D8, D9, Da, Db, Dc, Dd, De, Df, Dg, Dh, Di, Dj, Dk, Dl, Dm, Dn, Do, Dp, Dq, Dr, Ds, Dt, Du, Dv, Dw, Dx, Dy, Dz, E0, E1, E2, E3, E4, E5, E6, E7, E8, E9, Ea, Eb, Ec, Ed, Ee, Ef, Eg, Eh, Ei, Ej, Ek, El, Em, En, Eo, Ep, Eq, Er, Es, Et, Eu, Ev, Ew, Ex, Ey, Ez, F0, F1, F2, F3, F4, F5, F6, F7, F8, F9, Fa, Fb, Fc, Fd, Fe, Ff, Fg, Fh, Fi, Fj, Fk, Fl, Fm, Fn, Fo, Fp, Fq, Fr, Fs, Ft, Fu, Fv, Fw, Fx, Fy, Fz, L0, L1, L2, L3, L4, L5, L6, L7, L8, L9, La, Lb, Lc, Ld, Le, Lf, Lg, Lh, Li, Lj, Lk, Ll, Lm, Ln, Lo, Lp, Lq, Lr, Ls, Lt, Lu, Lv, Lw, Lx, Ly, Lz, M0, M1, M2, M3, M4, M5, M6, M7, M8, M9, Ma, Mb, Mc, Md, Me, Mf, Mg, Mh, Mi, Mj, Mk, Ml, Mm, Mn, Mo, Mp, Mq, Mr, Ms, Mt, Mu, Mv, Mw, Mx, (.bool true), Mz, N0], []⟩ w) : wpOps Try.prog beo Q [35, 36, 37, 38, 39, 40, 41, 42, 43, 44, 45] ⟨#[u0, u1, u2, u3, u4, u5, u6, u7, u8, (.int .i64 ev), A0, (.int .i64 fv), A2, (.int .i64 ge), A4, (.int .i64 he), (.slice sa sn sc), (.slice ta tn tc), (.int .i64 gn), (.int .i64 hn), Aa, Ab, Ac, Ad, Ae, Af, Ag, Ah, Ai, Aj, Ak, Al, Am, An, Ao, Ap, Aq, Ar, As, At, Au, Av, Aw, Ax, Ay, Az, C0, C1, C2, C3, C4, C5, C6, C7, C8, C9, Ca, Cb, Cc, Cd, Ce, Cf, Cg, Ch, Ci, Cj, Ck, Cl, Cm, Cn, Co, Cp, Cq, Cr, Cs, Ct, Cu, Cv, Cw, Cx, Cy, Cz, D0, D1, D2, D3, D4, D5, D6, D7, D8, D9, Da, Db, Dc, Dd, De, Df, Dg, Dh, Di, Dj, Dk, Dl, Dm, Dn, Do, Dp, Dq, Dr, Ds, Dt, Du, Dv, Dw, Dx, Dy, Dz, E0, E1, E2, E3, E4, E5, E6, E7, E8, E9, Ea, Eb, Ec, Ed, Ee, Ef, Eg, Eh, Ei, Ej, Ek, El, Em, En, Eo, Ep, Eq, Er, Es, Et, Eu, Ev, Ew, Ex, Ey, Ez, F0, F1, F2, F3, F4, F5, F6, F7, F8, F9, Fa, Fb, Fc, Fd, Fe, Ff, Fg, Fh, Fi, Fj, Fk, Fl, Fm, Fn, Fo, Fp, Fq, Fr, Fs, Ft, Fu, Fv, Fw, Fx, Fy, Fz, L0, L1, L2, L3, L4, L5, L6, L7, L8, L9, La, Lb, Lc, Ld, Le, Lf, Lg, Lh, Li, Lj, Lk, Ll, Lm, Ln, Lo, Lp, Lq, Lr, Ls, Lt, Lu, Lv, Lw, Lx, Ly, Lz, M0, M1, M2, M3, M4, M5, M6, M7, M8, M9, Ma, Mb, Mc, Md, Me, Mf, Mg, Mh, Mi, Mj, Mk, Ml, Mm, Mn, Mo, Mp, (.bool true), Mr, Ms, Mt, Mu, Mv, Mw, Mx, My, Mz, N0], []⟩ w := by
  rcases hB with h | h
  · have fb : (he == 0) = true := by simp [h]
    refine opsL_take (o := ⟨some 253, .move (.tmp 15), 39, "outright.go:391", #[⟨34, .guard⟩], some (34, true)⟩) (v := ?_) rfl (by rfl) ?_ ?_
    rotate_left
    · (skip; go_simp <;> with_reducible rfl)
    (try simp only [Act.put, aT, aZ, aS])
    refine opsL_take (o := ⟨some 254, .binOp .eql 39 (.tmp 253) (.const (.int .i64 0)) 39, 4, "outright.go:391", #[⟨35, .data⟩, ⟨34, .guard⟩], some (34, true)⟩) (v := ?_) rfl (by rfl) ?_ ?_
    rotate_left
    · (skip; go_simp <;> with_reducible rfl)
    (try simp only [Act.put, aT, aZ, aS])
    refine opsL_take (o := ⟨some 255, .move (.tmp 254), 4, "outright.go:391", #[⟨36, .data⟩, ⟨34, .chain⟩, ⟨34, .guard⟩], some (34, true)⟩) (v := ?_) rfl (by rfl) ?_ ?_
    rotate_left
    · (skip; go_simp <;> with_reducible rfl)
    (try simp only [Act.put, aT, aZ, aS])
    have ho : beo[38]? = some (⟨some 256, .move (.tmp 15), 39, "outright.go:391", #[⟨37, .guard⟩], some (37, false)⟩ : Oper) := rfl
    have hz := fun a rest => @opsL_skip Try.prog beo Q a w 38 rest _ ho
    refine hz _ _ ?_ ?_
    · kernel_rfl
    clear hz ho
    (try simp only [Act.put, aT, aZ, aS])
    have ho : beo[39]? = some (⟨some 257, .binOp .eql 39 (.tmp 256) (.const (.int .i64 11)) 39, 4, "outright.go:391", #[⟨38, .data⟩, ⟨37, .guard⟩], some (37, false)⟩ : Oper) := rfl
    have hz := fun a rest => @opsL_skip Try.prog beo Q a w 39 rest _ ho
    refine hz _ _ ?_ ?_
    · kernel_rfl
    clear hz ho
    (try simp only [Act.put, aT, aZ, aS])
    refine opsL_take (o := ⟨some 258, .pick (.tmp 255) (.const (.bool true)) (.tmp 257), 4, "outright.go:391", #[⟨37, .data⟩, ⟨39, .data⟩, ⟨34, .guard⟩], some (34, true)⟩) (v := ?_) rfl (by rfl) ?_ ?_
    rotate_left
    · (skip; go_simp <;> with_reducible rfl)
    (try simp only [Act.put, aT, aZ, aS])
    refine opsL_take (o := ⟨some 259, .pick (.tmp 252) (.tmp 258) (.const (.bool false)), 4, "outright.go:391", #[⟨34, .data⟩, ⟨40, .data⟩], none⟩) (v := ?_) rfl (by rfl) ?_ ?_
    rotate_left
    · (skip; go_simp <;> with_reducible rfl)
    (try simp only [Act.put, aT, aZ, aS])
    refine opsL_take (o := ⟨some 260, .move (.tmp 259), 4, "outright.go:391", #[⟨41, .data⟩, ⟨37, .chain⟩], none⟩) (v := ?_) rfl (by rfl) ?_ ?_
    rotate_left
    · (skip; go_simp <;> with_reducible rfl)
    (try simp only [Act.put, aT, aZ, aS])
    apply hK
  · have fb : (he == 0) = false := by simp [h]
    have fb2 : (he == 11) = true := by simp [h]
    refine opsL_take (o := ⟨some 253, .move (.tmp 15), 39, "outright.go:391", #[⟨34, .guard⟩], some (34, true)⟩) (v := ?_) rfl (by rfl) ?_ ?_
    rotate_left
    · (skip; go_simp <;> with_reducible rfl)
    (try simp only [Act.put, aT, aZ, aS])
    refine opsL_take (o := ⟨some 254, .binOp .eql 39 (.tmp 253) (.const (.int .i64 0)) 39, 4, "outright.go:391", #[⟨35, .data⟩, ⟨34, .guard⟩], some (34, true)⟩) (v := ?_) rfl (by rfl) ?_ ?_
    rotate_left
    · (skip; go_simp <;> with_reducible rfl)
    (try simp only [Act.put, aT, aZ, aS])
    refine opsL_take (o := ⟨some 255, .move (.tmp 254), 4, "outright.go:391", #[⟨36, .data⟩, ⟨34, .chain⟩, ⟨34, .guard⟩], some (34, true)⟩) (v := ?_) rfl (by rfl) ?_ ?_
    rotate_left
    · (skip; go_simp <;> with_reducible rfl)
    (try simp only [Act.put, aT, aZ, aS])
    refine opsL_take (o := ⟨some 256, .move (.tmp 15), 39, "outright.go:391", #[⟨37, .guard⟩], some (37, false)⟩) (v := ?_) rfl (by rfl) ?_ ?_
    rotate_left
    · (skip; go_simp <;> with_reducible rfl)
    (try simp only [Act.put, aT, aZ, aS])
    refine opsL_take (o := ⟨some 257, .binOp .eql 39 (.tmp 256) (.const (.int .i64 11)) 39, 4, "outright.go:391", #[⟨38, .data⟩, ⟨37, .guard⟩], some (37, false)⟩) (v := ?_) rfl (by rfl) ?_ ?_
    rotate_left
    · (skip; go_simp <;> with_reducible rfl)
    (try simp only [Act.put, aT, aZ, aS])
    refine opsL_take (o := ⟨some 258, .pick (.tmp 255) (.const (.bool true)) (.tmp 257), 4, "outright.go:391", #[⟨37, .data⟩, ⟨39, .data⟩, ⟨34, .guard⟩], some (34, true)⟩) (v := ?_) rfl (by rfl) ?_ ?_
    rotate_left
    · (skip; go_simp <;> with_reducible rfl)
    (try simp only [Act.put, aT, aZ, aS])
    refine opsL_take (o := ⟨some 259, .pick (.tmp 252) (.tmp 258) (.const (.bool false)), 4, "outright.go:391", #[⟨34, .data⟩, ⟨40, .data⟩], none⟩) (v := ?_) rfl (by rfl) ?_ ?_
    rotate_left
    · (skip; go_simp <;> with_reducible rfl)
    (try simp only [Act.put, aT, aZ, aS])
    refine opsL_take (o := ⟨some 260, .move (.tmp 259), 4, "outright.go:391", #[⟨41, .data⟩, ⟨37, .chain⟩], none⟩) (v := ?_) rfl (by rfl) ?_ ?_
    rotate_left
    · (skip; go_simp <;> with_reducible rfl)
    (try simp only [Act.put, aT, aZ, aS])
    apply hK
set_option maxHeartbeats 4000000 in
set_option maxRecDepth 1000000 in
theorem bepart19 {w0 w : World} {g4 g5 : Nat} {K X : Jb} {a oa la : Option Addr} {n c oc lc : Nat} {l : List Int} {sa ta : Option Addr} {sn sc tn tc : Nat} {ev fv ge he gn hn : Int} {u0 u1 u2 u3 u6 u8 A0 A2 A4 Aa Ab Ac Ad Ae Af Ag Ah Ai Aj Ak Al Am An Ao Ap Aq Ar As At Au Av Aw Ax Ay Az C0 C1 C2 C3 C4 C5 C6 C7 C8 C9 Ca Cb Cc Cd Ce Cf Cg Ch Ci Cj Ck Cl Cm Cn Co Cp Cq Cr Cs Ct Cu Cv Cw Cx Cy Cz D0 D1 D2 D3 D4 D5 D6 D7 D8 D9 Da Db Dc Dd De Df Dg Dh Di Dj Dk Dl Dm Dn Do Dp Dq Dr Ds Dt Du Dv Dw Dx Dy Dz E0 E1 E2 E3 E4 E5 E6 E7 E8 E9 Ea Eb Ec Ed Ee Ef Eg Eh Ei Ej Ek El Em En Eo Ep Eq Er Es Et Eu Ev Ew Ex Ey Ez F0 F1 F2 F3 F4 F5 F6 F7 F8 F9 Fa Fb Fc Fd Fe Ff Fg Fh Fi Fj Fk Fl Fm Fn Fo Fp Fq Fr Fs Ft Fu Fv Fw Fx Fy Fz L0 L1 L2 L3 L4 L5 L6 L7 L8 L9 La Lb Lc Ld Le Lf Lg Lh Li Lj Lk Ll Lm Ln Lo Lp Lq Lr Ls Lt Lu Lv Lw Lx Ly Lz M0 M1 M2 M3 M4 M5 M6 M7 M8 M9 Ma Mb Mc Md Me Mf Mg Mh Mi Mj Mk Ml Mm Mn Mo Mp Mq Mr Ms Mt Mu Mv Mw Mx My Mz N0 : Value} (htun : TunOK) (hshort : ShortOK) (hfine : FineOK) (hs : BW w0 g4 g5 K X a n c oa oc la l w) (hA : (ev ≠ 0 ∨ (fv = 0 ∧ tn ≤ sn)) ∧ (fv = 0 ∨ fv = 11)) (hC : (ge ≠ 0 ∨ (he = 0 ∧ hn ≤ gn)) ∧ (he = 0 ∨ he = 11)) : Code.wp Try.prog berest19 (QBE w0) ⟨#[u0, u1, u2, u3, (.pointer (some ⟨g4, 0, none⟩)), (.pointer (some ⟨g5, 0, none⟩)), u6, (.slice la l.length lc), u8, (.int .i64 ev), A0, (.int .i64 fv), A2, (.int .i64 ge), A4, (.int .i64 he), (.slice sa sn sc), (.slice ta tn tc), (.int .i64 gn), (.int .i64 hn), Aa, Ab, Ac, Ad, Ae, Af, Ag, Ah, Ai, Aj, Ak, Al, Am, An, Ao, Ap, Aq, Ar, As, At, Au, Av, Aw, Ax, Ay, Az, C0, C1, C2, C3, C4, C5, C6, C7, C8, C9, Ca, Cb, Cc, Cd, Ce, Cf, Cg, Ch, Ci, Cj, Ck, Cl, Cm, Cn, Co, Cp, Cq, Cr, Cs, Ct, Cu, Cv, Cw, Cx, Cy, Cz, D0, D1, D2, D3, D4, D5, D6, D7, D8, D9, Da, Db, Dc, Dd, De, Df, Dg, Dh, Di, Dj, Dk, Dl, Dm, Dn, Do, Dp, Dq, Dr, Ds, Dt, Du, Dv, Dw, Dx, Dy, Dz, E0, E1, E2, E3, E4, E5, E6, E7, E8, E9, Ea, Eb, Ec, Ed, Ee, Ef, Eg, Eh, Ei, Ej, Ek, El, Em, En, Eo, Ep, Eq, Er, Es, Et, Eu, Ev, Ew, Ex, Ey, Ez, F0, F1, F2, F3, F4, F5, F6, F7, F8, F9, Fa, Fb, Fc, Fd, Fe, Ff, Fg, Fh, Fi, Fj, Fk, Fl, Fm, Fn, Fo, Fp, Fq, Fr, Fs, Ft, Fu, Fv, Fw, Fx, Fy, Fz, L0, L1, L2, L3, L4, L5, L6, L7, L8, L9, La, Lb, Lc, Ld, Le, Lf, Lg, Lh, Li, Lj, Lk, Ll, Lm, Ln, Lo, Lp, Lq, Lr, Ls, Lt, Lu, Lv, Lw, Lx, Ly, Lz, M0, M1, M2, M3, M4, M5, M6, M7, M8, M9, Ma, Mb, Mc, Md, Me, Mf, Mg, Mh, Mi, Mj, Mk, Ml, Mm, Mn, Mo, Mp, Mq, Mr, Ms, Mt, Mu, Mv, Mw, Mx, My, Mz, N0], []⟩ w := by
  rw [berest19_eq]
  have HS := hidMk hs
  have HT := hidMk htun
  have HSO := hidMk hshort
  have HFO := hidMk hfine
  clear hs htun hshort hfine
  have hnm := HS.out.nm
  unfold QBE
  refine wp_seq_k fun K0 hK0 => ?_
  refine wp_region_l [0, 1, 2, 3, 4, 5, 6, 7, 8, 9, 10, 11, 12, 13, 14, 15, 16, 17, 18, 19, 20, 21, 22, 23, 24, 25, 26, 27, 28, 29, 30, 31, 32, 33, 34, 35, 36, 37, 38, 39, 40, 41, 42, 43, 44, 45] (by kernel_rfl) ?_
  refine be_s1 hA ?_
  intros
  refine be_s2 hC ?_
  intros
  refine be_s3 hA.2 ?_
  intros
  refine be_s4 hC.2 ?_
  intros
  refine opsL_step (o := ⟨some 261, .call { callee := .value (.func 11), args := #[], argTypes := #[] }, 4, "outright.go:391", #[⟨42, .chain⟩, ⟨42, .guard⟩], some (42, true)⟩) rfl (fun K hK => ?_)
  rw [if_pos]
  rotate_left
  · kernel_rfl
  go_simp
  go_at_call 11
  refine (HT.out _).mono ?_
  rintro e w2 ⟨rfl, hb⟩
  have HB2 := hidMk (HS.out.b0.trans (hb.mono HS.out.b0.size))
  clear hb
  go_wp2_with fail
  refine hK.out _ _ ?_
  clear hK K
  (try simp only [Act.put, aT, aZ, aS])
  refine opsL_take (o := ⟨some 262, .pick (.tmp 260) (.tmp 261) (.const (.bool false)), 4, "outright.go:391", #[⟨42, .data⟩, ⟨43, .data⟩], none⟩) (v := ?_) rfl (by rfl) ?_ ?_
  rotate_left
  · (skip; go_simp <;> with_reducible rfl)
  (try simp only [Act.put, aT, aZ, aS])
  refine opsL_step (o := ⟨some 2, .assign (.tmp 262), 4, "outright.go:391", #[⟨44, .data⟩, ⟨43, .chain⟩, ⟨0, .phase⟩, ⟨1, .phase⟩, ⟨2, .phase⟩, ⟨3, .phase⟩, ⟨4, .phase⟩, ⟨5, .phase⟩, ⟨6, .phase⟩, ⟨7, .phase⟩, ⟨8, .phase⟩, ⟨9, .phase⟩, ⟨10, .phase⟩, ⟨11, .phase⟩, ⟨12, .phase⟩, ⟨13, .phase⟩, ⟨14, .phase⟩, ⟨15, .phase⟩, ⟨16, .phase⟩, ⟨17, .phase⟩, ⟨18, .phase⟩, ⟨19, .phase⟩, ⟨20, .phase⟩, ⟨21, .phase⟩, ⟨22, .phase⟩, ⟨23, .phase⟩, ⟨24, .phase⟩, ⟨25, .phase⟩, ⟨26, .phase⟩, ⟨27, .phase⟩, ⟨28, .phase⟩, ⟨29, .phase⟩, ⟨30, .phase⟩, ⟨31, .phase⟩, ⟨32, .phase⟩, ⟨33, .phase⟩, ⟨34, .phase⟩, ⟨35, .phase⟩, ⟨36, .phase⟩, ⟨37, .phase⟩, ⟨38, .phase⟩, ⟨39, .phase⟩, ⟨40, .phase⟩, ⟨41, .phase⟩, ⟨42, .phase⟩, ⟨43, .phase⟩, ⟨44, .phase⟩], none⟩) rfl (fun K hK => ?_)
  rw [if_pos]
  rotate_left
  · kernel_rfl
  go_simp
  refine hK.out _ _ ?_
  clear hK K
  (try simp only [Act.put, aT, aZ, aS])
  refine hK0 _ _ ?_
  refine wp_ret ?_
  go_ret
  exact ⟨rfl, HB2.out⟩
end Go.Proofs.Ytbebofmpimfbgaa
