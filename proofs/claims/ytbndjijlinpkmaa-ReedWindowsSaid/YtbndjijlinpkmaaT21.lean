/- Part 21 of the proof: WinD. -/
import Derived.Deep.WholeRow
import Derived.Test.YtbndjijlinpkmaaT20
import Derived.Test.YtbndjijlinpkmaaT12
/- The law ReedWindows: the loop. -/
namespace Go.Proofs.Ytbndjijlinpkmaa
set_option linter.all false
open Go.RowKit
noncomputable def blk1 : Code → Option Code
  | .block 1 c => some c
  | .block _ c => blk1 c
  | .seq a b => match blk1 a with
    | some c => some c
    | none => blk1 b
  | .loop c => blk1 c
  | _ => none
noncomputable def lb0 : Code := (blk1 wlrest7).getD .skip
noncomputable def lb1 : Code := sndC lb0
noncomputable def lb2 : Code := sndC lb1
noncomputable def lb3 : Code := sndC lb2
noncomputable def lb4 : Code := sndC lb3
noncomputable def lb5 : Code := sndC lb4
noncomputable def lb6 : Code := sndC lb5
noncomputable def lb7 : Code := sndC lb6
set_option maxRecDepth 1000000 in
theorem lb0_eq : lb0 = .seq (Code.region 11 #[⟨some 78, .move (.tmp 12), 37, "law.go:31", #[], none⟩, ⟨some 79, .move (.tmp 14), 3, "law.go:31", #[], none⟩, ⟨some 80, .indexAddr 37 (.tmp 78) (.tmp 79), 0, "law.go:31", #[⟨0, .data⟩, ⟨1, .data⟩], none⟩, ⟨some 81, .load 30 (.tmp 80), 30, "law.go:31", #[⟨2, .data⟩], none⟩, ⟨some 82, .call { callee := .value (.func 8), args := #[.tmp 81], argTypes := #[30] }, 30, "law.go:31", #[⟨3, .data⟩], none⟩, ⟨some 15, .alloc 30, 0, "law.go:31", #[], none⟩, ⟨none, .store 30 (.tmp 15) (.tmp 82), 0, "law.go:31", #[⟨5, .data⟩, ⟨4, .data⟩, ⟨4, .chain⟩, ⟨0, .phase⟩, ⟨1, .phase⟩, ⟨2, .phase⟩, ⟨3, .phase⟩, ⟨4, .phase⟩, ⟨5, .phase⟩], none⟩] false) lb1 := by kernel_rfl
set_option maxRecDepth 1000000 in
theorem lb1_eq : lb1 = .seq (Code.region 12 #[⟨some 84, .load 30 (.tmp 15), 30, "law.go:32", #[], none⟩, ⟨some 85, .call { callee := .value (.func 10), args := #[.tmp 84], argTypes := #[30] }, 40, "law.go:32", #[⟨0, .data⟩], none⟩, ⟨some 83, .move (.tmp 85), 40, "law.go:32", #[⟨1, .data⟩], none⟩, ⟨some 86, .extract (.tmp 83) 0, 23, "law.go:32", #[⟨2, .data⟩], none⟩, ⟨some 87, .extract (.tmp 83) 1, 39, "law.go:32", #[⟨2, .data⟩, ⟨6, .gcOnly .lateStores⟩], none⟩, ⟨some 16, .alloc 23, 0, "law.go:32", #[], none⟩, ⟨none, .store 23 (.tmp 16) (.tmp 86), 0, "law.go:32", #[⟨5, .data⟩, ⟨3, .data⟩, ⟨1, .chain⟩, ⟨0, .phase⟩, ⟨1, .phase⟩, ⟨2, .phase⟩, ⟨3, .phase⟩, ⟨4, .textOnly .lateStores⟩, ⟨5, .phase⟩], none⟩, ⟨some 17, .assign (.tmp 87), 39, "law.go:32", #[⟨4, .data⟩, ⟨6, .chain⟩, ⟨0, .phase⟩, ⟨1, .phase⟩, ⟨2, .phase⟩, ⟨3, .phase⟩, ⟨4, .phase⟩, ⟨5, .phase⟩, ⟨6, .phase⟩], none⟩] false) lb2 := by kernel_rfl
set_option maxRecDepth 1000000 in
theorem lb2_eq : lb2 = .seq (Code.region 13 #[⟨some 89, .move (.tmp 12), 37, "law.go:33", #[], none⟩, ⟨some 90, .move (.tmp 14), 3, "law.go:33", #[], none⟩, ⟨some 91, .indexAddr 37 (.tmp 89) (.tmp 90), 0, "law.go:33", #[⟨0, .data⟩, ⟨1, .data⟩], none⟩, ⟨some 92, .load 30 (.tmp 91), 30, "law.go:33", #[⟨2, .data⟩], none⟩, ⟨some 93, .call { callee := .value (.func 11), args := #[.tmp 92], argTypes := #[30] }, 40, "law.go:33", #[⟨3, .data⟩], none⟩, ⟨some 88, .move (.tmp 93), 40, "law.go:33", #[⟨4, .data⟩], none⟩, ⟨some 94, .extract (.tmp 88) 0, 23, "law.go:33", #[⟨5, .data⟩], none⟩, ⟨some 95, .extract (.tmp 88) 1, 39, "law.go:33", #[⟨5, .data⟩, ⟨9, .gcOnly .lateStores⟩], none⟩, ⟨some 18, .alloc 23, 0, "law.go:33", #[], none⟩, ⟨none, .store 23 (.tmp 18) (.tmp 94), 0, "law.go:33", #[⟨8, .data⟩, ⟨6, .data⟩, ⟨4, .chain⟩, ⟨0, .phase⟩, ⟨1, .phase⟩, ⟨2, .phase⟩, ⟨3, .phase⟩, ⟨4, .phase⟩, ⟨5, .phase⟩, ⟨6, .phase⟩, ⟨7, .textOnly .lateStores⟩, ⟨8, .phase⟩], none⟩, ⟨some 19, .assign (.tmp 95), 39, "law.go:33", #[⟨7, .data⟩, ⟨9, .chain⟩, ⟨0, .phase⟩, ⟨1, .phase⟩, ⟨2, .phase⟩, ⟨3, .phase⟩, ⟨4, .phase⟩, ⟨5, .phase⟩, ⟨6, .phase⟩, ⟨7, .phase⟩, ⟨8, .phase⟩, ⟨9, .phase⟩], none⟩] false) lb3 := by kernel_rfl
set_option maxRecDepth 1000000 in
theorem lb3_eq : lb3 = .seq (Code.region 14 #[⟨some 97, .load 30 (.tmp 15), 30, "law.go:34", #[], none⟩, ⟨some 98, .call { callee := .value (.func 12), args := #[.tmp 97], argTypes := #[30] }, 42, "law.go:34", #[⟨0, .data⟩], none⟩, ⟨some 96, .move (.tmp 98), 42, "law.go:34", #[⟨1, .data⟩], none⟩, ⟨some 99, .extract (.tmp 96) 0, 3, "law.go:34", #[⟨2, .data⟩], none⟩, ⟨some 100, .extract (.tmp 96) 1, 39, "law.go:34", #[⟨2, .data⟩, ⟨5, .gcOnly .lateStores⟩], none⟩, ⟨some 20, .assign (.tmp 99), 3, "law.go:34", #[⟨3, .data⟩, ⟨1, .chain⟩, ⟨0, .phase⟩, ⟨1, .phase⟩, ⟨2, .phase⟩, ⟨3, .phase⟩, ⟨4, .textOnly .lateStores⟩], none⟩, ⟨some 21, .assign (.tmp 100), 39, "law.go:34", #[⟨4, .data⟩, ⟨5, .chain⟩, ⟨0, .phase⟩, ⟨1, .phase⟩, ⟨2, .phase⟩, ⟨3, .phase⟩, ⟨4, .phase⟩, ⟨5, .phase⟩], none⟩] false) lb4 := by kernel_rfl
set_option maxRecDepth 1000000 in
theorem lb4_eq : lb4 = .seq (Code.region 15 #[⟨some 102, .move (.tmp 12), 37, "law.go:35", #[], none⟩, ⟨some 103, .move (.tmp 14), 3, "law.go:35", #[], none⟩, ⟨some 104, .indexAddr 37 (.tmp 102) (.tmp 103), 0, "law.go:35", #[⟨0, .data⟩, ⟨1, .data⟩], none⟩, ⟨some 105, .load 30 (.tmp 104), 30, "law.go:35", #[⟨2, .data⟩], none⟩, ⟨some 106, .call { callee := .value (.func 13), args := #[.tmp 105], argTypes := #[30] }, 42, "law.go:35", #[⟨3, .data⟩], none⟩, ⟨some 101, .move (.tmp 106), 42, "law.go:35", #[⟨4, .data⟩], none⟩, ⟨some 107, .extract (.tmp 101) 0, 3, "law.go:35", #[⟨5, .data⟩], none⟩, ⟨some 108, .extract (.tmp 101) 1, 39, "law.go:35", #[⟨5, .data⟩, ⟨8, .gcOnly .lateStores⟩], none⟩, ⟨some 22, .assign (.tmp 107), 3, "law.go:35", #[⟨6, .data⟩, ⟨4, .chain⟩, ⟨0, .phase⟩, ⟨1, .phase⟩, ⟨2, .phase⟩, ⟨3, .phase⟩, ⟨4, .phase⟩, ⟨5, .phase⟩, ⟨6, .phase⟩, ⟨7, .textOnly .lateStores⟩], none⟩, ⟨some 23, .assign (.tmp 108), 39, "law.go:35", #[⟨7, .data⟩, ⟨8, .chain⟩, ⟨0, .phase⟩, ⟨1, .phase⟩, ⟨2, .phase⟩, ⟨3, .phase⟩, ⟨4, .phase⟩, ⟨5, .phase⟩, ⟨6, .phase⟩, ⟨7, .phase⟩, ⟨8, .phase⟩], none⟩] false) lb5 := by kernel_rfl
set_option maxRecDepth 1000000 in
theorem lb5_eq : lb5 = .seq (Code.region 16 #[⟨some 110, .load 30 (.tmp 15), 30, "law.go:36", #[], none⟩, ⟨some 111, .move (.tmp 13), 31, "law.go:36", #[], none⟩, ⟨some 112, .move (.tmp 14), 3, "law.go:36", #[], none⟩, ⟨some 113, .indexAddr 31 (.tmp 111) (.tmp 112), 0, "law.go:36", #[⟨1, .data⟩, ⟨2, .data⟩], none⟩, ⟨some 114, .load 3 (.tmp 113), 3, "law.go:36", #[⟨3, .data⟩], none⟩, ⟨some 115, .call { callee := .value (.func 14), args := #[.tmp 110, .tmp 114], argTypes := #[30, 3] }, 40, "law.go:36", #[⟨0, .data⟩, ⟨4, .data⟩], none⟩, ⟨some 109, .move (.tmp 115), 40, "law.go:36", #[⟨5, .data⟩], none⟩, ⟨some 116, .extract (.tmp 109) 0, 23, "law.go:36", #[⟨6, .data⟩], none⟩, ⟨some 117, .extract (.tmp 109) 1, 39, "law.go:36", #[⟨6, .data⟩, ⟨10, .gcOnly .lateStores⟩], none⟩, ⟨some 24, .alloc 23, 0, "law.go:36", #[], none⟩, ⟨none, .store 23 (.tmp 24) (.tmp 116), 0, "law.go:36", #[⟨9, .data⟩, ⟨7, .data⟩, ⟨5, .chain⟩, ⟨0, .phase⟩, ⟨1, .phase⟩, ⟨2, .phase⟩, ⟨3, .phase⟩, ⟨4, .phase⟩, ⟨5, .phase⟩, ⟨6, .phase⟩, ⟨7, .phase⟩, ⟨8, .textOnly .lateStores⟩, ⟨9, .phase⟩], none⟩, ⟨some 25, .assign (.tmp 117), 39, "law.go:36", #[⟨8, .data⟩, ⟨10, .chain⟩, ⟨0, .phase⟩, ⟨1, .phase⟩, ⟨2, .phase⟩, ⟨3, .phase⟩, ⟨4, .phase⟩, ⟨5, .phase⟩, ⟨6, .phase⟩, ⟨7, .phase⟩, ⟨8, .phase⟩, ⟨9, .phase⟩, ⟨10, .phase⟩], none⟩] true) lb6 := by kernel_rfl
set_option maxRecDepth 1000000 in
theorem lb6_eq : lb6 = .seq (Code.region 17 #[⟨some 119, .move (.tmp 12), 37, "law.go:37", #[], none⟩, ⟨some 120, .move (.tmp 14), 3, "law.go:37", #[], none⟩, ⟨some 121, .indexAddr 37 (.tmp 119) (.tmp 120), 0, "law.go:37", #[⟨0, .data⟩, ⟨1, .data⟩], none⟩, ⟨some 122, .load 30 (.tmp 121), 30, "law.go:37", #[⟨2, .data⟩], none⟩, ⟨some 123, .move (.tmp 13), 31, "law.go:37", #[], none⟩, ⟨some 124, .move (.tmp 14), 3, "law.go:37", #[], none⟩, ⟨some 125, .indexAddr 31 (.tmp 123) (.tmp 124), 0, "law.go:37", #[⟨4, .data⟩, ⟨5, .data⟩], none⟩, ⟨some 126, .load 3 (.tmp 125), 3, "law.go:37", #[⟨6, .data⟩], none⟩, ⟨some 127, .call { callee := .value (.func 15), args := #[.tmp 122, .tmp 126], argTypes := #[30, 3] }, 40, "law.go:37", #[⟨3, .data⟩, ⟨7, .data⟩], none⟩, ⟨some 118, .move (.tmp 127), 40, "law.go:37", #[⟨8, .data⟩], none⟩, ⟨some 128, .extract (.tmp 118) 0, 23, "law.go:37", #[⟨9, .data⟩], none⟩, ⟨some 129, .extract (.tmp 118) 1, 39, "law.go:37", #[⟨9, .data⟩, ⟨13, .gcOnly .lateStores⟩], none⟩, ⟨some 26, .alloc 23, 0, "law.go:37", #[], none⟩, ⟨none, .store 23 (.tmp 26) (.tmp 128), 0, "law.go:37", #[⟨12, .data⟩, ⟨10, .data⟩, ⟨8, .chain⟩, ⟨0, .phase⟩, ⟨1, .phase⟩, ⟨2, .phase⟩, ⟨3, .phase⟩, ⟨4, .phase⟩, ⟨5, .phase⟩, ⟨6, .phase⟩, ⟨7, .phase⟩, ⟨8, .phase⟩, ⟨9, .phase⟩, ⟨10, .phase⟩, ⟨11, .textOnly .lateStores⟩, ⟨12, .phase⟩], none⟩, ⟨some 27, .assign (.tmp 129), 39, "law.go:37", #[⟨11, .data⟩, ⟨13, .chain⟩, ⟨0, .phase⟩, ⟨1, .phase⟩, ⟨2, .phase⟩, ⟨3, .phase⟩, ⟨4, .phase⟩, ⟨5, .phase⟩, ⟨6, .phase⟩, ⟨7, .phase⟩, ⟨8, .phase⟩, ⟨9, .phase⟩, ⟨10, .phase⟩, ⟨11, .phase⟩, ⟨12, .phase⟩, ⟨13, .phase⟩], none⟩] true) lb7 := by kernel_rfl
set_option maxRecDepth 1000000 in
theorem lb7_eq : lb7 = .seq (Code.region 18 #[⟨some 130, .load 30 (.tmp 15), 30, "law.go:38", #[], none⟩, ⟨some 131, .call { callee := .value (.func 16), args := #[.tmp 130], argTypes := #[30] }, 39, "law.go:38", #[⟨0, .data⟩], none⟩, ⟨some 132, .move (.tmp 12), 37, "law.go:38", #[], none⟩, ⟨some 133, .move (.tmp 14), 3, "law.go:38", #[], none⟩, ⟨some 134, .indexAddr 37 (.tmp 132) (.tmp 133), 0, "law.go:38", #[⟨2, .data⟩, ⟨3, .data⟩], none⟩, ⟨some 135, .load 30 (.tmp 134), 30, "law.go:38", #[⟨4, .data⟩], none⟩, ⟨some 136, .call { callee := .value (.func 17), args := #[.tmp 135], argTypes := #[30] }, 39, "law.go:38", #[⟨5, .data⟩, ⟨1, .chain⟩], none⟩, ⟨some 137, .binOp .neq 39 (.tmp 131) (.tmp 136) 39, 4, "law.go:38", #[⟨1, .data⟩, ⟨6, .data⟩], none⟩, ⟨some 138, .move (.tmp 137), 4, "law.go:38", #[⟨7, .data⟩, ⟨6, .chain⟩], none⟩, ⟨some 139, .load 23 (.tmp 16), 23, "law.go:38", #[⟨8, .guard⟩], some (8, false)⟩, ⟨some 140, .load 23 (.tmp 18), 23, "law.go:38", #[⟨8, .guard⟩], some (8, false)⟩, ⟨some 141, .binOp .neq 23 (.tmp 139) (.tmp 140) 23, 4, "law.go:38", #[⟨9, .data⟩, ⟨10, .data⟩, ⟨8, .guard⟩], some (8, false)⟩, ⟨some 142, .pick (.tmp 138) (.const (.bool true)) (.tmp 141), 4, "law.go:38", #[⟨8, .data⟩, ⟨11, .data⟩], none⟩, ⟨some 143, .move (.tmp 142), 4, "law.go:38", #[⟨12, .data⟩, ⟨8, .chain⟩], none⟩, ⟨some 144, .move (.tmp 17), 39, "law.go:38", #[⟨13, .guard⟩], some (13, false)⟩, ⟨some 145, .move (.tmp 19), 39, "law.go:38", #[⟨13, .guard⟩], some (13, false)⟩, ⟨some 146, .binOp .neq 39 (.tmp 144) (.tmp 145) 39, 4, "law.go:38", #[⟨14, .data⟩, ⟨15, .data⟩, ⟨13, .guard⟩], some (13, false)⟩, ⟨some 147, .pick (.tmp 143) (.const (.bool true)) (.tmp 146), 4, "law.go:38", #[⟨13, .data⟩, ⟨16, .data⟩], none⟩, ⟨some 148, .move (.tmp 147), 4, "law.go:38", #[⟨17, .data⟩, ⟨13, .chain⟩], none⟩, ⟨some 149, .move (.tmp 20), 3, "law.go:38", #[⟨18, .guard⟩], some (18, false)⟩, ⟨some 150, .move (.tmp 22), 3, "law.go:38", #[⟨18, .guard⟩], some (18, false)⟩, ⟨some 151, .binOp .neq 3 (.tmp 149) (.tmp 150) 3, 4, "law.go:38", #[⟨19, .data⟩, ⟨20, .data⟩, ⟨18, .guard⟩], some (18, false)⟩, ⟨some 152, .pick (.tmp 148) (.const (.bool true)) (.tmp 151), 4, "law.go:38", #[⟨18, .data⟩, ⟨21, .data⟩], none⟩, ⟨some 153, .move (.tmp 152), 4, "law.go:38", #[⟨22, .data⟩, ⟨18, .chain⟩], none⟩, ⟨some 154, .move (.tmp 21), 39, "law.go:38", #[⟨23, .guard⟩], some (23, false)⟩, ⟨some 155, .move (.tmp 23), 39, "law.go:38", #[⟨23, .guard⟩], some (23, false)⟩, ⟨some 156, .binOp .neq 39 (.tmp 154) (.tmp 155) 39, 4, "law.go:38", #[⟨24, .data⟩, ⟨25, .data⟩, ⟨23, .guard⟩], some (23, false)⟩, ⟨some 157, .pick (.tmp 153) (.const (.bool true)) (.tmp 156), 4, "law.go:38", #[⟨23, .data⟩, ⟨26, .data⟩], none⟩, ⟨some 158, .move (.tmp 157), 4, "law.go:38", #[⟨27, .data⟩, ⟨23, .chain⟩], none⟩, ⟨some 159, .load 23 (.tmp 24), 23, "law.go:38", #[⟨28, .guard⟩], some (28, false)⟩, ⟨some 160, .load 23 (.tmp 26), 23, "law.go:38", #[⟨28, .guard⟩], some (28, false)⟩, ⟨some 161, .binOp .neq 23 (.tmp 159) (.tmp 160) 23, 4, "law.go:38", #[⟨29, .data⟩, ⟨30, .data⟩, ⟨28, .guard⟩], some (28, false)⟩, ⟨some 162, .pick (.tmp 158) (.const (.bool true)) (.tmp 161), 4, "law.go:38", #[⟨28, .data⟩, ⟨31, .data⟩], none⟩, ⟨some 163, .move (.tmp 162), 4, "law.go:38", #[⟨32, .data⟩, ⟨28, .chain⟩], none⟩, ⟨some 164, .move (.tmp 25), 39, "law.go:38", #[⟨33, .guard⟩], some (33, false)⟩, ⟨some 165, .move (.tmp 27), 39, "law.go:38", #[⟨33, .guard⟩], some (33, false)⟩, ⟨some 166, .binOp .neq 39 (.tmp 164) (.tmp 165) 39, 4, "law.go:38", #[⟨34, .data⟩, ⟨35, .data⟩, ⟨33, .guard⟩], some (33, false)⟩, ⟨some 167, .pick (.tmp 163) (.const (.bool true)) (.tmp 166), 4, "law.go:38", #[⟨33, .data⟩, ⟨36, .data⟩], none⟩, ⟨some 168, .move (.tmp 167), 4, "law.go:38", #[⟨37, .data⟩, ⟨33, .chain⟩], none⟩, ⟨some 169, .load 30 (.tmp 15), 30, "law.go:38", #[⟨38, .guard⟩], some (38, false)⟩, ⟨some 170, .move (.tmp 12), 37, "law.go:38", #[⟨38, .guard⟩], some (38, false)⟩, ⟨some 171, .move (.tmp 14), 3, "law.go:38", #[⟨38, .guard⟩], some (38, false)⟩, ⟨some 172, .indexAddr 37 (.tmp 170) (.tmp 171), 0, "law.go:38", #[⟨40, .data⟩, ⟨41, .data⟩, ⟨38, .guard⟩], some (38, false)⟩, ⟨some 173, .load 30 (.tmp 172), 30, "law.go:38", #[⟨42, .data⟩, ⟨38, .guard⟩], some (38, false)⟩, ⟨some 174, .call { callee := .value (.func 18), args := #[.tmp 169, .tmp 173], argTypes := #[30, 30] }, 4, "law.go:38", #[⟨39, .data⟩, ⟨43, .data⟩, ⟨38, .chain⟩, ⟨38, .guard⟩], some (38, false)⟩, ⟨some 175, .unOp .not 4 (.tmp 174), 4, "law.go:38", #[⟨44, .data⟩, ⟨38, .guard⟩], some (38, false)⟩, ⟨some 176, .pick (.tmp 168) (.const (.bool true)) (.tmp 175), 4, "law.go:38", #[⟨38, .data⟩, ⟨45, .data⟩], none⟩] true) (.cond (.tmp 176) (.seq (Code.region 19 #[⟨some 8, .assign (.const (.bool false)), 4, "law.go:39", #[], none⟩] false) .ret) .skip) := by kernel_rfl
set_option maxRecDepth 1000000 in
theorem wlrest7_cut : wlrest7 = .seq (.seq (Code.region 8 #[⟨some 14, .assign (.const (.int .i64 0)), 3, "law.go:30", #[], none⟩] false) (.block 0 (.loop (.seq (.seq (Code.region 9 #[⟨some 72, .move (.tmp 14), 3, "law.go:30", #[], none⟩, ⟨some 73, .move (.tmp 12), 37, "law.go:30", #[], none⟩, ⟨some 74, .call { callee := .builtin .len, args := #[.tmp 73], argTypes := #[37] }, 3, "law.go:30", #[⟨1, .data⟩], none⟩, ⟨some 75, .binOp .lss 3 (.tmp 72) (.tmp 74) 3, 4, "law.go:30", #[⟨0, .data⟩, ⟨2, .data⟩], none⟩] false) (.cond (.tmp 75) .skip (.exit 0))) (.seq (.block 1 lb0) (Code.region 10 #[⟨some 76, .move (.tmp 14), 3, "law.go:30", #[], none⟩, ⟨some 77, .binOp .add 3 (.tmp 76) (.const (.int .i64 1)) 3, 3, "law.go:30", #[⟨0, .data⟩], none⟩, ⟨some 14, .assign (.tmp 77), 3, "law.go:30", #[⟨1, .data⟩, ⟨0, .phase⟩, ⟨1, .phase⟩], none⟩] false)))))) wlrest8 := by kernel_rfl
def LQ (Q : Exit → Act → World → Prop) (w1 : World) (g q k : Nat) : Prop := ∀ (u0 u1 u2 u3 u4 u5 u6 u7 u8 u9 u10 u11 u15 u16 u17 u18 u19 u20 u21 u22 u23 u24 u25 u26 u27 u28 u29 u30 u31 u32 u33 u34 u35 u36 u37 u38 u39 u40 u41 u42 u43 u44 u45 u46 u47 u48 u49 u50 u51 u52 u53 u54 u55 u56 u57 u58 u59 u60 u61 u62 u63 u64 u65 u66 u67 u68 u69 u70 u71 u72 u73 u74 u75 u76 u77 u78 u79 u80 u81 u82 u83 u84 u85 u86 u87 u88 u89 u90 u91 u92 u93 u94 u95 u96 u97 u98 u99 u100 u101 u102 u103 u104 u105 u106 u107 u108 u109 u110 u111 u112 u113 u114 u115 u116 u117 u118 u119 u120 u121 u122 u123 u124 u125 u126 u127 u128 u129 u130 u131 u132 u133 u134 u135 u136 u137 u138 u139 u140 u141 u142 u143 u144 u145 u146 u147 u148 u149 u150 u151 u152 u153 u154 u155 u156 u157 u158 u159 u160 u161 u162 u163 u164 u165 u166 u167 u168 u169 u170 u171 u172 u173 u174 u175 u176 u177 : Value) (w' : World), Below w1.heap.size w1 w' → Q .normal ⟨#[u0, u1, u2, u3, u4, u5, u6, u7, u8, u9, u10, u11, (.slice (some ⟨g, 0, none⟩) 4 4), (.slice (some ⟨q, 0, none⟩) 4 4), (.int .i64 ↑k), u15, u16, u17, u18, u19, u20, u21, u22, u23, u24, u25, u26, u27, u28, u29, u30, u31, u32, u33, u34, u35, u36, u37, u38, u39, u40, u41, u42, u43, u44, u45, u46, u47, u48, u49, u50, u51, u52, u53, u54, u55, u56, u57, u58, u59, u60, u61, u62, u63, u64, u65, u66, u67, u68, u69, u70, u71, u72, u73, u74, u75, u76, u77, u78, u79, u80, u81, u82, u83, u84, u85, u86, u87, u88, u89, u90, u91, u92, u93, u94, u95, u96, u97, u98, u99, u100, u101, u102, u103, u104, u105, u106, u107, u108, u109, u110, u111, u112, u113, u114, u115, u116, u117, u118, u119, u120, u121, u122, u123, u124, u125, u126, u127, u128, u129, u130, u131, u132, u133, u134, u135, u136, u137, u138, u139, u140, u141, u142, u143, u144, u145, u146, u147, u148, u149, u150, u151, u152, u153, u154, u155, u156, u157, u158, u159, u160, u161, u162, u163, u164, u165, u166, u167, u168, u169, u170, u171, u172, u173, u174, u175, u176, u177], []⟩ w'

theorem wpList_load_midA {P : Program} {ops : Array Oper} {rest : List Oper} {op : Oper} {a : Act} {w : World} {Q : Exit → Act → World → Prop} (hgd : op.guard = none) (ty : TypeId) (x : Operand) (ho : op.op = .load ty x)
    (b o : Nat) (hx : a.eval x = .pointer (some ⟨b, o, none⟩)) (cs : Array Value) (d : TypeDesc) (hc : w.rangeAt b o cs.toList)
    (hu : P.underlying ty = some d) (hd : d.isRow = true) (hi : (P.info? ty).map (·.size) = some cs.size)
    (h : wpList P ops Q rest (a.put op.dst (.agg cs)) w) : wpList P ops Q (op :: rest) a w :=
  wpList_load_mid hgd ty x ho b o hx cs.toList d hc hu hd (by rw [Array.length_toList]; exact hi) (by rw [Array.toArray_toList]; exact h)
theorem yields_mid {P : Program} {ops : Array Oper} {S : World → Prop} {op : Oper} {a : Act} (hw : Region.wanted op (yielded ops a.tmps) = true) (ty : TypeId) (x : Operand) (ho : op.op = .load ty x)
    (b o : Nat) (hx : a.eval x = .pointer (some ⟨b, o, none⟩)) (cs : Array Value) (d : TypeDesc) (hS : ∀ w, S w → w.rangeAt b o cs.toList)
    (hu : P.underlying ty = some d) (hd : d.isRow = true) (hi : (P.info? ty).map (·.size) = some cs.size) : YieldsIf P ops S op (.agg cs) a := by
  have := yieldsIf_load_mid (P := P) (ops := ops) (S := S) hw ty x ho b o hx cs.toList d hS hu hd (by rw [Array.length_toList]; exact hi)
  rw [Array.toArray_toList] at this
  exact this
theorem WL.row {w0 w1 : World} {g q : Nat} {es : List Ent} {rs : List Int} (hs : WL w0 w1 g q es rs) {k : Nat} {e : Ent} (hk : es[k]? = some e) {w : World} (hB : Below w1.heap.size w1 w) : w.rangeAt g (k * 18) (jobC e.J (.slice e.a e.n e.c)).toList := fun j v hv => by
  have h1 := flat_at (fun e : Ent => e.V.toList) Ent.V_len es k e hk j v hv
  have hb := hs.arr.below hB hs.arr.lt
  exact hb.at_ (k * 18 + j) v (by simpa using h1)
theorem WL.rd {w0 w1 : World} {g q : Nat} {es : List Ent} {rs : List Int} (hs : WL w0 w1 g q es rs) {k : Nat} {r : Int} (hr : rs[k]? = some r) {w : World} (hB : Below w1.heap.size w1 w) : w.cell? ⟨q, k, none⟩ = some (.int .i64 r) := by
  have hb := hs.rar.below hB hs.rar.lt
  exact hb.at_ k _ (by simp [hr])
set_option maxHeartbeats 4000000 in
set_option maxRecDepth 1000000 in
theorem lbp7 {w1 : World} {g q : Nat} {es : List Ent} {rs : List Int} {w0 : World} {k : Nat} {e : Ent} {r : Int} {Q : Exit → Act → World → Prop} {oa : Option Addr} {oc g15 : Nat} {g16 : Nat} {g18 : Nat} {g24 : Nat} {g26 : Nat} {w : World} {u0 u1 u2 u3 u4 u5 u6 u7 u8 u9 u10 u11 u28 u29 u30 u31 u32 u33 u34 u35 u36 u37 u38 u39 u40 u41 u42 u43 u44 u45 u46 u47 u48 u49 u50 u51 u52 u53 u54 u55 u56 u57 u58 u59 u60 u61 u62 u63 u64 u65 u66 u67 u68 u69 u70 u71 u72 u73 u74 u75 u76 u77 u78 u79 u80 u81 u82 u83 u84 u85 u86 u87 u88 u89 u90 u91 u92 u93 u94 u95 u96 u97 u98 u99 u100 u101 u102 u103 u104 u105 u106 u107 u108 u109 u110 u111 u112 u113 u114 u115 u116 u117 u118 u119 u120 u121 u122 u123 u124 u125 u126 u127 u128 u129 u130 u131 u132 u133 u134 u135 u136 u137 u138 u139 u140 u141 u142 u143 u144 u145 u146 u147 u148 u149 u150 u151 u152 u153 u154 u155 u156 u157 u158 u159 u160 u161 u162 u163 u164 u165 u166 u167 u168 u169 u170 u171 u172 u173 u174 u175 u176 u177 : Value} (hs : WL w0 w1 g q es rs) (hk : es[k]? = some e) (hr : rs[k]? = some r) (hk4 : k < 4) (hQ : LQ Q w1 g q k) (hB : Below w1.heap.size w1 w) (h15 : Bk w g15 30 (jobC e.J (.slice oa e.n oc))) (ho : Rg w w.heap.size oa e.J.sh) (h16 : Bk w g16 23 #[.int .i64 (windowI e.J).1.1, .int .i64 (windowI e.J).1.2]) (h18 : Bk w g18 23 #[.int .i64 (windowI e.J).1.1, .int .i64 (windowI e.J).1.2]) (h24 : Bk w g24 23 #[.int .i64 (hearJ e.J r).1.1, .int .i64 (hearJ e.J r).1.2]) (h26 : Bk w g26 23 #[.int .i64 (hearJ e.J r).1.1, .int .i64 (hearJ e.J r).1.2]) : Code.wp Try.prog lb7 Q ⟨#[u0, u1, u2, u3, u4, u5, u6, u7, u8, u9, u10, u11, (.slice (some ⟨g, 0, none⟩) 4 4), (.slice (some ⟨q, 0, none⟩) 4 4), (.int .i64 ↑k), (.pointer (some ⟨g15, 0, none⟩)), (.pointer (some ⟨g16, 0, none⟩)), (.int .i64 (windowI e.J).2), (.pointer (some ⟨g18, 0, none⟩)), (.int .i64 (windowI e.J).2), (.int .i64 (passesI e.J).1), (.int .i64 (passesI e.J).2), (.int .i64 (passesI e.J).1), (.int .i64 (passesI e.J).2), (.pointer (some ⟨g24, 0, none⟩)), (.int .i64 (hearJ e.J r).2), (.pointer (some ⟨g26, 0, none⟩)), (.int .i64 (hearJ e.J r).2), u28, u29, u30, u31, u32, u33, u34, u35, u36, u37, u38, u39, u40, u41, u42, u43, u44, u45, u46, u47, u48, u49, u50, u51, u52, u53, u54, u55, u56, u57, u58, u59, u60, u61, u62, u63, u64, u65, u66, u67, u68, u69, u70, u71, u72, u73, u74, u75, u76, u77, u78, u79, u80, u81, u82, u83, u84, u85, u86, u87, u88, u89, u90, u91, u92, u93, u94, u95, u96, u97, u98, u99, u100, u101, u102, u103, u104, u105, u106, u107, u108, u109, u110, u111, u112, u113, u114, u115, u116, u117, u118, u119, u120, u121, u122, u123, u124, u125, u126, u127, u128, u129, u130, u131, u132, u133, u134, u135, u136, u137, u138, u139, u140, u141, u142, u143, u144, u145, u146, u147, u148, u149, u150, u151, u152, u153, u154, u155, u156, u157, u158, u159, u160, u161, u162, u163, u164, u165, u166, u167, u168, u169, u170, u171, u172, u173, u174, u175, u176, u177], []⟩ w := by
  rw [lb7_eq]
  obtain ⟨hrg, hen, hen30⟩ := hs.each e (List.mem_of_getElem? hk)
  have HEN := hidMk hen
  have HRG := hidMk (hrg.up hB)
  have HS := hidMk hs
  have HQ := hidMk hQ
  have HR := hidMk (hs.row hk hB)
  have HB := hidMk hB
  have HK := hidMk hk
  have HRD := hidMk hr
  have hwz := hB.size
  have hnm : e.n ≤ 9223372036854775807 := by omega
  have H15 := hidMk h15
  have HO := hidMk ho
  have H16 := hidMk h16
  have H18 := hidMk h18
  have H24 := hidMk h24
  have H26 := hidMk h26
  clear h15 ho h16 h18 h24 h26 hs hQ hB hk hr hrg hen
  have hki : (0 : Int) ≤ (k : Int) := by omega
  have hki2 : (k : Int) < 4 := by omega
  refine wp_seq_k fun K0 hK0 => ?_
  refine region_via (R := fun a_ e_ a' w' => e_ = .normal ∧ ∃ (v130 v131 v132 v133 v134 v135 v136 v137 v138 v139 v140 v141 v142 v143 v144 v145 v146 v147 v148 v149 v150 v151 v152 v153 v154 v155 v156 v157 v158 v159 v160 v161 v162 v163 v164 v165 v166 v167 v168 v169 v170 v171 v172 v173 v174 v175 : Value), a' = (((((((((((((((((((((((((((((((((((((((((((((((a_.put (some 130) v130).put (some 131) v131).put (some 132) v132).put (some 133) v133).put (some 134) v134).put (some 135) v135).put (some 136) v136).put (some 137) v137).put (some 138) v138).put (some 139) v139).put (some 140) v140).put (some 141) v141).put (some 142) v142).put (some 143) v143).put (some 144) v144).put (some 145) v145).put (some 146) v146).put (some 147) v147).put (some 148) v148).put (some 149) v149).put (some 150) v150).put (some 151) v151).put (some 152) v152).put (some 153) v153).put (some 154) v154).put (some 155) v155).put (some 156) v156).put (some 157) v157).put (some 158) v158).put (some 159) v159).put (some 160) v160).put (some 161) v161).put (some 162) v162).put (some 163) v163).put (some 164) v164).put (some 165) v165).put (some 166) v166).put (some 167) v167).put (some 168) v168).put (some 169) v169).put (some 170) v170).put (some 171) v171).put (some 172) v172).put (some 173) v173).put (some 174) v174).put (some 175) v175).put (some 176) (.bool false)) ∧ Below w.heap.size w w') ?_ ?_
  rotate_left
  · rintro e_ a' w' ⟨rfl, v130, v131, v132, v133, v134, v135, v136, v137, v138, v139, v140, v141, v142, v143, v144, v145, v146, v147, v148, v149, v150, v151, v152, v153, v154, v155, v156, v157, v158, v159, v160, v161, v162, v163, v164, v165, v166, v167, v168, v169, v170, v171, v172, v173, v174, v175, rfl, al⟩
    refine hK0 _ _ ?_
    simp only [Act.put, List.setIfInBounds_toArray, List.set_cons_zero, List.set_cons_succ]
    have HB2 := hidMk (HB.out.trans (al.mono hwz))
    clear al
    go_wp2_with fail
    apply HQ.out
    exact HB2.out
  have hBW : Below w.heap.size w w.drew := (Below.refl _ _).drew
  refine wp_region_held_drew (S := fun w' => Below w.heap.size w w') (by kernel_rfl) hBW (fun hS0 => ?_)
  generalize hWd : w.drew = wd at hS0 hBW ⊢
  clear hWd
  refine wpAnyH_take (i := 0) (oi := ⟨some 130, .load 30 (.tmp 15), 30, "law.go:38", #[], none⟩) rfl (by kernel_rfl) (by kernel_rfl) (by kernel_rfl) (fun _ _ _ h => nomatch h.1) (yields_row (by rfl) 30 _ rfl g15 (jobC e.J (.slice oa e.n oc)) rfl 30 (fun w' hw => H15.out.below hw H15.out.lt) Try.underlying30 szJob) (by assumption) ?_
  (try simp only [Act.put, List.setIfInBounds_toArray, List.set_cons_zero, List.set_cons_succ])
  refine wpAnyH_take (i := 2) (oi := ⟨some 132, .move (.tmp 12), 37, "law.go:38", #[], none⟩) (v := ?_) rfl (by kernel_rfl) (by kernel_rfl) (by kernel_rfl) (fun _ _ _ h => nomatch h.1) (.inl ⟨by rfl, ?_⟩) (by assumption) ?_
  rotate_left
  · (intro w' hSw; (try dsimp only at hSw); (have b160 := (H16.out.below hSw H16.out.lt).at_ 0 (.int .i64 (windowI e.J).1.1) rfl; have b161 := (H16.out.below hSw H16.out.lt).at_ 1 (.int .i64 (windowI e.J).1.2) rfl; have b180 := (H18.out.below hSw H18.out.lt).at_ 0 (.int .i64 (windowI e.J).1.1) rfl; have b181 := (H18.out.below hSw H18.out.lt).at_ 1 (.int .i64 (windowI e.J).1.2) rfl; have b240 := (H24.out.below hSw H24.out.lt).at_ 0 (.int .i64 (hearJ e.J r).1.1) rfl; have b241 := (H24.out.below hSw H24.out.lt).at_ 1 (.int .i64 (hearJ e.J r).1.2) rfl; have b260 := (H26.out.below hSw H26.out.lt).at_ 0 (.int .i64 (hearJ e.J r).1.1) rfl; have b261 := (H26.out.below hSw H26.out.lt).at_ 1 (.int .i64 (hearJ e.J r).1.2) rfl; have qW := neqR (windowI e.J).1.1 (windowI e.J).1.2; have qH := neqR (hearJ e.J r).1.1 (hearJ e.J r).1.2); go_simp <;> with_reducible rfl)
  (try simp only [Act.put, List.setIfInBounds_toArray, List.set_cons_zero, List.set_cons_succ])
  refine wpAnyH_take (i := 3) (oi := ⟨some 133, .move (.tmp 14), 3, "law.go:38", #[], none⟩) (v := ?_) rfl (by kernel_rfl) (by kernel_rfl) (by kernel_rfl) (fun _ _ _ h => nomatch h.1) (.inl ⟨by rfl, ?_⟩) (by assumption) ?_
  rotate_left
  · (intro w' hSw; (try dsimp only at hSw); (have b160 := (H16.out.below hSw H16.out.lt).at_ 0 (.int .i64 (windowI e.J).1.1) rfl; have b161 := (H16.out.below hSw H16.out.lt).at_ 1 (.int .i64 (windowI e.J).1.2) rfl; have b180 := (H18.out.below hSw H18.out.lt).at_ 0 (.int .i64 (windowI e.J).1.1) rfl; have b181 := (H18.out.below hSw H18.out.lt).at_ 1 (.int .i64 (windowI e.J).1.2) rfl; have b240 := (H24.out.below hSw H24.out.lt).at_ 0 (.int .i64 (hearJ e.J r).1.1) rfl; have b241 := (H24.out.below hSw H24.out.lt).at_ 1 (.int .i64 (hearJ e.J r).1.2) rfl; have b260 := (H26.out.below hSw H26.out.lt).at_ 0 (.int .i64 (hearJ e.J r).1.1) rfl; have b261 := (H26.out.below hSw H26.out.lt).at_ 1 (.int .i64 (hearJ e.J r).1.2) rfl; have qW := neqR (windowI e.J).1.1 (windowI e.J).1.2; have qH := neqR (hearJ e.J r).1.1 (hearJ e.J r).1.2); go_simp <;> with_reducible rfl)
  (try simp only [Act.put, List.setIfInBounds_toArray, List.set_cons_zero, List.set_cons_succ])
  refine wpAnyH_take (i := 4) (oi := ⟨some 134, .indexAddr 37 (.tmp 132) (.tmp 133), 0, "law.go:38", #[⟨2, .data⟩, ⟨3, .data⟩], none⟩) (v := ?_) rfl (by kernel_rfl) (by kernel_rfl) (by kernel_rfl) (fun _ _ _ h => nomatch h.1) (.inl ⟨by rfl, ?_⟩) (by assumption) ?_
  rotate_left
  · (intro w' hSw; (try dsimp only at hSw); (have b160 := (H16.out.below hSw H16.out.lt).at_ 0 (.int .i64 (windowI e.J).1.1) rfl; have b161 := (H16.out.below hSw H16.out.lt).at_ 1 (.int .i64 (windowI e.J).1.2) rfl; have b180 := (H18.out.below hSw H18.out.lt).at_ 0 (.int .i64 (windowI e.J).1.1) rfl; have b181 := (H18.out.below hSw H18.out.lt).at_ 1 (.int .i64 (windowI e.J).1.2) rfl; have b240 := (H24.out.below hSw H24.out.lt).at_ 0 (.int .i64 (hearJ e.J r).1.1) rfl; have b241 := (H24.out.below hSw H24.out.lt).at_ 1 (.int .i64 (hearJ e.J r).1.2) rfl; have b260 := (H26.out.below hSw H26.out.lt).at_ 0 (.int .i64 (hearJ e.J r).1.1) rfl; have b261 := (H26.out.below hSw H26.out.lt).at_ 1 (.int .i64 (hearJ e.J r).1.2) rfl; have qW := neqR (windowI e.J).1.1 (windowI e.J).1.2; have qH := neqR (hearJ e.J r).1.1 (hearJ e.J r).1.2); go_simp <;> with_reducible rfl)
  (try simp only [Act.put, List.setIfInBounds_toArray, List.set_cons_zero, List.set_cons_succ])
  refine wpAnyH_take (i := 5) (oi := ⟨some 135, .load 30 (.tmp 134), 30, "law.go:38", #[⟨4, .data⟩], none⟩) rfl (by kernel_rfl) (by kernel_rfl) (by kernel_rfl) (fun _ _ _ h => nomatch h.1) (yields_mid (by rfl) 30 _ rfl g (k * 18) rfl (jobC e.J (.slice e.a e.n e.c)) _ (fun w' hw => HS.out.row HK.out (HB.out.trans (hw.mono hwz))) Try.underlying30 rfl szJob) (by assumption) ?_
  (try simp only [Act.put, List.setIfInBounds_toArray, List.set_cons_zero, List.set_cons_succ])
  refine wpAnyH_ready (rs := [1]) (by kernel_rfl) (by simp) ?_
  refine AllReadyH.cons (o := ⟨some 131, .call { callee := .value (.func 16), args := #[.tmp 130], argTypes := #[30] }, 39, "law.go:38", #[⟨0, .data⟩], none⟩) rfl (fun K hK => ?_) ?_
  · go_simp
    go_at_call 16
    refine (check_any e.J oa e.n oc _ HEN.out hnm (HO.out.up hBW)).mono ?_
    rintro e' wX ⟨rfl, hbX⟩
    have hB_ := hBW.trans (hbX.mono hBW.size)
    clear hBW hbX
    have hBW := hB_
    clear hB_
    go_wp2_with fail
    refine hK.out _ _ hBW (fun _ => ?_)
    clear hK K
    (try simp only [Act.put, List.setIfInBounds_toArray, List.set_cons_zero, List.set_cons_succ])
    refine wpAnyH_ready (rs := [6]) (by kernel_rfl) (by simp) ?_
    refine AllReadyH.cons (o := ⟨some 136, .call { callee := .value (.func 17), args := #[.tmp 135], argTypes := #[30] }, 39, "law.go:38", #[⟨5, .data⟩, ⟨1, .chain⟩], none⟩) rfl (fun K hK => ?_) ?_
    · go_simp
      go_at_call 17
      refine (refCheck_any e.J e.a e.n e.c _ HEN.out hnm (HRG.out.up hBW)).mono ?_
      rintro e' wX ⟨rfl, hbX⟩
      have hB_ := hBW.trans (hbX.mono hBW.size)
      clear hBW hbX
      have hBW := hB_
      clear hB_
      go_wp2_with fail
      refine hK.out _ _ hBW (fun _ => ?_)
      clear hK K
      (try simp only [Act.put, List.setIfInBounds_toArray, List.set_cons_zero, List.set_cons_succ])
      refine wpAnyH_take (i := 7) (oi := ⟨some 137, .binOp .neq 39 (.tmp 131) (.tmp 136) 39, 4, "law.go:38", #[⟨1, .data⟩, ⟨6, .data⟩], none⟩) (v := ?_) rfl (by kernel_rfl) (by kernel_rfl) (by kernel_rfl) (fun _ _ _ h => nomatch h.1) (.inl ⟨by rfl, ?_⟩) (by assumption) ?_
      rotate_left
      · (intro w' hSw; (try dsimp only at hSw); (have b160 := (H16.out.below hSw H16.out.lt).at_ 0 (.int .i64 (windowI e.J).1.1) rfl; have b161 := (H16.out.below hSw H16.out.lt).at_ 1 (.int .i64 (windowI e.J).1.2) rfl; have b180 := (H18.out.below hSw H18.out.lt).at_ 0 (.int .i64 (windowI e.J).1.1) rfl; have b181 := (H18.out.below hSw H18.out.lt).at_ 1 (.int .i64 (windowI e.J).1.2) rfl; have b240 := (H24.out.below hSw H24.out.lt).at_ 0 (.int .i64 (hearJ e.J r).1.1) rfl; have b241 := (H24.out.below hSw H24.out.lt).at_ 1 (.int .i64 (hearJ e.J r).1.2) rfl; have b260 := (H26.out.below hSw H26.out.lt).at_ 0 (.int .i64 (hearJ e.J r).1.1) rfl; have b261 := (H26.out.below hSw H26.out.lt).at_ 1 (.int .i64 (hearJ e.J r).1.2) rfl; have qW := neqR (windowI e.J).1.1 (windowI e.J).1.2; have qH := neqR (hearJ e.J r).1.1 (hearJ e.J r).1.2); go_simp <;> with_reducible rfl)
      (try simp only [Act.put, List.setIfInBounds_toArray, List.set_cons_zero, List.set_cons_succ])
      refine wpAnyH_take (i := 8) (oi := ⟨some 138, .move (.tmp 137), 4, "law.go:38", #[⟨7, .data⟩, ⟨6, .chain⟩], none⟩) (v := ?_) rfl (by kernel_rfl) (by kernel_rfl) (by kernel_rfl) (fun _ _ _ h => nomatch h.1) (.inl ⟨by rfl, ?_⟩) (by assumption) ?_
      rotate_left
      · (intro w' hSw; (try dsimp only at hSw); (have b160 := (H16.out.below hSw H16.out.lt).at_ 0 (.int .i64 (windowI e.J).1.1) rfl; have b161 := (H16.out.below hSw H16.out.lt).at_ 1 (.int .i64 (windowI e.J).1.2) rfl; have b180 := (H18.out.below hSw H18.out.lt).at_ 0 (.int .i64 (windowI e.J).1.1) rfl; have b181 := (H18.out.below hSw H18.out.lt).at_ 1 (.int .i64 (windowI e.J).1.2) rfl; have b240 := (H24.out.below hSw H24.out.lt).at_ 0 (.int .i64 (hearJ e.J r).1.1) rfl; have b241 := (H24.out.below hSw H24.out.lt).at_ 1 (.int .i64 (hearJ e.J r).1.2) rfl; have b260 := (H26.out.below hSw H26.out.lt).at_ 0 (.int .i64 (hearJ e.J r).1.1) rfl; have b261 := (H26.out.below hSw H26.out.lt).at_ 1 (.int .i64 (hearJ e.J r).1.2) rfl; have qW := neqR (windowI e.J).1.1 (windowI e.J).1.2; have qH := neqR (hearJ e.J r).1.1 (hearJ e.J r).1.2); go_simp <;> with_reducible rfl)
      (try simp only [Act.put, List.setIfInBounds_toArray, List.set_cons_zero, List.set_cons_succ])
      refine wpAnyH_take (i := 9) (oi := ⟨some 139, .load 23 (.tmp 16), 23, "law.go:38", #[⟨8, .guard⟩], some (8, false)⟩) (v := ?_) rfl (by kernel_rfl) (by kernel_rfl) (by kernel_rfl) (fun _ _ _ h => nomatch h.1) (.inl ⟨by rfl, ?_⟩) (by assumption) ?_
      rotate_left
      · (intro w' hSw; (try dsimp only at hSw); (have b160 := (H16.out.below hSw H16.out.lt).at_ 0 (.int .i64 (windowI e.J).1.1) rfl; have b161 := (H16.out.below hSw H16.out.lt).at_ 1 (.int .i64 (windowI e.J).1.2) rfl; have b180 := (H18.out.below hSw H18.out.lt).at_ 0 (.int .i64 (windowI e.J).1.1) rfl; have b181 := (H18.out.below hSw H18.out.lt).at_ 1 (.int .i64 (windowI e.J).1.2) rfl; have b240 := (H24.out.below hSw H24.out.lt).at_ 0 (.int .i64 (hearJ e.J r).1.1) rfl; have b241 := (H24.out.below hSw H24.out.lt).at_ 1 (.int .i64 (hearJ e.J r).1.2) rfl; have b260 := (H26.out.below hSw H26.out.lt).at_ 0 (.int .i64 (hearJ e.J r).1.1) rfl; have b261 := (H26.out.below hSw H26.out.lt).at_ 1 (.int .i64 (hearJ e.J r).1.2) rfl; have qW := neqR (windowI e.J).1.1 (windowI e.J).1.2; have qH := neqR (hearJ e.J r).1.1 (hearJ e.J r).1.2); go_simp <;> with_reducible rfl)
      (try simp only [Act.put, List.setIfInBounds_toArray, List.set_cons_zero, List.set_cons_succ])
      refine wpAnyH_take (i := 10) (oi := ⟨some 140, .load 23 (.tmp 18), 23, "law.go:38", #[⟨8, .guard⟩], some (8, false)⟩) (v := ?_) rfl (by kernel_rfl) (by kernel_rfl) (by kernel_rfl) (fun _ _ _ h => nomatch h.1) (.inl ⟨by rfl, ?_⟩) (by assumption) ?_
      rotate_left
      · (intro w' hSw; (try dsimp only at hSw); (have b160 := (H16.out.below hSw H16.out.lt).at_ 0 (.int .i64 (windowI e.J).1.1) rfl; have b161 := (H16.out.below hSw H16.out.lt).at_ 1 (.int .i64 (windowI e.J).1.2) rfl; have b180 := (H18.out.below hSw H18.out.lt).at_ 0 (.int .i64 (windowI e.J).1.1) rfl; have b181 := (H18.out.below hSw H18.out.lt).at_ 1 (.int .i64 (windowI e.J).1.2) rfl; have b240 := (H24.out.below hSw H24.out.lt).at_ 0 (.int .i64 (hearJ e.J r).1.1) rfl; have b241 := (H24.out.below hSw H24.out.lt).at_ 1 (.int .i64 (hearJ e.J r).1.2) rfl; have b260 := (H26.out.below hSw H26.out.lt).at_ 0 (.int .i64 (hearJ e.J r).1.1) rfl; have b261 := (H26.out.below hSw H26.out.lt).at_ 1 (.int .i64 (hearJ e.J r).1.2) rfl; have qW := neqR (windowI e.J).1.1 (windowI e.J).1.2; have qH := neqR (hearJ e.J r).1.1 (hearJ e.J r).1.2); go_simp <;> with_reducible rfl)
      (try simp only [Act.put, List.setIfInBounds_toArray, List.set_cons_zero, List.set_cons_succ])
      refine wpAnyH_take (i := 11) (oi := ⟨some 141, .binOp .neq 23 (.tmp 139) (.tmp 140) 23, 4, "law.go:38", #[⟨9, .data⟩, ⟨10, .data⟩, ⟨8, .guard⟩], some (8, false)⟩) (v := ?_) rfl (by kernel_rfl) (by kernel_rfl) (by kernel_rfl) (fun _ _ _ h => nomatch h.1) (.inl ⟨by rfl, ?_⟩) (by assumption) ?_
      rotate_left
      · (intro w' hSw; (try dsimp only at hSw); (have b160 := (H16.out.below hSw H16.out.lt).at_ 0 (.int .i64 (windowI e.J).1.1) rfl; have b161 := (H16.out.below hSw H16.out.lt).at_ 1 (.int .i64 (windowI e.J).1.2) rfl; have b180 := (H18.out.below hSw H18.out.lt).at_ 0 (.int .i64 (windowI e.J).1.1) rfl; have b181 := (H18.out.below hSw H18.out.lt).at_ 1 (.int .i64 (windowI e.J).1.2) rfl; have b240 := (H24.out.below hSw H24.out.lt).at_ 0 (.int .i64 (hearJ e.J r).1.1) rfl; have b241 := (H24.out.below hSw H24.out.lt).at_ 1 (.int .i64 (hearJ e.J r).1.2) rfl; have b260 := (H26.out.below hSw H26.out.lt).at_ 0 (.int .i64 (hearJ e.J r).1.1) rfl; have b261 := (H26.out.below hSw H26.out.lt).at_ 1 (.int .i64 (hearJ e.J r).1.2) rfl; have qW := neqR (windowI e.J).1.1 (windowI e.J).1.2; have qH := neqR (hearJ e.J r).1.1 (hearJ e.J r).1.2); go_simp <;> with_reducible rfl)
      (try simp only [Act.put, List.setIfInBounds_toArray, List.set_cons_zero, List.set_cons_succ])
      refine wpAnyH_take (i := 12) (oi := ⟨some 142, .pick (.tmp 138) (.const (.bool true)) (.tmp 141), 4, "law.go:38", #[⟨8, .data⟩, ⟨11, .data⟩], none⟩) (v := ?_) rfl (by kernel_rfl) (by kernel_rfl) (by kernel_rfl) (fun _ _ _ h => nomatch h.1) (.inl ⟨by rfl, ?_⟩) (by assumption) ?_
      rotate_left
      · (intro w' hSw; (try dsimp only at hSw); (have b160 := (H16.out.below hSw H16.out.lt).at_ 0 (.int .i64 (windowI e.J).1.1) rfl; have b161 := (H16.out.below hSw H16.out.lt).at_ 1 (.int .i64 (windowI e.J).1.2) rfl; have b180 := (H18.out.below hSw H18.out.lt).at_ 0 (.int .i64 (windowI e.J).1.1) rfl; have b181 := (H18.out.below hSw H18.out.lt).at_ 1 (.int .i64 (windowI e.J).1.2) rfl; have b240 := (H24.out.below hSw H24.out.lt).at_ 0 (.int .i64 (hearJ e.J r).1.1) rfl; have b241 := (H24.out.below hSw H24.out.lt).at_ 1 (.int .i64 (hearJ e.J r).1.2) rfl; have b260 := (H26.out.below hSw H26.out.lt).at_ 0 (.int .i64 (hearJ e.J r).1.1) rfl; have b261 := (H26.out.below hSw H26.out.lt).at_ 1 (.int .i64 (hearJ e.J r).1.2) rfl; have qW := neqR (windowI e.J).1.1 (windowI e.J).1.2; have qH := neqR (hearJ e.J r).1.1 (hearJ e.J r).1.2); go_simp <;> with_reducible rfl)
      (try simp only [Act.put, List.setIfInBounds_toArray, List.set_cons_zero, List.set_cons_succ])
      refine wpAnyH_take (i := 13) (oi := ⟨some 143, .move (.tmp 142), 4, "law.go:38", #[⟨12, .data⟩, ⟨8, .chain⟩], none⟩) (v := ?_) rfl (by kernel_rfl) (by kernel_rfl) (by kernel_rfl) (fun _ _ _ h => nomatch h.1) (.inl ⟨by rfl, ?_⟩) (by assumption) ?_
      rotate_left
      · (intro w' hSw; (try dsimp only at hSw); (have b160 := (H16.out.below hSw H16.out.lt).at_ 0 (.int .i64 (windowI e.J).1.1) rfl; have b161 := (H16.out.below hSw H16.out.lt).at_ 1 (.int .i64 (windowI e.J).1.2) rfl; have b180 := (H18.out.below hSw H18.out.lt).at_ 0 (.int .i64 (windowI e.J).1.1) rfl; have b181 := (H18.out.below hSw H18.out.lt).at_ 1 (.int .i64 (windowI e.J).1.2) rfl; have b240 := (H24.out.below hSw H24.out.lt).at_ 0 (.int .i64 (hearJ e.J r).1.1) rfl; have b241 := (H24.out.below hSw H24.out.lt).at_ 1 (.int .i64 (hearJ e.J r).1.2) rfl; have b260 := (H26.out.below hSw H26.out.lt).at_ 0 (.int .i64 (hearJ e.J r).1.1) rfl; have b261 := (H26.out.below hSw H26.out.lt).at_ 1 (.int .i64 (hearJ e.J r).1.2) rfl; have qW := neqR (windowI e.J).1.1 (windowI e.J).1.2; have qH := neqR (hearJ e.J r).1.1 (hearJ e.J r).1.2); go_simp <;> with_reducible rfl)
      (try simp only [Act.put, List.setIfInBounds_toArray, List.set_cons_zero, List.set_cons_succ])
      refine wpAnyH_take (i := 14) (oi := ⟨some 144, .move (.tmp 17), 39, "law.go:38", #[⟨13, .guard⟩], some (13, false)⟩) (v := ?_) rfl (by kernel_rfl) (by kernel_rfl) (by kernel_rfl) (fun _ _ _ h => nomatch h.1) (.inl ⟨by rfl, ?_⟩) (by assumption) ?_
      rotate_left
      · (intro w' hSw; (try dsimp only at hSw); (have b160 := (H16.out.below hSw H16.out.lt).at_ 0 (.int .i64 (windowI e.J).1.1) rfl; have b161 := (H16.out.below hSw H16.out.lt).at_ 1 (.int .i64 (windowI e.J).1.2) rfl; have b180 := (H18.out.below hSw H18.out.lt).at_ 0 (.int .i64 (windowI e.J).1.1) rfl; have b181 := (H18.out.below hSw H18.out.lt).at_ 1 (.int .i64 (windowI e.J).1.2) rfl; have b240 := (H24.out.below hSw H24.out.lt).at_ 0 (.int .i64 (hearJ e.J r).1.1) rfl; have b241 := (H24.out.below hSw H24.out.lt).at_ 1 (.int .i64 (hearJ e.J r).1.2) rfl; have b260 := (H26.out.below hSw H26.out.lt).at_ 0 (.int .i64 (hearJ e.J r).1.1) rfl; have b261 := (H26.out.below hSw H26.out.lt).at_ 1 (.int .i64 (hearJ e.J r).1.2) rfl; have qW := neqR (windowI e.J).1.1 (windowI e.J).1.2; have qH := neqR (hearJ e.J r).1.1 (hearJ e.J r).1.2); go_simp <;> with_reducible rfl)
      (try simp only [Act.put, List.setIfInBounds_toArray, List.set_cons_zero, List.set_cons_succ])
      refine wpAnyH_take (i := 15) (oi := ⟨some 145, .move (.tmp 19), 39, "law.go:38", #[⟨13, .guard⟩], some (13, false)⟩) (v := ?_) rfl (by kernel_rfl) (by kernel_rfl) (by kernel_rfl) (fun _ _ _ h => nomatch h.1) (.inl ⟨by rfl, ?_⟩) (by assumption) ?_
      rotate_left
      · (intro w' hSw; (try dsimp only at hSw); (have b160 := (H16.out.below hSw H16.out.lt).at_ 0 (.int .i64 (windowI e.J).1.1) rfl; have b161 := (H16.out.below hSw H16.out.lt).at_ 1 (.int .i64 (windowI e.J).1.2) rfl; have b180 := (H18.out.below hSw H18.out.lt).at_ 0 (.int .i64 (windowI e.J).1.1) rfl; have b181 := (H18.out.below hSw H18.out.lt).at_ 1 (.int .i64 (windowI e.J).1.2) rfl; have b240 := (H24.out.below hSw H24.out.lt).at_ 0 (.int .i64 (hearJ e.J r).1.1) rfl; have b241 := (H24.out.below hSw H24.out.lt).at_ 1 (.int .i64 (hearJ e.J r).1.2) rfl; have b260 := (H26.out.below hSw H26.out.lt).at_ 0 (.int .i64 (hearJ e.J r).1.1) rfl; have b261 := (H26.out.below hSw H26.out.lt).at_ 1 (.int .i64 (hearJ e.J r).1.2) rfl; have qW := neqR (windowI e.J).1.1 (windowI e.J).1.2; have qH := neqR (hearJ e.J r).1.1 (hearJ e.J r).1.2); go_simp <;> with_reducible rfl)
      (try simp only [Act.put, List.setIfInBounds_toArray, List.set_cons_zero, List.set_cons_succ])
      refine wpAnyH_take (i := 16) (oi := ⟨some 146, .binOp .neq 39 (.tmp 144) (.tmp 145) 39, 4, "law.go:38", #[⟨14, .data⟩, ⟨15, .data⟩, ⟨13, .guard⟩], some (13, false)⟩) (v := ?_) rfl (by kernel_rfl) (by kernel_rfl) (by kernel_rfl) (fun _ _ _ h => nomatch h.1) (.inl ⟨by rfl, ?_⟩) (by assumption) ?_
      rotate_left
      · (intro w' hSw; (try dsimp only at hSw); (have b160 := (H16.out.below hSw H16.out.lt).at_ 0 (.int .i64 (windowI e.J).1.1) rfl; have b161 := (H16.out.below hSw H16.out.lt).at_ 1 (.int .i64 (windowI e.J).1.2) rfl; have b180 := (H18.out.below hSw H18.out.lt).at_ 0 (.int .i64 (windowI e.J).1.1) rfl; have b181 := (H18.out.below hSw H18.out.lt).at_ 1 (.int .i64 (windowI e.J).1.2) rfl; have b240 := (H24.out.below hSw H24.out.lt).at_ 0 (.int .i64 (hearJ e.J r).1.1) rfl; have b241 := (H24.out.below hSw H24.out.lt).at_ 1 (.int .i64 (hearJ e.J r).1.2) rfl; have b260 := (H26.out.below hSw H26.out.lt).at_ 0 (.int .i64 (hearJ e.J r).1.1) rfl; have b261 := (H26.out.below hSw H26.out.lt).at_ 1 (.int .i64 (hearJ e.J r).1.2) rfl; have qW := neqR (windowI e.J).1.1 (windowI e.J).1.2; have qH := neqR (hearJ e.J r).1.1 (hearJ e.J r).1.2); go_simp <;> with_reducible rfl)
      (try simp only [Act.put, List.setIfInBounds_toArray, List.set_cons_zero, List.set_cons_succ])
      refine wpAnyH_take (i := 17) (oi := ⟨some 147, .pick (.tmp 143) (.const (.bool true)) (.tmp 146), 4, "law.go:38", #[⟨13, .data⟩, ⟨16, .data⟩], none⟩) (v := ?_) rfl (by kernel_rfl) (by kernel_rfl) (by kernel_rfl) (fun _ _ _ h => nomatch h.1) (.inl ⟨by rfl, ?_⟩) (by assumption) ?_
      rotate_left
      · (intro w' hSw; (try dsimp only at hSw); (have b160 := (H16.out.below hSw H16.out.lt).at_ 0 (.int .i64 (windowI e.J).1.1) rfl; have b161 := (H16.out.below hSw H16.out.lt).at_ 1 (.int .i64 (windowI e.J).1.2) rfl; have b180 := (H18.out.below hSw H18.out.lt).at_ 0 (.int .i64 (windowI e.J).1.1) rfl; have b181 := (H18.out.below hSw H18.out.lt).at_ 1 (.int .i64 (windowI e.J).1.2) rfl; have b240 := (H24.out.below hSw H24.out.lt).at_ 0 (.int .i64 (hearJ e.J r).1.1) rfl; have b241 := (H24.out.below hSw H24.out.lt).at_ 1 (.int .i64 (hearJ e.J r).1.2) rfl; have b260 := (H26.out.below hSw H26.out.lt).at_ 0 (.int .i64 (hearJ e.J r).1.1) rfl; have b261 := (H26.out.below hSw H26.out.lt).at_ 1 (.int .i64 (hearJ e.J r).1.2) rfl; have qW := neqR (windowI e.J).1.1 (windowI e.J).1.2; have qH := neqR (hearJ e.J r).1.1 (hearJ e.J r).1.2); go_simp <;> with_reducible rfl)
      (try simp only [Act.put, List.setIfInBounds_toArray, List.set_cons_zero, List.set_cons_succ])
      refine wpAnyH_take (i := 18) (oi := ⟨some 148, .move (.tmp 147), 4, "law.go:38", #[⟨17, .data⟩, ⟨13, .chain⟩], none⟩) (v := ?_) rfl (by kernel_rfl) (by kernel_rfl) (by kernel_rfl) (fun _ _ _ h => nomatch h.1) (.inl ⟨by rfl, ?_⟩) (by assumption) ?_
      rotate_left
      · (intro w' hSw; (try dsimp only at hSw); (have b160 := (H16.out.below hSw H16.out.lt).at_ 0 (.int .i64 (windowI e.J).1.1) rfl; have b161 := (H16.out.below hSw H16.out.lt).at_ 1 (.int .i64 (windowI e.J).1.2) rfl; have b180 := (H18.out.below hSw H18.out.lt).at_ 0 (.int .i64 (windowI e.J).1.1) rfl; have b181 := (H18.out.below hSw H18.out.lt).at_ 1 (.int .i64 (windowI e.J).1.2) rfl; have b240 := (H24.out.below hSw H24.out.lt).at_ 0 (.int .i64 (hearJ e.J r).1.1) rfl; have b241 := (H24.out.below hSw H24.out.lt).at_ 1 (.int .i64 (hearJ e.J r).1.2) rfl; have b260 := (H26.out.below hSw H26.out.lt).at_ 0 (.int .i64 (hearJ e.J r).1.1) rfl; have b261 := (H26.out.below hSw H26.out.lt).at_ 1 (.int .i64 (hearJ e.J r).1.2) rfl; have qW := neqR (windowI e.J).1.1 (windowI e.J).1.2; have qH := neqR (hearJ e.J r).1.1 (hearJ e.J r).1.2); go_simp <;> with_reducible rfl)
      (try simp only [Act.put, List.setIfInBounds_toArray, List.set_cons_zero, List.set_cons_succ])
      refine wpAnyH_take (i := 19) (oi := ⟨some 149, .move (.tmp 20), 3, "law.go:38", #[⟨18, .guard⟩], some (18, false)⟩) (v := ?_) rfl (by kernel_rfl) (by kernel_rfl) (by kernel_rfl) (fun _ _ _ h => nomatch h.1) (.inl ⟨by rfl, ?_⟩) (by assumption) ?_
      rotate_left
      · (intro w' hSw; (try dsimp only at hSw); (have b160 := (H16.out.below hSw H16.out.lt).at_ 0 (.int .i64 (windowI e.J).1.1) rfl; have b161 := (H16.out.below hSw H16.out.lt).at_ 1 (.int .i64 (windowI e.J).1.2) rfl; have b180 := (H18.out.below hSw H18.out.lt).at_ 0 (.int .i64 (windowI e.J).1.1) rfl; have b181 := (H18.out.below hSw H18.out.lt).at_ 1 (.int .i64 (windowI e.J).1.2) rfl; have b240 := (H24.out.below hSw H24.out.lt).at_ 0 (.int .i64 (hearJ e.J r).1.1) rfl; have b241 := (H24.out.below hSw H24.out.lt).at_ 1 (.int .i64 (hearJ e.J r).1.2) rfl; have b260 := (H26.out.below hSw H26.out.lt).at_ 0 (.int .i64 (hearJ e.J r).1.1) rfl; have b261 := (H26.out.below hSw H26.out.lt).at_ 1 (.int .i64 (hearJ e.J r).1.2) rfl; have qW := neqR (windowI e.J).1.1 (windowI e.J).1.2; have qH := neqR (hearJ e.J r).1.1 (hearJ e.J r).1.2); go_simp <;> with_reducible rfl)
      (try simp only [Act.put, List.setIfInBounds_toArray, List.set_cons_zero, List.set_cons_succ])
      refine wpAnyH_take (i := 20) (oi := ⟨some 150, .move (.tmp 22), 3, "law.go:38", #[⟨18, .guard⟩], some (18, false)⟩) (v := ?_) rfl (by kernel_rfl) (by kernel_rfl) (by kernel_rfl) (fun _ _ _ h => nomatch h.1) (.inl ⟨by rfl, ?_⟩) (by assumption) ?_
      rotate_left
      · (intro w' hSw; (try dsimp only at hSw); (have b160 := (H16.out.below hSw H16.out.lt).at_ 0 (.int .i64 (windowI e.J).1.1) rfl; have b161 := (H16.out.below hSw H16.out.lt).at_ 1 (.int .i64 (windowI e.J).1.2) rfl; have b180 := (H18.out.below hSw H18.out.lt).at_ 0 (.int .i64 (windowI e.J).1.1) rfl; have b181 := (H18.out.below hSw H18.out.lt).at_ 1 (.int .i64 (windowI e.J).1.2) rfl; have b240 := (H24.out.below hSw H24.out.lt).at_ 0 (.int .i64 (hearJ e.J r).1.1) rfl; have b241 := (H24.out.below hSw H24.out.lt).at_ 1 (.int .i64 (hearJ e.J r).1.2) rfl; have b260 := (H26.out.below hSw H26.out.lt).at_ 0 (.int .i64 (hearJ e.J r).1.1) rfl; have b261 := (H26.out.below hSw H26.out.lt).at_ 1 (.int .i64 (hearJ e.J r).1.2) rfl; have qW := neqR (windowI e.J).1.1 (windowI e.J).1.2; have qH := neqR (hearJ e.J r).1.1 (hearJ e.J r).1.2); go_simp <;> with_reducible rfl)
      (try simp only [Act.put, List.setIfInBounds_toArray, List.set_cons_zero, List.set_cons_succ])
      refine wpAnyH_take (i := 21) (oi := ⟨some 151, .binOp .neq 3 (.tmp 149) (.tmp 150) 3, 4, "law.go:38", #[⟨19, .data⟩, ⟨20, .data⟩, ⟨18, .guard⟩], some (18, false)⟩) (v := ?_) rfl (by kernel_rfl) (by kernel_rfl) (by kernel_rfl) (fun _ _ _ h => nomatch h.1) (.inl ⟨by rfl, ?_⟩) (by assumption) ?_
      rotate_left
      · (intro w' hSw; (try dsimp only at hSw); (have b160 := (H16.out.below hSw H16.out.lt).at_ 0 (.int .i64 (windowI e.J).1.1) rfl; have b161 := (H16.out.below hSw H16.out.lt).at_ 1 (.int .i64 (windowI e.J).1.2) rfl; have b180 := (H18.out.below hSw H18.out.lt).at_ 0 (.int .i64 (windowI e.J).1.1) rfl; have b181 := (H18.out.below hSw H18.out.lt).at_ 1 (.int .i64 (windowI e.J).1.2) rfl; have b240 := (H24.out.below hSw H24.out.lt).at_ 0 (.int .i64 (hearJ e.J r).1.1) rfl; have b241 := (H24.out.below hSw H24.out.lt).at_ 1 (.int .i64 (hearJ e.J r).1.2) rfl; have b260 := (H26.out.below hSw H26.out.lt).at_ 0 (.int .i64 (hearJ e.J r).1.1) rfl; have b261 := (H26.out.below hSw H26.out.lt).at_ 1 (.int .i64 (hearJ e.J r).1.2) rfl; have qW := neqR (windowI e.J).1.1 (windowI e.J).1.2; have qH := neqR (hearJ e.J r).1.1 (hearJ e.J r).1.2); go_simp <;> with_reducible rfl)
      (try simp only [Act.put, List.setIfInBounds_toArray, List.set_cons_zero, List.set_cons_succ])
      refine wpAnyH_take (i := 22) (oi := ⟨some 152, .pick (.tmp 148) (.const (.bool true)) (.tmp 151), 4, "law.go:38", #[⟨18, .data⟩, ⟨21, .data⟩], none⟩) (v := ?_) rfl (by kernel_rfl) (by kernel_rfl) (by kernel_rfl) (fun _ _ _ h => nomatch h.1) (.inl ⟨by rfl, ?_⟩) (by assumption) ?_
      rotate_left
      · (intro w' hSw; (try dsimp only at hSw); (have b160 := (H16.out.below hSw H16.out.lt).at_ 0 (.int .i64 (windowI e.J).1.1) rfl; have b161 := (H16.out.below hSw H16.out.lt).at_ 1 (.int .i64 (windowI e.J).1.2) rfl; have b180 := (H18.out.below hSw H18.out.lt).at_ 0 (.int .i64 (windowI e.J).1.1) rfl; have b181 := (H18.out.below hSw H18.out.lt).at_ 1 (.int .i64 (windowI e.J).1.2) rfl; have b240 := (H24.out.below hSw H24.out.lt).at_ 0 (.int .i64 (hearJ e.J r).1.1) rfl; have b241 := (H24.out.below hSw H24.out.lt).at_ 1 (.int .i64 (hearJ e.J r).1.2) rfl; have b260 := (H26.out.below hSw H26.out.lt).at_ 0 (.int .i64 (hearJ e.J r).1.1) rfl; have b261 := (H26.out.below hSw H26.out.lt).at_ 1 (.int .i64 (hearJ e.J r).1.2) rfl; have qW := neqR (windowI e.J).1.1 (windowI e.J).1.2; have qH := neqR (hearJ e.J r).1.1 (hearJ e.J r).1.2); go_simp <;> with_reducible rfl)
      (try simp only [Act.put, List.setIfInBounds_toArray, List.set_cons_zero, List.set_cons_succ])
      refine wpAnyH_take (i := 23) (oi := ⟨some 153, .move (.tmp 152), 4, "law.go:38", #[⟨22, .data⟩, ⟨18, .chain⟩], none⟩) (v := ?_) rfl (by kernel_rfl) (by kernel_rfl) (by kernel_rfl) (fun _ _ _ h => nomatch h.1) (.inl ⟨by rfl, ?_⟩) (by assumption) ?_
      rotate_left
      · (intro w' hSw; (try dsimp only at hSw); (have b160 := (H16.out.below hSw H16.out.lt).at_ 0 (.int .i64 (windowI e.J).1.1) rfl; have b161 := (H16.out.below hSw H16.out.lt).at_ 1 (.int .i64 (windowI e.J).1.2) rfl; have b180 := (H18.out.below hSw H18.out.lt).at_ 0 (.int .i64 (windowI e.J).1.1) rfl; have b181 := (H18.out.below hSw H18.out.lt).at_ 1 (.int .i64 (windowI e.J).1.2) rfl; have b240 := (H24.out.below hSw H24.out.lt).at_ 0 (.int .i64 (hearJ e.J r).1.1) rfl; have b241 := (H24.out.below hSw H24.out.lt).at_ 1 (.int .i64 (hearJ e.J r).1.2) rfl; have b260 := (H26.out.below hSw H26.out.lt).at_ 0 (.int .i64 (hearJ e.J r).1.1) rfl; have b261 := (H26.out.below hSw H26.out.lt).at_ 1 (.int .i64 (hearJ e.J r).1.2) rfl; have qW := neqR (windowI e.J).1.1 (windowI e.J).1.2; have qH := neqR (hearJ e.J r).1.1 (hearJ e.J r).1.2); go_simp <;> with_reducible rfl)
      (try simp only [Act.put, List.setIfInBounds_toArray, List.set_cons_zero, List.set_cons_succ])
      refine wpAnyH_take (i := 24) (oi := ⟨some 154, .move (.tmp 21), 39, "law.go:38", #[⟨23, .guard⟩], some (23, false)⟩) (v := ?_) rfl (by kernel_rfl) (by kernel_rfl) (by kernel_rfl) (fun _ _ _ h => nomatch h.1) (.inl ⟨by rfl, ?_⟩) (by assumption) ?_
      rotate_left
      · (intro w' hSw; (try dsimp only at hSw); (have b160 := (H16.out.below hSw H16.out.lt).at_ 0 (.int .i64 (windowI e.J).1.1) rfl; have b161 := (H16.out.below hSw H16.out.lt).at_ 1 (.int .i64 (windowI e.J).1.2) rfl; have b180 := (H18.out.below hSw H18.out.lt).at_ 0 (.int .i64 (windowI e.J).1.1) rfl; have b181 := (H18.out.below hSw H18.out.lt).at_ 1 (.int .i64 (windowI e.J).1.2) rfl; have b240 := (H24.out.below hSw H24.out.lt).at_ 0 (.int .i64 (hearJ e.J r).1.1) rfl; have b241 := (H24.out.below hSw H24.out.lt).at_ 1 (.int .i64 (hearJ e.J r).1.2) rfl; have b260 := (H26.out.below hSw H26.out.lt).at_ 0 (.int .i64 (hearJ e.J r).1.1) rfl; have b261 := (H26.out.below hSw H26.out.lt).at_ 1 (.int .i64 (hearJ e.J r).1.2) rfl; have qW := neqR (windowI e.J).1.1 (windowI e.J).1.2; have qH := neqR (hearJ e.J r).1.1 (hearJ e.J r).1.2); go_simp <;> with_reducible rfl)
      (try simp only [Act.put, List.setIfInBounds_toArray, List.set_cons_zero, List.set_cons_succ])
      refine wpAnyH_take (i := 25) (oi := ⟨some 155, .move (.tmp 23), 39, "law.go:38", #[⟨23, .guard⟩], some (23, false)⟩) (v := ?_) rfl (by kernel_rfl) (by kernel_rfl) (by kernel_rfl) (fun _ _ _ h => nomatch h.1) (.inl ⟨by rfl, ?_⟩) (by assumption) ?_
      rotate_left
      · (intro w' hSw; (try dsimp only at hSw); (have b160 := (H16.out.below hSw H16.out.lt).at_ 0 (.int .i64 (windowI e.J).1.1) rfl; have b161 := (H16.out.below hSw H16.out.lt).at_ 1 (.int .i64 (windowI e.J).1.2) rfl; have b180 := (H18.out.below hSw H18.out.lt).at_ 0 (.int .i64 (windowI e.J).1.1) rfl; have b181 := (H18.out.below hSw H18.out.lt).at_ 1 (.int .i64 (windowI e.J).1.2) rfl; have b240 := (H24.out.below hSw H24.out.lt).at_ 0 (.int .i64 (hearJ e.J r).1.1) rfl; have b241 := (H24.out.below hSw H24.out.lt).at_ 1 (.int .i64 (hearJ e.J r).1.2) rfl; have b260 := (H26.out.below hSw H26.out.lt).at_ 0 (.int .i64 (hearJ e.J r).1.1) rfl; have b261 := (H26.out.below hSw H26.out.lt).at_ 1 (.int .i64 (hearJ e.J r).1.2) rfl; have qW := neqR (windowI e.J).1.1 (windowI e.J).1.2; have qH := neqR (hearJ e.J r).1.1 (hearJ e.J r).1.2); go_simp <;> with_reducible rfl)
      (try simp only [Act.put, List.setIfInBounds_toArray, List.set_cons_zero, List.set_cons_succ])
      refine wpAnyH_take (i := 26) (oi := ⟨some 156, .binOp .neq 39 (.tmp 154) (.tmp 155) 39, 4, "law.go:38", #[⟨24, .data⟩, ⟨25, .data⟩, ⟨23, .guard⟩], some (23, false)⟩) (v := ?_) rfl (by kernel_rfl) (by kernel_rfl) (by kernel_rfl) (fun _ _ _ h => nomatch h.1) (.inl ⟨by rfl, ?_⟩) (by assumption) ?_
      rotate_left
      · (intro w' hSw; (try dsimp only at hSw); (have b160 := (H16.out.below hSw H16.out.lt).at_ 0 (.int .i64 (windowI e.J).1.1) rfl; have b161 := (H16.out.below hSw H16.out.lt).at_ 1 (.int .i64 (windowI e.J).1.2) rfl; have b180 := (H18.out.below hSw H18.out.lt).at_ 0 (.int .i64 (windowI e.J).1.1) rfl; have b181 := (H18.out.below hSw H18.out.lt).at_ 1 (.int .i64 (windowI e.J).1.2) rfl; have b240 := (H24.out.below hSw H24.out.lt).at_ 0 (.int .i64 (hearJ e.J r).1.1) rfl; have b241 := (H24.out.below hSw H24.out.lt).at_ 1 (.int .i64 (hearJ e.J r).1.2) rfl; have b260 := (H26.out.below hSw H26.out.lt).at_ 0 (.int .i64 (hearJ e.J r).1.1) rfl; have b261 := (H26.out.below hSw H26.out.lt).at_ 1 (.int .i64 (hearJ e.J r).1.2) rfl; have qW := neqR (windowI e.J).1.1 (windowI e.J).1.2; have qH := neqR (hearJ e.J r).1.1 (hearJ e.J r).1.2); go_simp <;> with_reducible rfl)
      (try simp only [Act.put, List.setIfInBounds_toArray, List.set_cons_zero, List.set_cons_succ])
      refine wpAnyH_take (i := 27) (oi := ⟨some 157, .pick (.tmp 153) (.const (.bool true)) (.tmp 156), 4, "law.go:38", #[⟨23, .data⟩, ⟨26, .data⟩], none⟩) (v := ?_) rfl (by kernel_rfl) (by kernel_rfl) (by kernel_rfl) (fun _ _ _ h => nomatch h.1) (.inl ⟨by rfl, ?_⟩) (by assumption) ?_
      rotate_left
      · (intro w' hSw; (try dsimp only at hSw); (have b160 := (H16.out.below hSw H16.out.lt).at_ 0 (.int .i64 (windowI e.J).1.1) rfl; have b161 := (H16.out.below hSw H16.out.lt).at_ 1 (.int .i64 (windowI e.J).1.2) rfl; have b180 := (H18.out.below hSw H18.out.lt).at_ 0 (.int .i64 (windowI e.J).1.1) rfl; have b181 := (H18.out.below hSw H18.out.lt).at_ 1 (.int .i64 (windowI e.J).1.2) rfl; have b240 := (H24.out.below hSw H24.out.lt).at_ 0 (.int .i64 (hearJ e.J r).1.1) rfl; have b241 := (H24.out.below hSw H24.out.lt).at_ 1 (.int .i64 (hearJ e.J r).1.2) rfl; have b260 := (H26.out.below hSw H26.out.lt).at_ 0 (.int .i64 (hearJ e.J r).1.1) rfl; have b261 := (H26.out.below hSw H26.out.lt).at_ 1 (.int .i64 (hearJ e.J r).1.2) rfl; have qW := neqR (windowI e.J).1.1 (windowI e.J).1.2; have qH := neqR (hearJ e.J r).1.1 (hearJ e.J r).1.2); go_simp <;> with_reducible rfl)
      (try simp only [Act.put, List.setIfInBounds_toArray, List.set_cons_zero, List.set_cons_succ])
      refine wpAnyH_take (i := 28) (oi := ⟨some 158, .move (.tmp 157), 4, "law.go:38", #[⟨27, .data⟩, ⟨23, .chain⟩], none⟩) (v := ?_) rfl (by kernel_rfl) (by kernel_rfl) (by kernel_rfl) (fun _ _ _ h => nomatch h.1) (.inl ⟨by rfl, ?_⟩) (by assumption) ?_
      rotate_left
      · (intro w' hSw; (try dsimp only at hSw); (have b160 := (H16.out.below hSw H16.out.lt).at_ 0 (.int .i64 (windowI e.J).1.1) rfl; have b161 := (H16.out.below hSw H16.out.lt).at_ 1 (.int .i64 (windowI e.J).1.2) rfl; have b180 := (H18.out.below hSw H18.out.lt).at_ 0 (.int .i64 (windowI e.J).1.1) rfl; have b181 := (H18.out.below hSw H18.out.lt).at_ 1 (.int .i64 (windowI e.J).1.2) rfl; have b240 := (H24.out.below hSw H24.out.lt).at_ 0 (.int .i64 (hearJ e.J r).1.1) rfl; have b241 := (H24.out.below hSw H24.out.lt).at_ 1 (.int .i64 (hearJ e.J r).1.2) rfl; have b260 := (H26.out.below hSw H26.out.lt).at_ 0 (.int .i64 (hearJ e.J r).1.1) rfl; have b261 := (H26.out.below hSw H26.out.lt).at_ 1 (.int .i64 (hearJ e.J r).1.2) rfl; have qW := neqR (windowI e.J).1.1 (windowI e.J).1.2; have qH := neqR (hearJ e.J r).1.1 (hearJ e.J r).1.2); go_simp <;> with_reducible rfl)
      (try simp only [Act.put, List.setIfInBounds_toArray, List.set_cons_zero, List.set_cons_succ])
      refine wpAnyH_take (i := 29) (oi := ⟨some 159, .load 23 (.tmp 24), 23, "law.go:38", #[⟨28, .guard⟩], some (28, false)⟩) (v := ?_) rfl (by kernel_rfl) (by kernel_rfl) (by kernel_rfl) (fun _ _ _ h => nomatch h.1) (.inl ⟨by rfl, ?_⟩) (by assumption) ?_
      rotate_left
      · (intro w' hSw; (try dsimp only at hSw); (have b160 := (H16.out.below hSw H16.out.lt).at_ 0 (.int .i64 (windowI e.J).1.1) rfl; have b161 := (H16.out.below hSw H16.out.lt).at_ 1 (.int .i64 (windowI e.J).1.2) rfl; have b180 := (H18.out.below hSw H18.out.lt).at_ 0 (.int .i64 (windowI e.J).1.1) rfl; have b181 := (H18.out.below hSw H18.out.lt).at_ 1 (.int .i64 (windowI e.J).1.2) rfl; have b240 := (H24.out.below hSw H24.out.lt).at_ 0 (.int .i64 (hearJ e.J r).1.1) rfl; have b241 := (H24.out.below hSw H24.out.lt).at_ 1 (.int .i64 (hearJ e.J r).1.2) rfl; have b260 := (H26.out.below hSw H26.out.lt).at_ 0 (.int .i64 (hearJ e.J r).1.1) rfl; have b261 := (H26.out.below hSw H26.out.lt).at_ 1 (.int .i64 (hearJ e.J r).1.2) rfl; have qW := neqR (windowI e.J).1.1 (windowI e.J).1.2; have qH := neqR (hearJ e.J r).1.1 (hearJ e.J r).1.2); go_simp <;> with_reducible rfl)
      (try simp only [Act.put, List.setIfInBounds_toArray, List.set_cons_zero, List.set_cons_succ])
      refine wpAnyH_take (i := 30) (oi := ⟨some 160, .load 23 (.tmp 26), 23, "law.go:38", #[⟨28, .guard⟩], some (28, false)⟩) (v := ?_) rfl (by kernel_rfl) (by kernel_rfl) (by kernel_rfl) (fun _ _ _ h => nomatch h.1) (.inl ⟨by rfl, ?_⟩) (by assumption) ?_
      rotate_left
      · (intro w' hSw; (try dsimp only at hSw); (have b160 := (H16.out.below hSw H16.out.lt).at_ 0 (.int .i64 (windowI e.J).1.1) rfl; have b161 := (H16.out.below hSw H16.out.lt).at_ 1 (.int .i64 (windowI e.J).1.2) rfl; have b180 := (H18.out.below hSw H18.out.lt).at_ 0 (.int .i64 (windowI e.J).1.1) rfl; have b181 := (H18.out.below hSw H18.out.lt).at_ 1 (.int .i64 (windowI e.J).1.2) rfl; have b240 := (H24.out.below hSw H24.out.lt).at_ 0 (.int .i64 (hearJ e.J r).1.1) rfl; have b241 := (H24.out.below hSw H24.out.lt).at_ 1 (.int .i64 (hearJ e.J r).1.2) rfl; have b260 := (H26.out.below hSw H26.out.lt).at_ 0 (.int .i64 (hearJ e.J r).1.1) rfl; have b261 := (H26.out.below hSw H26.out.lt).at_ 1 (.int .i64 (hearJ e.J r).1.2) rfl; have qW := neqR (windowI e.J).1.1 (windowI e.J).1.2; have qH := neqR (hearJ e.J r).1.1 (hearJ e.J r).1.2); go_simp <;> with_reducible rfl)
      (try simp only [Act.put, List.setIfInBounds_toArray, List.set_cons_zero, List.set_cons_succ])
      refine wpAnyH_take (i := 31) (oi := ⟨some 161, .binOp .neq 23 (.tmp 159) (.tmp 160) 23, 4, "law.go:38", #[⟨29, .data⟩, ⟨30, .data⟩, ⟨28, .guard⟩], some (28, false)⟩) (v := ?_) rfl (by kernel_rfl) (by kernel_rfl) (by kernel_rfl) (fun _ _ _ h => nomatch h.1) (.inl ⟨by rfl, ?_⟩) (by assumption) ?_
      rotate_left
      · (intro w' hSw; (try dsimp only at hSw); (have b160 := (H16.out.below hSw H16.out.lt).at_ 0 (.int .i64 (windowI e.J).1.1) rfl; have b161 := (H16.out.below hSw H16.out.lt).at_ 1 (.int .i64 (windowI e.J).1.2) rfl; have b180 := (H18.out.below hSw H18.out.lt).at_ 0 (.int .i64 (windowI e.J).1.1) rfl; have b181 := (H18.out.below hSw H18.out.lt).at_ 1 (.int .i64 (windowI e.J).1.2) rfl; have b240 := (H24.out.below hSw H24.out.lt).at_ 0 (.int .i64 (hearJ e.J r).1.1) rfl; have b241 := (H24.out.below hSw H24.out.lt).at_ 1 (.int .i64 (hearJ e.J r).1.2) rfl; have b260 := (H26.out.below hSw H26.out.lt).at_ 0 (.int .i64 (hearJ e.J r).1.1) rfl; have b261 := (H26.out.below hSw H26.out.lt).at_ 1 (.int .i64 (hearJ e.J r).1.2) rfl; have qW := neqR (windowI e.J).1.1 (windowI e.J).1.2; have qH := neqR (hearJ e.J r).1.1 (hearJ e.J r).1.2); go_simp <;> with_reducible rfl)
      (try simp only [Act.put, List.setIfInBounds_toArray, List.set_cons_zero, List.set_cons_succ])
      refine wpAnyH_take (i := 32) (oi := ⟨some 162, .pick (.tmp 158) (.const (.bool true)) (.tmp 161), 4, "law.go:38", #[⟨28, .data⟩, ⟨31, .data⟩], none⟩) (v := ?_) rfl (by kernel_rfl) (by kernel_rfl) (by kernel_rfl) (fun _ _ _ h => nomatch h.1) (.inl ⟨by rfl, ?_⟩) (by assumption) ?_
      rotate_left
      · (intro w' hSw; (try dsimp only at hSw); (have b160 := (H16.out.below hSw H16.out.lt).at_ 0 (.int .i64 (windowI e.J).1.1) rfl; have b161 := (H16.out.below hSw H16.out.lt).at_ 1 (.int .i64 (windowI e.J).1.2) rfl; have b180 := (H18.out.below hSw H18.out.lt).at_ 0 (.int .i64 (windowI e.J).1.1) rfl; have b181 := (H18.out.below hSw H18.out.lt).at_ 1 (.int .i64 (windowI e.J).1.2) rfl; have b240 := (H24.out.below hSw H24.out.lt).at_ 0 (.int .i64 (hearJ e.J r).1.1) rfl; have b241 := (H24.out.below hSw H24.out.lt).at_ 1 (.int .i64 (hearJ e.J r).1.2) rfl; have b260 := (H26.out.below hSw H26.out.lt).at_ 0 (.int .i64 (hearJ e.J r).1.1) rfl; have b261 := (H26.out.below hSw H26.out.lt).at_ 1 (.int .i64 (hearJ e.J r).1.2) rfl; have qW := neqR (windowI e.J).1.1 (windowI e.J).1.2; have qH := neqR (hearJ e.J r).1.1 (hearJ e.J r).1.2); go_simp <;> with_reducible rfl)
      (try simp only [Act.put, List.setIfInBounds_toArray, List.set_cons_zero, List.set_cons_succ])
      refine wpAnyH_take (i := 33) (oi := ⟨some 163, .move (.tmp 162), 4, "law.go:38", #[⟨32, .data⟩, ⟨28, .chain⟩], none⟩) (v := ?_) rfl (by kernel_rfl) (by kernel_rfl) (by kernel_rfl) (fun _ _ _ h => nomatch h.1) (.inl ⟨by rfl, ?_⟩) (by assumption) ?_
      rotate_left
      · (intro w' hSw; (try dsimp only at hSw); (have b160 := (H16.out.below hSw H16.out.lt).at_ 0 (.int .i64 (windowI e.J).1.1) rfl; have b161 := (H16.out.below hSw H16.out.lt).at_ 1 (.int .i64 (windowI e.J).1.2) rfl; have b180 := (H18.out.below hSw H18.out.lt).at_ 0 (.int .i64 (windowI e.J).1.1) rfl; have b181 := (H18.out.below hSw H18.out.lt).at_ 1 (.int .i64 (windowI e.J).1.2) rfl; have b240 := (H24.out.below hSw H24.out.lt).at_ 0 (.int .i64 (hearJ e.J r).1.1) rfl; have b241 := (H24.out.below hSw H24.out.lt).at_ 1 (.int .i64 (hearJ e.J r).1.2) rfl; have b260 := (H26.out.below hSw H26.out.lt).at_ 0 (.int .i64 (hearJ e.J r).1.1) rfl; have b261 := (H26.out.below hSw H26.out.lt).at_ 1 (.int .i64 (hearJ e.J r).1.2) rfl; have qW := neqR (windowI e.J).1.1 (windowI e.J).1.2; have qH := neqR (hearJ e.J r).1.1 (hearJ e.J r).1.2); go_simp <;> with_reducible rfl)
      (try simp only [Act.put, List.setIfInBounds_toArray, List.set_cons_zero, List.set_cons_succ])
      refine wpAnyH_take (i := 34) (oi := ⟨some 164, .move (.tmp 25), 39, "law.go:38", #[⟨33, .guard⟩], some (33, false)⟩) (v := ?_) rfl (by kernel_rfl) (by kernel_rfl) (by kernel_rfl) (fun _ _ _ h => nomatch h.1) (.inl ⟨by rfl, ?_⟩) (by assumption) ?_
      rotate_left
      · (intro w' hSw; (try dsimp only at hSw); (have b160 := (H16.out.below hSw H16.out.lt).at_ 0 (.int .i64 (windowI e.J).1.1) rfl; have b161 := (H16.out.below hSw H16.out.lt).at_ 1 (.int .i64 (windowI e.J).1.2) rfl; have b180 := (H18.out.below hSw H18.out.lt).at_ 0 (.int .i64 (windowI e.J).1.1) rfl; have b181 := (H18.out.below hSw H18.out.lt).at_ 1 (.int .i64 (windowI e.J).1.2) rfl; have b240 := (H24.out.below hSw H24.out.lt).at_ 0 (.int .i64 (hearJ e.J r).1.1) rfl; have b241 := (H24.out.below hSw H24.out.lt).at_ 1 (.int .i64 (hearJ e.J r).1.2) rfl; have b260 := (H26.out.below hSw H26.out.lt).at_ 0 (.int .i64 (hearJ e.J r).1.1) rfl; have b261 := (H26.out.below hSw H26.out.lt).at_ 1 (.int .i64 (hearJ e.J r).1.2) rfl; have qW := neqR (windowI e.J).1.1 (windowI e.J).1.2; have qH := neqR (hearJ e.J r).1.1 (hearJ e.J r).1.2); go_simp <;> with_reducible rfl)
      (try simp only [Act.put, List.setIfInBounds_toArray, List.set_cons_zero, List.set_cons_succ])
      refine wpAnyH_take (i := 35) (oi := ⟨some 165, .move (.tmp 27), 39, "law.go:38", #[⟨33, .guard⟩], some (33, false)⟩) (v := ?_) rfl (by kernel_rfl) (by kernel_rfl) (by kernel_rfl) (fun _ _ _ h => nomatch h.1) (.inl ⟨by rfl, ?_⟩) (by assumption) ?_
      rotate_left
      · (intro w' hSw; (try dsimp only at hSw); (have b160 := (H16.out.below hSw H16.out.lt).at_ 0 (.int .i64 (windowI e.J).1.1) rfl; have b161 := (H16.out.below hSw H16.out.lt).at_ 1 (.int .i64 (windowI e.J).1.2) rfl; have b180 := (H18.out.below hSw H18.out.lt).at_ 0 (.int .i64 (windowI e.J).1.1) rfl; have b181 := (H18.out.below hSw H18.out.lt).at_ 1 (.int .i64 (windowI e.J).1.2) rfl; have b240 := (H24.out.below hSw H24.out.lt).at_ 0 (.int .i64 (hearJ e.J r).1.1) rfl; have b241 := (H24.out.below hSw H24.out.lt).at_ 1 (.int .i64 (hearJ e.J r).1.2) rfl; have b260 := (H26.out.below hSw H26.out.lt).at_ 0 (.int .i64 (hearJ e.J r).1.1) rfl; have b261 := (H26.out.below hSw H26.out.lt).at_ 1 (.int .i64 (hearJ e.J r).1.2) rfl; have qW := neqR (windowI e.J).1.1 (windowI e.J).1.2; have qH := neqR (hearJ e.J r).1.1 (hearJ e.J r).1.2); go_simp <;> with_reducible rfl)
      (try simp only [Act.put, List.setIfInBounds_toArray, List.set_cons_zero, List.set_cons_succ])
      refine wpAnyH_take (i := 36) (oi := ⟨some 166, .binOp .neq 39 (.tmp 164) (.tmp 165) 39, 4, "law.go:38", #[⟨34, .data⟩, ⟨35, .data⟩, ⟨33, .guard⟩], some (33, false)⟩) (v := ?_) rfl (by kernel_rfl) (by kernel_rfl) (by kernel_rfl) (fun _ _ _ h => nomatch h.1) (.inl ⟨by rfl, ?_⟩) (by assumption) ?_
      rotate_left
      · (intro w' hSw; (try dsimp only at hSw); (have b160 := (H16.out.below hSw H16.out.lt).at_ 0 (.int .i64 (windowI e.J).1.1) rfl; have b161 := (H16.out.below hSw H16.out.lt).at_ 1 (.int .i64 (windowI e.J).1.2) rfl; have b180 := (H18.out.below hSw H18.out.lt).at_ 0 (.int .i64 (windowI e.J).1.1) rfl; have b181 := (H18.out.below hSw H18.out.lt).at_ 1 (.int .i64 (windowI e.J).1.2) rfl; have b240 := (H24.out.below hSw H24.out.lt).at_ 0 (.int .i64 (hearJ e.J r).1.1) rfl; have b241 := (H24.out.below hSw H24.out.lt).at_ 1 (.int .i64 (hearJ e.J r).1.2) rfl; have b260 := (H26.out.below hSw H26.out.lt).at_ 0 (.int .i64 (hearJ e.J r).1.1) rfl; have b261 := (H26.out.below hSw H26.out.lt).at_ 1 (.int .i64 (hearJ e.J r).1.2) rfl; have qW := neqR (windowI e.J).1.1 (windowI e.J).1.2; have qH := neqR (hearJ e.J r).1.1 (hearJ e.J r).1.2); go_simp <;> with_reducible rfl)
      (try simp only [Act.put, List.setIfInBounds_toArray, List.set_cons_zero, List.set_cons_succ])
      refine wpAnyH_take (i := 37) (oi := ⟨some 167, .pick (.tmp 163) (.const (.bool true)) (.tmp 166), 4, "law.go:38", #[⟨33, .data⟩, ⟨36, .data⟩], none⟩) (v := ?_) rfl (by kernel_rfl) (by kernel_rfl) (by kernel_rfl) (fun _ _ _ h => nomatch h.1) (.inl ⟨by rfl, ?_⟩) (by assumption) ?_
      rotate_left
      · (intro w' hSw; (try dsimp only at hSw); (have b160 := (H16.out.below hSw H16.out.lt).at_ 0 (.int .i64 (windowI e.J).1.1) rfl; have b161 := (H16.out.below hSw H16.out.lt).at_ 1 (.int .i64 (windowI e.J).1.2) rfl; have b180 := (H18.out.below hSw H18.out.lt).at_ 0 (.int .i64 (windowI e.J).1.1) rfl; have b181 := (H18.out.below hSw H18.out.lt).at_ 1 (.int .i64 (windowI e.J).1.2) rfl; have b240 := (H24.out.below hSw H24.out.lt).at_ 0 (.int .i64 (hearJ e.J r).1.1) rfl; have b241 := (H24.out.below hSw H24.out.lt).at_ 1 (.int .i64 (hearJ e.J r).1.2) rfl; have b260 := (H26.out.below hSw H26.out.lt).at_ 0 (.int .i64 (hearJ e.J r).1.1) rfl; have b261 := (H26.out.below hSw H26.out.lt).at_ 1 (.int .i64 (hearJ e.J r).1.2) rfl; have qW := neqR (windowI e.J).1.1 (windowI e.J).1.2; have qH := neqR (hearJ e.J r).1.1 (hearJ e.J r).1.2); go_simp <;> with_reducible rfl)
      (try simp only [Act.put, List.setIfInBounds_toArray, List.set_cons_zero, List.set_cons_succ])
      refine wpAnyH_take (i := 38) (oi := ⟨some 168, .move (.tmp 167), 4, "law.go:38", #[⟨37, .data⟩, ⟨33, .chain⟩], none⟩) (v := ?_) rfl (by kernel_rfl) (by kernel_rfl) (by kernel_rfl) (fun _ _ _ h => nomatch h.1) (.inl ⟨by rfl, ?_⟩) (by assumption) ?_
      rotate_left
      · (intro w' hSw; (try dsimp only at hSw); (have b160 := (H16.out.below hSw H16.out.lt).at_ 0 (.int .i64 (windowI e.J).1.1) rfl; have b161 := (H16.out.below hSw H16.out.lt).at_ 1 (.int .i64 (windowI e.J).1.2) rfl; have b180 := (H18.out.below hSw H18.out.lt).at_ 0 (.int .i64 (windowI e.J).1.1) rfl; have b181 := (H18.out.below hSw H18.out.lt).at_ 1 (.int .i64 (windowI e.J).1.2) rfl; have b240 := (H24.out.below hSw H24.out.lt).at_ 0 (.int .i64 (hearJ e.J r).1.1) rfl; have b241 := (H24.out.below hSw H24.out.lt).at_ 1 (.int .i64 (hearJ e.J r).1.2) rfl; have b260 := (H26.out.below hSw H26.out.lt).at_ 0 (.int .i64 (hearJ e.J r).1.1) rfl; have b261 := (H26.out.below hSw H26.out.lt).at_ 1 (.int .i64 (hearJ e.J r).1.2) rfl; have qW := neqR (windowI e.J).1.1 (windowI e.J).1.2; have qH := neqR (hearJ e.J r).1.1 (hearJ e.J r).1.2); go_simp <;> with_reducible rfl)
      (try simp only [Act.put, List.setIfInBounds_toArray, List.set_cons_zero, List.set_cons_succ])
      refine wpAnyH_take (i := 39) (oi := ⟨some 169, .load 30 (.tmp 15), 30, "law.go:38", #[⟨38, .guard⟩], some (38, false)⟩) rfl (by kernel_rfl) (by kernel_rfl) (by kernel_rfl) (fun _ _ _ h => nomatch h.1) (yields_row (by rfl) 30 _ rfl g15 (jobC e.J (.slice oa e.n oc)) rfl 30 (fun w' hw => H15.out.below hw H15.out.lt) Try.underlying30 szJob) (by assumption) ?_
      (try simp only [Act.put, List.setIfInBounds_toArray, List.set_cons_zero, List.set_cons_succ])
      refine wpAnyH_take (i := 40) (oi := ⟨some 170, .move (.tmp 12), 37, "law.go:38", #[⟨38, .guard⟩], some (38, false)⟩) (v := ?_) rfl (by kernel_rfl) (by kernel_rfl) (by kernel_rfl) (fun _ _ _ h => nomatch h.1) (.inl ⟨by rfl, ?_⟩) (by assumption) ?_
      rotate_left
      · (intro w' hSw; (try dsimp only at hSw); (have b160 := (H16.out.below hSw H16.out.lt).at_ 0 (.int .i64 (windowI e.J).1.1) rfl; have b161 := (H16.out.below hSw H16.out.lt).at_ 1 (.int .i64 (windowI e.J).1.2) rfl; have b180 := (H18.out.below hSw H18.out.lt).at_ 0 (.int .i64 (windowI e.J).1.1) rfl; have b181 := (H18.out.below hSw H18.out.lt).at_ 1 (.int .i64 (windowI e.J).1.2) rfl; have b240 := (H24.out.below hSw H24.out.lt).at_ 0 (.int .i64 (hearJ e.J r).1.1) rfl; have b241 := (H24.out.below hSw H24.out.lt).at_ 1 (.int .i64 (hearJ e.J r).1.2) rfl; have b260 := (H26.out.below hSw H26.out.lt).at_ 0 (.int .i64 (hearJ e.J r).1.1) rfl; have b261 := (H26.out.below hSw H26.out.lt).at_ 1 (.int .i64 (hearJ e.J r).1.2) rfl; have qW := neqR (windowI e.J).1.1 (windowI e.J).1.2; have qH := neqR (hearJ e.J r).1.1 (hearJ e.J r).1.2); go_simp <;> with_reducible rfl)
      (try simp only [Act.put, List.setIfInBounds_toArray, List.set_cons_zero, List.set_cons_succ])
      refine wpAnyH_take (i := 41) (oi := ⟨some 171, .move (.tmp 14), 3, "law.go:38", #[⟨38, .guard⟩], some (38, false)⟩) (v := ?_) rfl (by kernel_rfl) (by kernel_rfl) (by kernel_rfl) (fun _ _ _ h => nomatch h.1) (.inl ⟨by rfl, ?_⟩) (by assumption) ?_
      rotate_left
      · (intro w' hSw; (try dsimp only at hSw); (have b160 := (H16.out.below hSw H16.out.lt).at_ 0 (.int .i64 (windowI e.J).1.1) rfl; have b161 := (H16.out.below hSw H16.out.lt).at_ 1 (.int .i64 (windowI e.J).1.2) rfl; have b180 := (H18.out.below hSw H18.out.lt).at_ 0 (.int .i64 (windowI e.J).1.1) rfl; have b181 := (H18.out.below hSw H18.out.lt).at_ 1 (.int .i64 (windowI e.J).1.2) rfl; have b240 := (H24.out.below hSw H24.out.lt).at_ 0 (.int .i64 (hearJ e.J r).1.1) rfl; have b241 := (H24.out.below hSw H24.out.lt).at_ 1 (.int .i64 (hearJ e.J r).1.2) rfl; have b260 := (H26.out.below hSw H26.out.lt).at_ 0 (.int .i64 (hearJ e.J r).1.1) rfl; have b261 := (H26.out.below hSw H26.out.lt).at_ 1 (.int .i64 (hearJ e.J r).1.2) rfl; have qW := neqR (windowI e.J).1.1 (windowI e.J).1.2; have qH := neqR (hearJ e.J r).1.1 (hearJ e.J r).1.2); go_simp <;> with_reducible rfl)
      (try simp only [Act.put, List.setIfInBounds_toArray, List.set_cons_zero, List.set_cons_succ])
      refine wpAnyH_take (i := 42) (oi := ⟨some 172, .indexAddr 37 (.tmp 170) (.tmp 171), 0, "law.go:38", #[⟨40, .data⟩, ⟨41, .data⟩, ⟨38, .guard⟩], some (38, false)⟩) (v := ?_) rfl (by kernel_rfl) (by kernel_rfl) (by kernel_rfl) (fun _ _ _ h => nomatch h.1) (.inl ⟨by rfl, ?_⟩) (by assumption) ?_
      rotate_left
      · (intro w' hSw; (try dsimp only at hSw); (have b160 := (H16.out.below hSw H16.out.lt).at_ 0 (.int .i64 (windowI e.J).1.1) rfl; have b161 := (H16.out.below hSw H16.out.lt).at_ 1 (.int .i64 (windowI e.J).1.2) rfl; have b180 := (H18.out.below hSw H18.out.lt).at_ 0 (.int .i64 (windowI e.J).1.1) rfl; have b181 := (H18.out.below hSw H18.out.lt).at_ 1 (.int .i64 (windowI e.J).1.2) rfl; have b240 := (H24.out.below hSw H24.out.lt).at_ 0 (.int .i64 (hearJ e.J r).1.1) rfl; have b241 := (H24.out.below hSw H24.out.lt).at_ 1 (.int .i64 (hearJ e.J r).1.2) rfl; have b260 := (H26.out.below hSw H26.out.lt).at_ 0 (.int .i64 (hearJ e.J r).1.1) rfl; have b261 := (H26.out.below hSw H26.out.lt).at_ 1 (.int .i64 (hearJ e.J r).1.2) rfl; have qW := neqR (windowI e.J).1.1 (windowI e.J).1.2; have qH := neqR (hearJ e.J r).1.1 (hearJ e.J r).1.2); go_simp <;> with_reducible rfl)
      (try simp only [Act.put, List.setIfInBounds_toArray, List.set_cons_zero, List.set_cons_succ])
      refine wpAnyH_take (i := 43) (oi := ⟨some 173, .load 30 (.tmp 172), 30, "law.go:38", #[⟨42, .data⟩, ⟨38, .guard⟩], some (38, false)⟩) rfl (by kernel_rfl) (by kernel_rfl) (by kernel_rfl) (fun _ _ _ h => nomatch h.1) (yields_mid (by rfl) 30 _ rfl g (k * 18) rfl (jobC e.J (.slice e.a e.n e.c)) _ (fun w' hw => HS.out.row HK.out (HB.out.trans (hw.mono hwz))) Try.underlying30 rfl szJob) (by assumption) ?_
      (try simp only [Act.put, List.setIfInBounds_toArray, List.set_cons_zero, List.set_cons_succ])
      refine wpAnyH_ready (rs := [44]) (by kernel_rfl) (by simp) ?_
      refine AllReadyH.cons (o := ⟨some 174, .call { callee := .value (.func 18), args := #[.tmp 169, .tmp 173], argTypes := #[30, 30] }, 4, "law.go:38", #[⟨39, .data⟩, ⟨43, .data⟩, ⟨38, .chain⟩, ⟨38, .guard⟩], some (38, false)⟩) rfl (fun K hK => ?_) ?_
      · go_simp
        go_at_call 18
        refine (sameJobs_any e.J oa e.a e.n oc e.c _ HEN.out (by omega) (HO.out.up hBW) (HRG.out.up hBW)).mono ?_
        rintro e' wX ⟨rfl, hbX⟩
        have hB_ := hBW.trans (hbX.mono hBW.size)
        clear hBW hbX
        have hBW := hB_
        clear hB_
        go_wp2_with fail
        refine hK.out _ _ hBW (fun _ => ?_)
        clear hK K
        (try simp only [Act.put, List.setIfInBounds_toArray, List.set_cons_zero, List.set_cons_succ])
        refine wpAnyH_take (i := 45) (oi := ⟨some 175, .unOp .not 4 (.tmp 174), 4, "law.go:38", #[⟨44, .data⟩, ⟨38, .guard⟩], some (38, false)⟩) (v := ?_) rfl (by kernel_rfl) (by kernel_rfl) (by kernel_rfl) (fun _ _ _ h => nomatch h.1) (.inl ⟨by rfl, ?_⟩) (by assumption) ?_
        rotate_left
        · (intro w' hSw; (try dsimp only at hSw); (have b160 := (H16.out.below hSw H16.out.lt).at_ 0 (.int .i64 (windowI e.J).1.1) rfl; have b161 := (H16.out.below hSw H16.out.lt).at_ 1 (.int .i64 (windowI e.J).1.2) rfl; have b180 := (H18.out.below hSw H18.out.lt).at_ 0 (.int .i64 (windowI e.J).1.1) rfl; have b181 := (H18.out.below hSw H18.out.lt).at_ 1 (.int .i64 (windowI e.J).1.2) rfl; have b240 := (H24.out.below hSw H24.out.lt).at_ 0 (.int .i64 (hearJ e.J r).1.1) rfl; have b241 := (H24.out.below hSw H24.out.lt).at_ 1 (.int .i64 (hearJ e.J r).1.2) rfl; have b260 := (H26.out.below hSw H26.out.lt).at_ 0 (.int .i64 (hearJ e.J r).1.1) rfl; have b261 := (H26.out.below hSw H26.out.lt).at_ 1 (.int .i64 (hearJ e.J r).1.2) rfl; have qW := neqR (windowI e.J).1.1 (windowI e.J).1.2; have qH := neqR (hearJ e.J r).1.1 (hearJ e.J r).1.2); go_simp <;> with_reducible rfl)
        (try simp only [Act.put, List.setIfInBounds_toArray, List.set_cons_zero, List.set_cons_succ])
        refine wpAnyH_take (i := 46) (oi := ⟨some 176, .pick (.tmp 168) (.const (.bool true)) (.tmp 175), 4, "law.go:38", #[⟨38, .data⟩, ⟨45, .data⟩], none⟩) (v := ?_) rfl (by kernel_rfl) (by kernel_rfl) (by kernel_rfl) (fun _ _ _ h => nomatch h.1) (.inl ⟨by rfl, ?_⟩) (by assumption) ?_
        rotate_left
        · (intro w' hSw; (try dsimp only at hSw); (have b160 := (H16.out.below hSw H16.out.lt).at_ 0 (.int .i64 (windowI e.J).1.1) rfl; have b161 := (H16.out.below hSw H16.out.lt).at_ 1 (.int .i64 (windowI e.J).1.2) rfl; have b180 := (H18.out.below hSw H18.out.lt).at_ 0 (.int .i64 (windowI e.J).1.1) rfl; have b181 := (H18.out.below hSw H18.out.lt).at_ 1 (.int .i64 (windowI e.J).1.2) rfl; have b240 := (H24.out.below hSw H24.out.lt).at_ 0 (.int .i64 (hearJ e.J r).1.1) rfl; have b241 := (H24.out.below hSw H24.out.lt).at_ 1 (.int .i64 (hearJ e.J r).1.2) rfl; have b260 := (H26.out.below hSw H26.out.lt).at_ 0 (.int .i64 (hearJ e.J r).1.1) rfl; have b261 := (H26.out.below hSw H26.out.lt).at_ 1 (.int .i64 (hearJ e.J r).1.2) rfl; have qW := neqR (windowI e.J).1.1 (windowI e.J).1.2; have qH := neqR (hearJ e.J r).1.1 (hearJ e.J r).1.2); go_simp <;> with_reducible rfl)
        (try simp only [Act.put, List.setIfInBounds_toArray, List.set_cons_zero, List.set_cons_succ])
        refine wpAnyH_done (by kernel_rfl) ?_ _
        exact ⟨rfl, _, _, _, _, _, _, _, _, _, _, _, _, _, _, _, _, _, _, _, _, _, _, _, _, _, _, _, _, _, _, _, _, _, _, _, _, _, _, _, _, _, _, _, _, _, _, rfl, hBW⟩
      exact AllReadyH.nil
    exact AllReadyH.nil
  exact AllReadyH.nil
set_option maxHeartbeats 4000000 in
set_option maxRecDepth 1000000 in
theorem lbp6 {w1 : World} {g q : Nat} {es : List Ent} {rs : List Int} {w0 : World} {k : Nat} {e : Ent} {r : Int} {Q : Exit → Act → World → Prop} {oa : Option Addr} {oc g15 : Nat} {g16 : Nat} {g18 : Nat} {g24 : Nat} {w : World} {u0 u1 u2 u3 u4 u5 u6 u7 u8 u9 u10 u11 u26 u27 u28 u29 u30 u31 u32 u33 u34 u35 u36 u37 u38 u39 u40 u41 u42 u43 u44 u45 u46 u47 u48 u49 u50 u51 u52 u53 u54 u55 u56 u57 u58 u59 u60 u61 u62 u63 u64 u65 u66 u67 u68 u69 u70 u71 u72 u73 u74 u75 u76 u77 u78 u79 u80 u81 u82 u83 u84 u85 u86 u87 u88 u89 u90 u91 u92 u93 u94 u95 u96 u97 u98 u99 u100 u101 u102 u103 u104 u105 u106 u107 u108 u109 u110 u111 u112 u113 u114 u115 u116 u117 u118 u119 u120 u121 u122 u123 u124 u125 u126 u127 u128 u129 u130 u131 u132 u133 u134 u135 u136 u137 u138 u139 u140 u141 u142 u143 u144 u145 u146 u147 u148 u149 u150 u151 u152 u153 u154 u155 u156 u157 u158 u159 u160 u161 u162 u163 u164 u165 u166 u167 u168 u169 u170 u171 u172 u173 u174 u175 u176 u177 : Value} (hs : WL w0 w1 g q es rs) (hk : es[k]? = some e) (hr : rs[k]? = some r) (hk4 : k < 4) (hQ : LQ Q w1 g q k) (hB : Below w1.heap.size w1 w) (h15 : Bk w g15 30 (jobC e.J (.slice oa e.n oc))) (ho : Rg w w.heap.size oa e.J.sh) (h16 : Bk w g16 23 #[.int .i64 (windowI e.J).1.1, .int .i64 (windowI e.J).1.2]) (h18 : Bk w g18 23 #[.int .i64 (windowI e.J).1.1, .int .i64 (windowI e.J).1.2]) (h24 : Bk w g24 23 #[.int .i64 (hearJ e.J r).1.1, .int .i64 (hearJ e.J r).1.2]) : Code.wp Try.prog lb6 Q ⟨#[u0, u1, u2, u3, u4, u5, u6, u7, u8, u9, u10, u11, (.slice (some ⟨g, 0, none⟩) 4 4), (.slice (some ⟨q, 0, none⟩) 4 4), (.int .i64 ↑k), (.pointer (some ⟨g15, 0, none⟩)), (.pointer (some ⟨g16, 0, none⟩)), (.int .i64 (windowI e.J).2), (.pointer (some ⟨g18, 0, none⟩)), (.int .i64 (windowI e.J).2), (.int .i64 (passesI e.J).1), (.int .i64 (passesI e.J).2), (.int .i64 (passesI e.J).1), (.int .i64 (passesI e.J).2), (.pointer (some ⟨g24, 0, none⟩)), (.int .i64 (hearJ e.J r).2), u26, u27, u28, u29, u30, u31, u32, u33, u34, u35, u36, u37, u38, u39, u40, u41, u42, u43, u44, u45, u46, u47, u48, u49, u50, u51, u52, u53, u54, u55, u56, u57, u58, u59, u60, u61, u62, u63, u64, u65, u66, u67, u68, u69, u70, u71, u72, u73, u74, u75, u76, u77, u78, u79, u80, u81, u82, u83, u84, u85, u86, u87, u88, u89, u90, u91, u92, u93, u94, u95, u96, u97, u98, u99, u100, u101, u102, u103, u104, u105, u106, u107, u108, u109, u110, u111, u112, u113, u114, u115, u116, u117, u118, u119, u120, u121, u122, u123, u124, u125, u126, u127, u128, u129, u130, u131, u132, u133, u134, u135, u136, u137, u138, u139, u140, u141, u142, u143, u144, u145, u146, u147, u148, u149, u150, u151, u152, u153, u154, u155, u156, u157, u158, u159, u160, u161, u162, u163, u164, u165, u166, u167, u168, u169, u170, u171, u172, u173, u174, u175, u176, u177], []⟩ w := by
  rw [lb6_eq]
  obtain ⟨hrg, hen, hen30⟩ := hs.each e (List.mem_of_getElem? hk)
  have HEN := hidMk hen
  have HRG := hidMk (hrg.up hB)
  have HS := hidMk hs
  have HQ := hidMk hQ
  have HR := hidMk (hs.row hk hB)
  have HB := hidMk hB
  have HK := hidMk hk
  have HRD := hidMk hr
  have hwz := hB.size
  have hnm : e.n ≤ 9223372036854775807 := by omega
  have H15 := hidMk h15
  have HO := hidMk ho
  have H16 := hidMk h16
  have H18 := hidMk h18
  have H24 := hidMk h24
  clear h15 ho h16 h18 h24 hs hQ hB hk hr hrg hen
  have hrin := HS.out.rin r (List.mem_of_getElem? HRD.out)
  have hki : (0 : Int) ≤ (k : Int) := by omega
  have hki2 : (k : Int) < 4 := by omega
  refine wp_seq_k fun K0 hK0 => ?_
  refine region_via (R := fun a_ e_ a' w' => e_ = .normal ∧ ∃ (v119 v120 v121 v122 v123 v124 v125 v126 v127 v118 v128 v129 : Value) (g26 : Nat), a' = ((((((((((((((a_.put (some 119) v119).put (some 120) v120).put (some 121) v121).put (some 122) v122).put (some 123) v123).put (some 124) v124).put (some 125) v125).put (some 126) v126).put (some 127) v127).put (some 118) v118).put (some 128) v128).put (some 129) v129).put (some 26) (.pointer (some ⟨g26, 0, none⟩))).put (some 27) (.int .i64 (hearJ e.J r).2)) ∧ Below w.heap.size w w' ∧ Bk w' g26 23 #[.int .i64 (hearJ e.J r).1.1, .int .i64 (hearJ e.J r).1.2]) ?_ ?_
  rotate_left
  · rintro e_ a' w' ⟨rfl, v119, v120, v121, v122, v123, v124, v125, v126, v127, v118, v128, v129, g26, rfl, al, hnew⟩
    refine hK0 _ _ ?_
    simp only [Act.put, List.setIfInBounds_toArray, List.set_cons_zero, List.set_cons_succ]
    have HB2 := hidMk (HB.out.trans (al.mono hwz))
    have H15' := hidMk (H15.out.below al H15.out.lt)
    have HO' := hidMk (HO.out.up al)
    have H16' := hidMk (H16.out.below al H16.out.lt)
    have H18' := hidMk (H18.out.below al H18.out.lt)
    have H24' := hidMk (H24.out.below al H24.out.lt)
    exact lbp7 HS.out HK.out HRD.out hk4 HQ.out HB2.out H15'.out HO'.out H16'.out H18'.out H24'.out hnew
  have hBW : Below w.heap.size w w.drew := (Below.refl _ _).drew
  refine wp_region_held_drew (S := fun w' => Below w.heap.size w w') (by kernel_rfl) hBW (fun hS0 => ?_)
  generalize hWd : w.drew = wd at hS0 hBW ⊢
  clear hWd
  refine wpAnyH_take (i := 0) (oi := ⟨some 119, .move (.tmp 12), 37, "law.go:37", #[], none⟩) (v := ?_) rfl (by kernel_rfl) (by kernel_rfl) (by kernel_rfl) (fun _ _ _ h => nomatch h.1) (.inl ⟨by rfl, ?_⟩) (by assumption) ?_
  rotate_left
  · (intro w' hSw; (try dsimp only at hSw); (have hrd := HS.out.rd HRD.out (HB.out.trans (hSw.mono hwz))); go_simp <;> with_reducible rfl)
  (try simp only [Act.put, List.setIfInBounds_toArray, List.set_cons_zero, List.set_cons_succ])
  refine wpAnyH_take (i := 1) (oi := ⟨some 120, .move (.tmp 14), 3, "law.go:37", #[], none⟩) (v := ?_) rfl (by kernel_rfl) (by kernel_rfl) (by kernel_rfl) (fun _ _ _ h => nomatch h.1) (.inl ⟨by rfl, ?_⟩) (by assumption) ?_
  rotate_left
  · (intro w' hSw; (try dsimp only at hSw); (have hrd := HS.out.rd HRD.out (HB.out.trans (hSw.mono hwz))); go_simp <;> with_reducible rfl)
  (try simp only [Act.put, List.setIfInBounds_toArray, List.set_cons_zero, List.set_cons_succ])
  refine wpAnyH_take (i := 2) (oi := ⟨some 121, .indexAddr 37 (.tmp 119) (.tmp 120), 0, "law.go:37", #[⟨0, .data⟩, ⟨1, .data⟩], none⟩) (v := ?_) rfl (by kernel_rfl) (by kernel_rfl) (by kernel_rfl) (fun _ _ _ h => nomatch h.1) (.inl ⟨by rfl, ?_⟩) (by assumption) ?_
  rotate_left
  · (intro w' hSw; (try dsimp only at hSw); (have hrd := HS.out.rd HRD.out (HB.out.trans (hSw.mono hwz))); go_simp <;> with_reducible rfl)
  (try simp only [Act.put, List.setIfInBounds_toArray, List.set_cons_zero, List.set_cons_succ])
  refine wpAnyH_take (i := 3) (oi := ⟨some 122, .load 30 (.tmp 121), 30, "law.go:37", #[⟨2, .data⟩], none⟩) rfl (by kernel_rfl) (by kernel_rfl) (by kernel_rfl) (fun _ _ _ h => nomatch h.1) (yields_mid (by rfl) 30 _ rfl g (k * 18) rfl (jobC e.J (.slice e.a e.n e.c)) _ (fun w' hw => HS.out.row HK.out (HB.out.trans (hw.mono hwz))) Try.underlying30 rfl szJob) (by assumption) ?_
  (try simp only [Act.put, List.setIfInBounds_toArray, List.set_cons_zero, List.set_cons_succ])
  refine wpAnyH_take (i := 4) (oi := ⟨some 123, .move (.tmp 13), 31, "law.go:37", #[], none⟩) (v := ?_) rfl (by kernel_rfl) (by kernel_rfl) (by kernel_rfl) (fun _ _ _ h => nomatch h.1) (.inl ⟨by rfl, ?_⟩) (by assumption) ?_
  rotate_left
  · (intro w' hSw; (try dsimp only at hSw); (have hrd := HS.out.rd HRD.out (HB.out.trans (hSw.mono hwz))); go_simp <;> with_reducible rfl)
  (try simp only [Act.put, List.setIfInBounds_toArray, List.set_cons_zero, List.set_cons_succ])
  refine wpAnyH_take (i := 5) (oi := ⟨some 124, .move (.tmp 14), 3, "law.go:37", #[], none⟩) (v := ?_) rfl (by kernel_rfl) (by kernel_rfl) (by kernel_rfl) (fun _ _ _ h => nomatch h.1) (.inl ⟨by rfl, ?_⟩) (by assumption) ?_
  rotate_left
  · (intro w' hSw; (try dsimp only at hSw); (have hrd := HS.out.rd HRD.out (HB.out.trans (hSw.mono hwz))); go_simp <;> with_reducible rfl)
  (try simp only [Act.put, List.setIfInBounds_toArray, List.set_cons_zero, List.set_cons_succ])
  refine wpAnyH_take (i := 6) (oi := ⟨some 125, .indexAddr 31 (.tmp 123) (.tmp 124), 0, "law.go:37", #[⟨4, .data⟩, ⟨5, .data⟩], none⟩) (v := ?_) rfl (by kernel_rfl) (by kernel_rfl) (by kernel_rfl) (fun _ _ _ h => nomatch h.1) (.inl ⟨by rfl, ?_⟩) (by assumption) ?_
  rotate_left
  · (intro w' hSw; (try dsimp only at hSw); (have hrd := HS.out.rd HRD.out (HB.out.trans (hSw.mono hwz))); go_simp <;> with_reducible rfl)
  (try simp only [Act.put, List.setIfInBounds_toArray, List.set_cons_zero, List.set_cons_succ])
  refine wpAnyH_take (i := 7) (oi := ⟨some 126, .load 3 (.tmp 125), 3, "law.go:37", #[⟨6, .data⟩], none⟩) (v := ?_) rfl (by kernel_rfl) (by kernel_rfl) (by kernel_rfl) (fun _ _ _ h => nomatch h.1) (.inl ⟨by rfl, ?_⟩) (by assumption) ?_
  rotate_left
  · (intro w' hSw; (try dsimp only at hSw); (have hrd := HS.out.rd HRD.out (HB.out.trans (hSw.mono hwz))); go_simp <;> with_reducible rfl)
  (try simp only [Act.put, List.setIfInBounds_toArray, List.set_cons_zero, List.set_cons_succ])
  refine wpAnyH_ready (rs := [8, 12]) (by kernel_rfl) (by simp) ?_
  refine AllReadyH.cons (o := ⟨some 127, .call { callee := .value (.func 15), args := #[.tmp 122, .tmp 126], argTypes := #[30, 3] }, 40, "law.go:37", #[⟨3, .data⟩, ⟨7, .data⟩], none⟩) rfl (fun K hK => ?_) ?_
  · go_simp
    go_at_call 15
    refine (refHear_any e.J r hrin e.a e.n e.c _ HEN.out hnm (HRG.out.up hBW)).mono ?_
    rintro e' wX ⟨rfl, hbX⟩
    have hB_ := hBW.trans (hbX.mono hBW.size)
    clear hBW hbX
    have hBW := hB_
    clear hB_
    go_wp2_with fail
    refine hK.out _ _ hBW (fun _ => ?_)
    clear hK K
    (try simp only [Act.put, List.setIfInBounds_toArray, List.set_cons_zero, List.set_cons_succ])
    refine wpAnyH_take (i := 9) (oi := ⟨some 118, .move (.tmp 127), 40, "law.go:37", #[⟨8, .data⟩], none⟩) (v := ?_) rfl (by kernel_rfl) (by kernel_rfl) (by kernel_rfl) (fun _ _ _ h => nomatch h.1) (.inl ⟨by rfl, ?_⟩) (by assumption) ?_
    rotate_left
    · (intro w' hSw; (try dsimp only at hSw); (have hrd := HS.out.rd HRD.out (HB.out.trans (hSw.mono hwz))); go_simp <;> with_reducible rfl)
    (try simp only [Act.put, List.setIfInBounds_toArray, List.set_cons_zero, List.set_cons_succ])
    refine wpAnyH_take (i := 10) (oi := ⟨some 128, .extract (.tmp 118) 0, 23, "law.go:37", #[⟨9, .data⟩], none⟩) (v := ?_) rfl (by kernel_rfl) (by kernel_rfl) (by kernel_rfl) (fun _ _ _ h => nomatch h.1) (.inl ⟨by rfl, ?_⟩) (by assumption) ?_
    rotate_left
    · (intro w' hSw; (try dsimp only at hSw); (have hrd := HS.out.rd HRD.out (HB.out.trans (hSw.mono hwz))); go_simp <;> with_reducible rfl)
    (try simp only [Act.put, List.setIfInBounds_toArray, List.set_cons_zero, List.set_cons_succ])
    refine wpAnyH_take (i := 11) (oi := ⟨some 129, .extract (.tmp 118) 1, 39, "law.go:37", #[⟨9, .data⟩, ⟨13, .gcOnly .lateStores⟩], none⟩) (v := ?_) rfl (by kernel_rfl) (by kernel_rfl) (by kernel_rfl) (fun _ _ _ h => nomatch h.1) (.inl ⟨by rfl, ?_⟩) (by assumption) ?_
    rotate_left
    · (intro w' hSw; (try dsimp only at hSw); (have hrd := HS.out.rd HRD.out (HB.out.trans (hSw.mono hwz))); go_simp <;> with_reducible rfl)
    (try simp only [Act.put, List.setIfInBounds_toArray, List.set_cons_zero, List.set_cons_succ])
    refine wpAnyH_ready (rs := [12]) (by kernel_rfl) (by simp) ?_
    refine AllReadyH.cons (o := ⟨some 26, .alloc 23, 0, "law.go:37", #[], none⟩) rfl (fun K hK => ?_) ?_
    · have hx0 : Bk (wX.alloc (.cells #[.int .i64 0, .int .i64 0] 23)) wX.heap.size 23 #[.int .i64 0, .int .i64 0] := Bk.new _ _ _
      have hgl : w.heap.size ≤ wX.heap.size := hBW.size
      have hB_ : Below w.heap.size w (wX.alloc (.cells #[.int .i64 0, .int .i64 0] 23)) := hBW.alloc hBW.size _
      go_simp
      refine hK.out _ _ hB_ (fun _ => ?_)
      clear hBW
      generalize hW_ : wX.alloc (.cells #[.int .i64 0, .int .i64 0] 23) = wA at hx0 hB_ ⊢
      clear hW_
      have hBW := hB_
      clear hB_
      clear hK K
      (try simp only [Act.put, List.setIfInBounds_toArray, List.set_cons_zero, List.set_cons_succ])
      refine wpAnyH_ready (rs := [13]) (by kernel_rfl) (by simp) ?_
      refine AllReadyH.cons (o := ⟨none, .store 23 (.tmp 26) (.tmp 128), 0, "law.go:37", #[⟨12, .data⟩, ⟨10, .data⟩, ⟨8, .chain⟩, ⟨0, .phase⟩, ⟨1, .phase⟩, ⟨2, .phase⟩, ⟨3, .phase⟩, ⟨4, .phase⟩, ⟨5, .phase⟩, ⟨6, .phase⟩, ⟨7, .phase⟩, ⟨8, .phase⟩, ⟨9, .phase⟩, ⟨10, .phase⟩, ⟨11, .textOnly .lateStores⟩, ⟨12, .phase⟩], none⟩) rfl (fun K hK => ?_) ?_
      · have d0 := hx0.at_ 0 (.int .i64 0) rfl
        have d1 := hx0.at_ 1 (.int .i64 0) rfl
        have f0 := hx0.free 0
        have f1 := hx0.free 1
        have hx1 := hx0.put2 (.int .i64 (hearJ e.J r).1.1) (.int .i64 (hearJ e.J r).1.2)
        have hB1 := (hBW.setCell (p := ⟨wX.heap.size, 0, none⟩) hgl (.int .i64 (hearJ e.J r).1.1)).setCell (p := ⟨wX.heap.size, 1, none⟩) hgl (.int .i64 (hearJ e.J r).1.2)
        go_simp
        refine hK.out _ _ hB1 (fun _ => ?_)
        clear hK K
        (try simp only [Act.put, List.setIfInBounds_toArray, List.set_cons_zero, List.set_cons_succ])
        refine wpAnyH_ready (rs := [14]) (by kernel_rfl) (by simp) ?_
        refine AllReadyH.cons (o := ⟨some 27, .assign (.tmp 129), 39, "law.go:37", #[⟨11, .data⟩, ⟨13, .chain⟩, ⟨0, .phase⟩, ⟨1, .phase⟩, ⟨2, .phase⟩, ⟨3, .phase⟩, ⟨4, .phase⟩, ⟨5, .phase⟩, ⟨6, .phase⟩, ⟨7, .phase⟩, ⟨8, .phase⟩, ⟨9, .phase⟩, ⟨10, .phase⟩, ⟨11, .phase⟩, ⟨12, .phase⟩, ⟨13, .phase⟩], none⟩) rfl (fun K hK => ?_) ?_
        · go_simp
          refine hK.out _ _ hB1 (fun _ => ?_)
          clear hK K
          (try simp only [Act.put, List.setIfInBounds_toArray, List.set_cons_zero, List.set_cons_succ])
          refine wpAnyH_done (by kernel_rfl) ?_ _
          exact ⟨rfl, _, _, _, _, _, _, _, _, _, _, _, _, wX.heap.size, rfl, hB1, hx1⟩
        exact AllReadyH.nil
      exact AllReadyH.nil
    exact AllReadyH.nil
  refine AllReadyH.cons (o := ⟨some 26, .alloc 23, 0, "law.go:37", #[], none⟩) rfl (fun K hK => ?_) ?_
  · have hx0 : Bk (wd.alloc (.cells #[.int .i64 0, .int .i64 0] 23)) wd.heap.size 23 #[.int .i64 0, .int .i64 0] := Bk.new _ _ _
    have hgl : w.heap.size ≤ wd.heap.size := hBW.size
    have hB_ : Below w.heap.size w (wd.alloc (.cells #[.int .i64 0, .int .i64 0] 23)) := hBW.alloc hBW.size _
    go_simp
    refine hK.out _ _ hB_ (fun _ => ?_)
    clear hBW
    generalize hW_ : wd.alloc (.cells #[.int .i64 0, .int .i64 0] 23) = wA at hx0 hB_ ⊢
    clear hW_
    have hBW := hB_
    clear hB_
    clear hK K
    (try simp only [Act.put, List.setIfInBounds_toArray, List.set_cons_zero, List.set_cons_succ])
    refine wpAnyH_ready (rs := [8]) (by kernel_rfl) (by simp) ?_
    refine AllReadyH.cons (o := ⟨some 127, .call { callee := .value (.func 15), args := #[.tmp 122, .tmp 126], argTypes := #[30, 3] }, 40, "law.go:37", #[⟨3, .data⟩, ⟨7, .data⟩], none⟩) rfl (fun K hK => ?_) ?_
    · go_simp
      go_at_call 15
      refine (refHear_any e.J r hrin e.a e.n e.c _ HEN.out hnm (HRG.out.up hBW)).mono ?_
      rintro e' wX ⟨rfl, hbX⟩
      have hB_ := hBW.trans (hbX.mono hBW.size)
      have hx_ := hx0.below hbX hx0.lt
      clear hx0
      have hx0 := hx_
      clear hx_
      clear hBW hbX
      have hBW := hB_
      clear hB_
      go_wp2_with fail
      refine hK.out _ _ hBW (fun _ => ?_)
      clear hK K
      (try simp only [Act.put, List.setIfInBounds_toArray, List.set_cons_zero, List.set_cons_succ])
      refine wpAnyH_take (i := 9) (oi := ⟨some 118, .move (.tmp 127), 40, "law.go:37", #[⟨8, .data⟩], none⟩) (v := ?_) rfl (by kernel_rfl) (by kernel_rfl) (by kernel_rfl) (fun _ _ _ h => nomatch h.1) (.inl ⟨by rfl, ?_⟩) (by assumption) ?_
      rotate_left
      · (intro w' hSw; (try dsimp only at hSw); (have hrd := HS.out.rd HRD.out (HB.out.trans (hSw.mono hwz))); go_simp <;> with_reducible rfl)
      (try simp only [Act.put, List.setIfInBounds_toArray, List.set_cons_zero, List.set_cons_succ])
      refine wpAnyH_take (i := 10) (oi := ⟨some 128, .extract (.tmp 118) 0, 23, "law.go:37", #[⟨9, .data⟩], none⟩) (v := ?_) rfl (by kernel_rfl) (by kernel_rfl) (by kernel_rfl) (fun _ _ _ h => nomatch h.1) (.inl ⟨by rfl, ?_⟩) (by assumption) ?_
      rotate_left
      · (intro w' hSw; (try dsimp only at hSw); (have hrd := HS.out.rd HRD.out (HB.out.trans (hSw.mono hwz))); go_simp <;> with_reducible rfl)
      (try simp only [Act.put, List.setIfInBounds_toArray, List.set_cons_zero, List.set_cons_succ])
      refine wpAnyH_take (i := 11) (oi := ⟨some 129, .extract (.tmp 118) 1, 39, "law.go:37", #[⟨9, .data⟩, ⟨13, .gcOnly .lateStores⟩], none⟩) (v := ?_) rfl (by kernel_rfl) (by kernel_rfl) (by kernel_rfl) (fun _ _ _ h => nomatch h.1) (.inl ⟨by rfl, ?_⟩) (by assumption) ?_
      rotate_left
      · (intro w' hSw; (try dsimp only at hSw); (have hrd := HS.out.rd HRD.out (HB.out.trans (hSw.mono hwz))); go_simp <;> with_reducible rfl)
      (try simp only [Act.put, List.setIfInBounds_toArray, List.set_cons_zero, List.set_cons_succ])
      refine wpAnyH_ready (rs := [13]) (by kernel_rfl) (by simp) ?_
      refine AllReadyH.cons (o := ⟨none, .store 23 (.tmp 26) (.tmp 128), 0, "law.go:37", #[⟨12, .data⟩, ⟨10, .data⟩, ⟨8, .chain⟩, ⟨0, .phase⟩, ⟨1, .phase⟩, ⟨2, .phase⟩, ⟨3, .phase⟩, ⟨4, .phase⟩, ⟨5, .phase⟩, ⟨6, .phase⟩, ⟨7, .phase⟩, ⟨8, .phase⟩, ⟨9, .phase⟩, ⟨10, .phase⟩, ⟨11, .textOnly .lateStores⟩, ⟨12, .phase⟩], none⟩) rfl (fun K hK => ?_) ?_
      · have d0 := hx0.at_ 0 (.int .i64 0) rfl
        have d1 := hx0.at_ 1 (.int .i64 0) rfl
        have f0 := hx0.free 0
        have f1 := hx0.free 1
        have hx1 := hx0.put2 (.int .i64 (hearJ e.J r).1.1) (.int .i64 (hearJ e.J r).1.2)
        have hB1 := (hBW.setCell (p := ⟨wd.heap.size, 0, none⟩) hgl (.int .i64 (hearJ e.J r).1.1)).setCell (p := ⟨wd.heap.size, 1, none⟩) hgl (.int .i64 (hearJ e.J r).1.2)
        go_simp
        refine hK.out _ _ hB1 (fun _ => ?_)
        clear hK K
        (try simp only [Act.put, List.setIfInBounds_toArray, List.set_cons_zero, List.set_cons_succ])
        refine wpAnyH_ready (rs := [14]) (by kernel_rfl) (by simp) ?_
        refine AllReadyH.cons (o := ⟨some 27, .assign (.tmp 129), 39, "law.go:37", #[⟨11, .data⟩, ⟨13, .chain⟩, ⟨0, .phase⟩, ⟨1, .phase⟩, ⟨2, .phase⟩, ⟨3, .phase⟩, ⟨4, .phase⟩, ⟨5, .phase⟩, ⟨6, .phase⟩, ⟨7, .phase⟩, ⟨8, .phase⟩, ⟨9, .phase⟩, ⟨10, .phase⟩, ⟨11, .phase⟩, ⟨12, .phase⟩, ⟨13, .phase⟩], none⟩) rfl (fun K hK => ?_) ?_
        · go_simp
          refine hK.out _ _ hB1 (fun _ => ?_)
          clear hK K
          (try simp only [Act.put, List.setIfInBounds_toArray, List.set_cons_zero, List.set_cons_succ])
          refine wpAnyH_done (by kernel_rfl) ?_ _
          exact ⟨rfl, _, _, _, _, _, _, _, _, _, _, _, _, wd.heap.size, rfl, hB1, hx1⟩
        exact AllReadyH.nil
      exact AllReadyH.nil
    exact AllReadyH.nil
  exact AllReadyH.nil
set_option maxHeartbeats 4000000 in
set_option maxRecDepth 1000000 in
theorem lbp5 {w1 : World} {g q : Nat} {es : List Ent} {rs : List Int} {w0 : World} {k : Nat} {e : Ent} {r : Int} {Q : Exit → Act → World → Prop} {oa : Option Addr} {oc g15 : Nat} {g16 : Nat} {g18 : Nat} {w : World} {u0 u1 u2 u3 u4 u5 u6 u7 u8 u9 u10 u11 u24 u25 u26 u27 u28 u29 u30 u31 u32 u33 u34 u35 u36 u37 u38 u39 u40 u41 u42 u43 u44 u45 u46 u47 u48 u49 u50 u51 u52 u53 u54 u55 u56 u57 u58 u59 u60 u61 u62 u63 u64 u65 u66 u67 u68 u69 u70 u71 u72 u73 u74 u75 u76 u77 u78 u79 u80 u81 u82 u83 u84 u85 u86 u87 u88 u89 u90 u91 u92 u93 u94 u95 u96 u97 u98 u99 u100 u101 u102 u103 u104 u105 u106 u107 u108 u109 u110 u111 u112 u113 u114 u115 u116 u117 u118 u119 u120 u121 u122 u123 u124 u125 u126 u127 u128 u129 u130 u131 u132 u133 u134 u135 u136 u137 u138 u139 u140 u141 u142 u143 u144 u145 u146 u147 u148 u149 u150 u151 u152 u153 u154 u155 u156 u157 u158 u159 u160 u161 u162 u163 u164 u165 u166 u167 u168 u169 u170 u171 u172 u173 u174 u175 u176 u177 : Value} (hs : WL w0 w1 g q es rs) (hk : es[k]? = some e) (hr : rs[k]? = some r) (hk4 : k < 4) (hQ : LQ Q w1 g q k) (hB : Below w1.heap.size w1 w) (h15 : Bk w g15 30 (jobC e.J (.slice oa e.n oc))) (ho : Rg w w.heap.size oa e.J.sh) (h16 : Bk w g16 23 #[.int .i64 (windowI e.J).1.1, .int .i64 (windowI e.J).1.2]) (h18 : Bk w g18 23 #[.int .i64 (windowI e.J).1.1, .int .i64 (windowI e.J).1.2]) : Code.wp Try.prog lb5 Q ⟨#[u0, u1, u2, u3, u4, u5, u6, u7, u8, u9, u10, u11, (.slice (some ⟨g, 0, none⟩) 4 4), (.slice (some ⟨q, 0, none⟩) 4 4), (.int .i64 ↑k), (.pointer (some ⟨g15, 0, none⟩)), (.pointer (some ⟨g16, 0, none⟩)), (.int .i64 (windowI e.J).2), (.pointer (some ⟨g18, 0, none⟩)), (.int .i64 (windowI e.J).2), (.int .i64 (passesI e.J).1), (.int .i64 (passesI e.J).2), (.int .i64 (passesI e.J).1), (.int .i64 (passesI e.J).2), u24, u25, u26, u27, u28, u29, u30, u31, u32, u33, u34, u35, u36, u37, u38, u39, u40, u41, u42, u43, u44, u45, u46, u47, u48, u49, u50, u51, u52, u53, u54, u55, u56, u57, u58, u59, u60, u61, u62, u63, u64, u65, u66, u67, u68, u69, u70, u71, u72, u73, u74, u75, u76, u77, u78, u79, u80, u81, u82, u83, u84, u85, u86, u87, u88, u89, u90, u91, u92, u93, u94, u95, u96, u97, u98, u99, u100, u101, u102, u103, u104, u105, u106, u107, u108, u109, u110, u111, u112, u113, u114, u115, u116, u117, u118, u119, u120, u121, u122, u123, u124, u125, u126, u127, u128, u129, u130, u131, u132, u133, u134, u135, u136, u137, u138, u139, u140, u141, u142, u143, u144, u145, u146, u147, u148, u149, u150, u151, u152, u153, u154, u155, u156, u157, u158, u159, u160, u161, u162, u163, u164, u165, u166, u167, u168, u169, u170, u171, u172, u173, u174, u175, u176, u177], []⟩ w := by
  rw [lb5_eq]
  obtain ⟨hrg, hen, hen30⟩ := hs.each e (List.mem_of_getElem? hk)
  have HEN := hidMk hen
  have HRG := hidMk (hrg.up hB)
  have HS := hidMk hs
  have HQ := hidMk hQ
  have HR := hidMk (hs.row hk hB)
  have HB := hidMk hB
  have HK := hidMk hk
  have HRD := hidMk hr
  have hwz := hB.size
  have hnm : e.n ≤ 9223372036854775807 := by omega
  have H15 := hidMk h15
  have HO := hidMk ho
  have H16 := hidMk h16
  have H18 := hidMk h18
  clear h15 ho h16 h18 hs hQ hB hk hr hrg hen
  have hrin := HS.out.rin r (List.mem_of_getElem? HRD.out)
  have hki : (0 : Int) ≤ (k : Int) := by omega
  have hki2 : (k : Int) < 4 := by omega
  refine wp_seq_k fun K0 hK0 => ?_
  refine region_via (R := fun a_ e_ a' w' => e_ = .normal ∧ ∃ (v110 v111 v112 v113 v114 v115 v109 v116 v117 : Value) (g24 : Nat), a' = (((((((((((a_.put (some 110) v110).put (some 111) v111).put (some 112) v112).put (some 113) v113).put (some 114) v114).put (some 115) v115).put (some 109) v109).put (some 116) v116).put (some 117) v117).put (some 24) (.pointer (some ⟨g24, 0, none⟩))).put (some 25) (.int .i64 (hearJ e.J r).2)) ∧ Below w.heap.size w w' ∧ Bk w' g24 23 #[.int .i64 (hearJ e.J r).1.1, .int .i64 (hearJ e.J r).1.2]) ?_ ?_
  rotate_left
  · rintro e_ a' w' ⟨rfl, v110, v111, v112, v113, v114, v115, v109, v116, v117, g24, rfl, al, hnew⟩
    refine hK0 _ _ ?_
    simp only [Act.put, List.setIfInBounds_toArray, List.set_cons_zero, List.set_cons_succ]
    have HB2 := hidMk (HB.out.trans (al.mono hwz))
    have H15' := hidMk (H15.out.below al H15.out.lt)
    have HO' := hidMk (HO.out.up al)
    have H16' := hidMk (H16.out.below al H16.out.lt)
    have H18' := hidMk (H18.out.below al H18.out.lt)
    exact lbp6 HS.out HK.out HRD.out hk4 HQ.out HB2.out H15'.out HO'.out H16'.out H18'.out hnew
  have hBW : Below w.heap.size w w.drew := (Below.refl _ _).drew
  refine wp_region_held_drew (S := fun w' => Below w.heap.size w w') (by kernel_rfl) hBW (fun hS0 => ?_)
  generalize hWd : w.drew = wd at hS0 hBW ⊢
  clear hWd
  refine wpAnyH_take (i := 0) (oi := ⟨some 110, .load 30 (.tmp 15), 30, "law.go:36", #[], none⟩) rfl (by kernel_rfl) (by kernel_rfl) (by kernel_rfl) (fun _ _ _ h => nomatch h.1) (yields_row (by rfl) 30 _ rfl g15 (jobC e.J (.slice oa e.n oc)) rfl 30 (fun w' hw => H15.out.below hw H15.out.lt) Try.underlying30 szJob) (by assumption) ?_
  (try simp only [Act.put, List.setIfInBounds_toArray, List.set_cons_zero, List.set_cons_succ])
  refine wpAnyH_take (i := 1) (oi := ⟨some 111, .move (.tmp 13), 31, "law.go:36", #[], none⟩) (v := ?_) rfl (by kernel_rfl) (by kernel_rfl) (by kernel_rfl) (fun _ _ _ h => nomatch h.1) (.inl ⟨by rfl, ?_⟩) (by assumption) ?_
  rotate_left
  · (intro w' hSw; (try dsimp only at hSw); (have hrd := HS.out.rd HRD.out (HB.out.trans (hSw.mono hwz))); go_simp <;> with_reducible rfl)
  (try simp only [Act.put, List.setIfInBounds_toArray, List.set_cons_zero, List.set_cons_succ])
  refine wpAnyH_take (i := 2) (oi := ⟨some 112, .move (.tmp 14), 3, "law.go:36", #[], none⟩) (v := ?_) rfl (by kernel_rfl) (by kernel_rfl) (by kernel_rfl) (fun _ _ _ h => nomatch h.1) (.inl ⟨by rfl, ?_⟩) (by assumption) ?_
  rotate_left
  · (intro w' hSw; (try dsimp only at hSw); (have hrd := HS.out.rd HRD.out (HB.out.trans (hSw.mono hwz))); go_simp <;> with_reducible rfl)
  (try simp only [Act.put, List.setIfInBounds_toArray, List.set_cons_zero, List.set_cons_succ])
  refine wpAnyH_take (i := 3) (oi := ⟨some 113, .indexAddr 31 (.tmp 111) (.tmp 112), 0, "law.go:36", #[⟨1, .data⟩, ⟨2, .data⟩], none⟩) (v := ?_) rfl (by kernel_rfl) (by kernel_rfl) (by kernel_rfl) (fun _ _ _ h => nomatch h.1) (.inl ⟨by rfl, ?_⟩) (by assumption) ?_
  rotate_left
  · (intro w' hSw; (try dsimp only at hSw); (have hrd := HS.out.rd HRD.out (HB.out.trans (hSw.mono hwz))); go_simp <;> with_reducible rfl)
  (try simp only [Act.put, List.setIfInBounds_toArray, List.set_cons_zero, List.set_cons_succ])
  refine wpAnyH_take (i := 4) (oi := ⟨some 114, .load 3 (.tmp 113), 3, "law.go:36", #[⟨3, .data⟩], none⟩) (v := ?_) rfl (by kernel_rfl) (by kernel_rfl) (by kernel_rfl) (fun _ _ _ h => nomatch h.1) (.inl ⟨by rfl, ?_⟩) (by assumption) ?_
  rotate_left
  · (intro w' hSw; (try dsimp only at hSw); (have hrd := HS.out.rd HRD.out (HB.out.trans (hSw.mono hwz))); go_simp <;> with_reducible rfl)
  (try simp only [Act.put, List.setIfInBounds_toArray, List.set_cons_zero, List.set_cons_succ])
  refine wpAnyH_ready (rs := [5, 9]) (by kernel_rfl) (by simp) ?_
  refine AllReadyH.cons (o := ⟨some 115, .call { callee := .value (.func 14), args := #[.tmp 110, .tmp 114], argTypes := #[30, 3] }, 40, "law.go:36", #[⟨0, .data⟩, ⟨4, .data⟩], none⟩) rfl (fun K hK => ?_) ?_
  · go_simp
    go_at_call 14
    refine (hearX_any e.J r hrin oa e.n oc _ HEN.out hnm (HO.out.up hBW)).mono ?_
    rintro e' wX ⟨rfl, hbX⟩
    have hB_ := hBW.trans (hbX.mono hBW.size)
    clear hBW hbX
    have hBW := hB_
    clear hB_
    go_wp2_with fail
    refine hK.out _ _ hBW (fun _ => ?_)
    clear hK K
    (try simp only [Act.put, List.setIfInBounds_toArray, List.set_cons_zero, List.set_cons_succ])
    refine wpAnyH_take (i := 6) (oi := ⟨some 109, .move (.tmp 115), 40, "law.go:36", #[⟨5, .data⟩], none⟩) (v := ?_) rfl (by kernel_rfl) (by kernel_rfl) (by kernel_rfl) (fun _ _ _ h => nomatch h.1) (.inl ⟨by rfl, ?_⟩) (by assumption) ?_
    rotate_left
    · (intro w' hSw; (try dsimp only at hSw); (have hrd := HS.out.rd HRD.out (HB.out.trans (hSw.mono hwz))); go_simp <;> with_reducible rfl)
    (try simp only [Act.put, List.setIfInBounds_toArray, List.set_cons_zero, List.set_cons_succ])
    refine wpAnyH_take (i := 7) (oi := ⟨some 116, .extract (.tmp 109) 0, 23, "law.go:36", #[⟨6, .data⟩], none⟩) (v := ?_) rfl (by kernel_rfl) (by kernel_rfl) (by kernel_rfl) (fun _ _ _ h => nomatch h.1) (.inl ⟨by rfl, ?_⟩) (by assumption) ?_
    rotate_left
    · (intro w' hSw; (try dsimp only at hSw); (have hrd := HS.out.rd HRD.out (HB.out.trans (hSw.mono hwz))); go_simp <;> with_reducible rfl)
    (try simp only [Act.put, List.setIfInBounds_toArray, List.set_cons_zero, List.set_cons_succ])
    refine wpAnyH_take (i := 8) (oi := ⟨some 117, .extract (.tmp 109) 1, 39, "law.go:36", #[⟨6, .data⟩, ⟨10, .gcOnly .lateStores⟩], none⟩) (v := ?_) rfl (by kernel_rfl) (by kernel_rfl) (by kernel_rfl) (fun _ _ _ h => nomatch h.1) (.inl ⟨by rfl, ?_⟩) (by assumption) ?_
    rotate_left
    · (intro w' hSw; (try dsimp only at hSw); (have hrd := HS.out.rd HRD.out (HB.out.trans (hSw.mono hwz))); go_simp <;> with_reducible rfl)
    (try simp only [Act.put, List.setIfInBounds_toArray, List.set_cons_zero, List.set_cons_succ])
    refine wpAnyH_ready (rs := [9]) (by kernel_rfl) (by simp) ?_
    refine AllReadyH.cons (o := ⟨some 24, .alloc 23, 0, "law.go:36", #[], none⟩) rfl (fun K hK => ?_) ?_
    · have hx0 : Bk (wX.alloc (.cells #[.int .i64 0, .int .i64 0] 23)) wX.heap.size 23 #[.int .i64 0, .int .i64 0] := Bk.new _ _ _
      have hgl : w.heap.size ≤ wX.heap.size := hBW.size
      have hB_ : Below w.heap.size w (wX.alloc (.cells #[.int .i64 0, .int .i64 0] 23)) := hBW.alloc hBW.size _
      go_simp
      refine hK.out _ _ hB_ (fun _ => ?_)
      clear hBW
      generalize hW_ : wX.alloc (.cells #[.int .i64 0, .int .i64 0] 23) = wA at hx0 hB_ ⊢
      clear hW_
      have hBW := hB_
      clear hB_
      clear hK K
      (try simp only [Act.put, List.setIfInBounds_toArray, List.set_cons_zero, List.set_cons_succ])
      refine wpAnyH_ready (rs := [10]) (by kernel_rfl) (by simp) ?_
      refine AllReadyH.cons (o := ⟨none, .store 23 (.tmp 24) (.tmp 116), 0, "law.go:36", #[⟨9, .data⟩, ⟨7, .data⟩, ⟨5, .chain⟩, ⟨0, .phase⟩, ⟨1, .phase⟩, ⟨2, .phase⟩, ⟨3, .phase⟩, ⟨4, .phase⟩, ⟨5, .phase⟩, ⟨6, .phase⟩, ⟨7, .phase⟩, ⟨8, .textOnly .lateStores⟩, ⟨9, .phase⟩], none⟩) rfl (fun K hK => ?_) ?_
      · have d0 := hx0.at_ 0 (.int .i64 0) rfl
        have d1 := hx0.at_ 1 (.int .i64 0) rfl
        have f0 := hx0.free 0
        have f1 := hx0.free 1
        have hx1 := hx0.put2 (.int .i64 (hearJ e.J r).1.1) (.int .i64 (hearJ e.J r).1.2)
        have hB1 := (hBW.setCell (p := ⟨wX.heap.size, 0, none⟩) hgl (.int .i64 (hearJ e.J r).1.1)).setCell (p := ⟨wX.heap.size, 1, none⟩) hgl (.int .i64 (hearJ e.J r).1.2)
        go_simp
        refine hK.out _ _ hB1 (fun _ => ?_)
        clear hK K
        (try simp only [Act.put, List.setIfInBounds_toArray, List.set_cons_zero, List.set_cons_succ])
        refine wpAnyH_ready (rs := [11]) (by kernel_rfl) (by simp) ?_
        refine AllReadyH.cons (o := ⟨some 25, .assign (.tmp 117), 39, "law.go:36", #[⟨8, .data⟩, ⟨10, .chain⟩, ⟨0, .phase⟩, ⟨1, .phase⟩, ⟨2, .phase⟩, ⟨3, .phase⟩, ⟨4, .phase⟩, ⟨5, .phase⟩, ⟨6, .phase⟩, ⟨7, .phase⟩, ⟨8, .phase⟩, ⟨9, .phase⟩, ⟨10, .phase⟩], none⟩) rfl (fun K hK => ?_) ?_
        · go_simp
          refine hK.out _ _ hB1 (fun _ => ?_)
          clear hK K
          (try simp only [Act.put, List.setIfInBounds_toArray, List.set_cons_zero, List.set_cons_succ])
          refine wpAnyH_done (by kernel_rfl) ?_ _
          exact ⟨rfl, _, _, _, _, _, _, _, _, _, wX.heap.size, rfl, hB1, hx1⟩
        exact AllReadyH.nil
      exact AllReadyH.nil
    exact AllReadyH.nil
  refine AllReadyH.cons (o := ⟨some 24, .alloc 23, 0, "law.go:36", #[], none⟩) rfl (fun K hK => ?_) ?_
  · have hx0 : Bk (wd.alloc (.cells #[.int .i64 0, .int .i64 0] 23)) wd.heap.size 23 #[.int .i64 0, .int .i64 0] := Bk.new _ _ _
    have hgl : w.heap.size ≤ wd.heap.size := hBW.size
    have hB_ : Below w.heap.size w (wd.alloc (.cells #[.int .i64 0, .int .i64 0] 23)) := hBW.alloc hBW.size _
    go_simp
    refine hK.out _ _ hB_ (fun _ => ?_)
    clear hBW
    generalize hW_ : wd.alloc (.cells #[.int .i64 0, .int .i64 0] 23) = wA at hx0 hB_ ⊢
    clear hW_
    have hBW := hB_
    clear hB_
    clear hK K
    (try simp only [Act.put, List.setIfInBounds_toArray, List.set_cons_zero, List.set_cons_succ])
    refine wpAnyH_ready (rs := [5]) (by kernel_rfl) (by simp) ?_
    refine AllReadyH.cons (o := ⟨some 115, .call { callee := .value (.func 14), args := #[.tmp 110, .tmp 114], argTypes := #[30, 3] }, 40, "law.go:36", #[⟨0, .data⟩, ⟨4, .data⟩], none⟩) rfl (fun K hK => ?_) ?_
    · go_simp
      go_at_call 14
      refine (hearX_any e.J r hrin oa e.n oc _ HEN.out hnm (HO.out.up hBW)).mono ?_
      rintro e' wX ⟨rfl, hbX⟩
      have hB_ := hBW.trans (hbX.mono hBW.size)
      have hx_ := hx0.below hbX hx0.lt
      clear hx0
      have hx0 := hx_
      clear hx_
      clear hBW hbX
      have hBW := hB_
      clear hB_
      go_wp2_with fail
      refine hK.out _ _ hBW (fun _ => ?_)
      clear hK K
      (try simp only [Act.put, List.setIfInBounds_toArray, List.set_cons_zero, List.set_cons_succ])
      refine wpAnyH_take (i := 6) (oi := ⟨some 109, .move (.tmp 115), 40, "law.go:36", #[⟨5, .data⟩], none⟩) (v := ?_) rfl (by kernel_rfl) (by kernel_rfl) (by kernel_rfl) (fun _ _ _ h => nomatch h.1) (.inl ⟨by rfl, ?_⟩) (by assumption) ?_
      rotate_left
      · (intro w' hSw; (try dsimp only at hSw); (have hrd := HS.out.rd HRD.out (HB.out.trans (hSw.mono hwz))); go_simp <;> with_reducible rfl)
      (try simp only [Act.put, List.setIfInBounds_toArray, List.set_cons_zero, List.set_cons_succ])
      refine wpAnyH_take (i := 7) (oi := ⟨some 116, .extract (.tmp 109) 0, 23, "law.go:36", #[⟨6, .data⟩], none⟩) (v := ?_) rfl (by kernel_rfl) (by kernel_rfl) (by kernel_rfl) (fun _ _ _ h => nomatch h.1) (.inl ⟨by rfl, ?_⟩) (by assumption) ?_
      rotate_left
      · (intro w' hSw; (try dsimp only at hSw); (have hrd := HS.out.rd HRD.out (HB.out.trans (hSw.mono hwz))); go_simp <;> with_reducible rfl)
      (try simp only [Act.put, List.setIfInBounds_toArray, List.set_cons_zero, List.set_cons_succ])
      refine wpAnyH_take (i := 8) (oi := ⟨some 117, .extract (.tmp 109) 1, 39, "law.go:36", #[⟨6, .data⟩, ⟨10, .gcOnly .lateStores⟩], none⟩) (v := ?_) rfl (by kernel_rfl) (by kernel_rfl) (by kernel_rfl) (fun _ _ _ h => nomatch h.1) (.inl ⟨by rfl, ?_⟩) (by assumption) ?_
      rotate_left
      · (intro w' hSw; (try dsimp only at hSw); (have hrd := HS.out.rd HRD.out (HB.out.trans (hSw.mono hwz))); go_simp <;> with_reducible rfl)
      (try simp only [Act.put, List.setIfInBounds_toArray, List.set_cons_zero, List.set_cons_succ])
      refine wpAnyH_ready (rs := [10]) (by kernel_rfl) (by simp) ?_
      refine AllReadyH.cons (o := ⟨none, .store 23 (.tmp 24) (.tmp 116), 0, "law.go:36", #[⟨9, .data⟩, ⟨7, .data⟩, ⟨5, .chain⟩, ⟨0, .phase⟩, ⟨1, .phase⟩, ⟨2, .phase⟩, ⟨3, .phase⟩, ⟨4, .phase⟩, ⟨5, .phase⟩, ⟨6, .phase⟩, ⟨7, .phase⟩, ⟨8, .textOnly .lateStores⟩, ⟨9, .phase⟩], none⟩) rfl (fun K hK => ?_) ?_
      · have d0 := hx0.at_ 0 (.int .i64 0) rfl
        have d1 := hx0.at_ 1 (.int .i64 0) rfl
        have f0 := hx0.free 0
        have f1 := hx0.free 1
        have hx1 := hx0.put2 (.int .i64 (hearJ e.J r).1.1) (.int .i64 (hearJ e.J r).1.2)
        have hB1 := (hBW.setCell (p := ⟨wd.heap.size, 0, none⟩) hgl (.int .i64 (hearJ e.J r).1.1)).setCell (p := ⟨wd.heap.size, 1, none⟩) hgl (.int .i64 (hearJ e.J r).1.2)
        go_simp
        refine hK.out _ _ hB1 (fun _ => ?_)
        clear hK K
        (try simp only [Act.put, List.setIfInBounds_toArray, List.set_cons_zero, List.set_cons_succ])
        refine wpAnyH_ready (rs := [11]) (by kernel_rfl) (by simp) ?_
        refine AllReadyH.cons (o := ⟨some 25, .assign (.tmp 117), 39, "law.go:36", #[⟨8, .data⟩, ⟨10, .chain⟩, ⟨0, .phase⟩, ⟨1, .phase⟩, ⟨2, .phase⟩, ⟨3, .phase⟩, ⟨4, .phase⟩, ⟨5, .phase⟩, ⟨6, .phase⟩, ⟨7, .phase⟩, ⟨8, .phase⟩, ⟨9, .phase⟩, ⟨10, .phase⟩], none⟩) rfl (fun K hK => ?_) ?_
        · go_simp
          refine hK.out _ _ hB1 (fun _ => ?_)
          clear hK K
          (try simp only [Act.put, List.setIfInBounds_toArray, List.set_cons_zero, List.set_cons_succ])
          refine wpAnyH_done (by kernel_rfl) ?_ _
          exact ⟨rfl, _, _, _, _, _, _, _, _, _, wd.heap.size, rfl, hB1, hx1⟩
        exact AllReadyH.nil
      exact AllReadyH.nil
    exact AllReadyH.nil
  exact AllReadyH.nil
set_option maxHeartbeats 4000000 in
set_option maxRecDepth 1000000 in
theorem lbp4 {w1 : World} {g q : Nat} {es : List Ent} {rs : List Int} {w0 : World} {k : Nat} {e : Ent} {r : Int} {Q : Exit → Act → World → Prop} {oa : Option Addr} {oc g15 : Nat} {g16 : Nat} {g18 : Nat} {w : World} {u0 u1 u2 u3 u4 u5 u6 u7 u8 u9 u10 u11 u22 u23 u24 u25 u26 u27 u28 u29 u30 u31 u32 u33 u34 u35 u36 u37 u38 u39 u40 u41 u42 u43 u44 u45 u46 u47 u48 u49 u50 u51 u52 u53 u54 u55 u56 u57 u58 u59 u60 u61 u62 u63 u64 u65 u66 u67 u68 u69 u70 u71 u72 u73 u74 u75 u76 u77 u78 u79 u80 u81 u82 u83 u84 u85 u86 u87 u88 u89 u90 u91 u92 u93 u94 u95 u96 u97 u98 u99 u100 u101 u102 u103 u104 u105 u106 u107 u108 u109 u110 u111 u112 u113 u114 u115 u116 u117 u118 u119 u120 u121 u122 u123 u124 u125 u126 u127 u128 u129 u130 u131 u132 u133 u134 u135 u136 u137 u138 u139 u140 u141 u142 u143 u144 u145 u146 u147 u148 u149 u150 u151 u152 u153 u154 u155 u156 u157 u158 u159 u160 u161 u162 u163 u164 u165 u166 u167 u168 u169 u170 u171 u172 u173 u174 u175 u176 u177 : Value} (hs : WL w0 w1 g q es rs) (hk : es[k]? = some e) (hr : rs[k]? = some r) (hk4 : k < 4) (hQ : LQ Q w1 g q k) (hB : Below w1.heap.size w1 w) (h15 : Bk w g15 30 (jobC e.J (.slice oa e.n oc))) (ho : Rg w w.heap.size oa e.J.sh) (h16 : Bk w g16 23 #[.int .i64 (windowI e.J).1.1, .int .i64 (windowI e.J).1.2]) (h18 : Bk w g18 23 #[.int .i64 (windowI e.J).1.1, .int .i64 (windowI e.J).1.2]) : Code.wp Try.prog lb4 Q ⟨#[u0, u1, u2, u3, u4, u5, u6, u7, u8, u9, u10, u11, (.slice (some ⟨g, 0, none⟩) 4 4), (.slice (some ⟨q, 0, none⟩) 4 4), (.int .i64 ↑k), (.pointer (some ⟨g15, 0, none⟩)), (.pointer (some ⟨g16, 0, none⟩)), (.int .i64 (windowI e.J).2), (.pointer (some ⟨g18, 0, none⟩)), (.int .i64 (windowI e.J).2), (.int .i64 (passesI e.J).1), (.int .i64 (passesI e.J).2), u22, u23, u24, u25, u26, u27, u28, u29, u30, u31, u32, u33, u34, u35, u36, u37, u38, u39, u40, u41, u42, u43, u44, u45, u46, u47, u48, u49, u50, u51, u52, u53, u54, u55, u56, u57, u58, u59, u60, u61, u62, u63, u64, u65, u66, u67, u68, u69, u70, u71, u72, u73, u74, u75, u76, u77, u78, u79, u80, u81, u82, u83, u84, u85, u86, u87, u88, u89, u90, u91, u92, u93, u94, u95, u96, u97, u98, u99, u100, u101, u102, u103, u104, u105, u106, u107, u108, u109, u110, u111, u112, u113, u114, u115, u116, u117, u118, u119, u120, u121, u122, u123, u124, u125, u126, u127, u128, u129, u130, u131, u132, u133, u134, u135, u136, u137, u138, u139, u140, u141, u142, u143, u144, u145, u146, u147, u148, u149, u150, u151, u152, u153, u154, u155, u156, u157, u158, u159, u160, u161, u162, u163, u164, u165, u166, u167, u168, u169, u170, u171, u172, u173, u174, u175, u176, u177], []⟩ w := by
  rw [lb4_eq]
  obtain ⟨hrg, hen, hen30⟩ := hs.each e (List.mem_of_getElem? hk)
  have HEN := hidMk hen
  have HRG := hidMk (hrg.up hB)
  have HS := hidMk hs
  have HQ := hidMk hQ
  have HR := hidMk (hs.row hk hB)
  have HB := hidMk hB
  have HK := hidMk hk
  have HRD := hidMk hr
  have hwz := hB.size
  have hnm : e.n ≤ 9223372036854775807 := by omega
  have H15 := hidMk h15
  have HO := hidMk ho
  have H16 := hidMk h16
  have H18 := hidMk h18
  clear h15 ho h16 h18 hs hQ hB hk hr hrg hen
  go_wp2_with (refine wpList_load_midA rfl 30 _ rfl g (k * 18) rfl (jobC e.J (.slice e.a e.n e.c)) _ HR.out Try.underlying30 rfl szJob ?_)
  refine (refPasses_any e.J e.a e.n e.c _ HEN.out hnm HRG.out).mono ?_
  rintro e' w2 ⟨rfl, hb2⟩
  have hz2 := hb2.size
  have HB2 := hidMk (HB.out.trans (hb2.mono hwz))
  have H15' := hidMk (H15.out.below hb2 H15.out.lt)
  have HO' := hidMk (HO.out.up hb2)
  have H16' := hidMk (H16.out.below hb2 H16.out.lt)
  have H18' := hidMk (H18.out.below hb2 H18.out.lt)
  clear hb2
  go_wp2_with fail
  exact lbp5 HS.out HK.out HRD.out hk4 HQ.out HB2.out H15'.out HO'.out H16'.out H18'.out
set_option maxHeartbeats 4000000 in
set_option maxRecDepth 1000000 in
theorem lbp3 {w1 : World} {g q : Nat} {es : List Ent} {rs : List Int} {w0 : World} {k : Nat} {e : Ent} {r : Int} {Q : Exit → Act → World → Prop} {oa : Option Addr} {oc g15 : Nat} {g16 : Nat} {g18 : Nat} {w : World} {u0 u1 u2 u3 u4 u5 u6 u7 u8 u9 u10 u11 u20 u21 u22 u23 u24 u25 u26 u27 u28 u29 u30 u31 u32 u33 u34 u35 u36 u37 u38 u39 u40 u41 u42 u43 u44 u45 u46 u47 u48 u49 u50 u51 u52 u53 u54 u55 u56 u57 u58 u59 u60 u61 u62 u63 u64 u65 u66 u67 u68 u69 u70 u71 u72 u73 u74 u75 u76 u77 u78 u79 u80 u81 u82 u83 u84 u85 u86 u87 u88 u89 u90 u91 u92 u93 u94 u95 u96 u97 u98 u99 u100 u101 u102 u103 u104 u105 u106 u107 u108 u109 u110 u111 u112 u113 u114 u115 u116 u117 u118 u119 u120 u121 u122 u123 u124 u125 u126 u127 u128 u129 u130 u131 u132 u133 u134 u135 u136 u137 u138 u139 u140 u141 u142 u143 u144 u145 u146 u147 u148 u149 u150 u151 u152 u153 u154 u155 u156 u157 u158 u159 u160 u161 u162 u163 u164 u165 u166 u167 u168 u169 u170 u171 u172 u173 u174 u175 u176 u177 : Value} (hs : WL w0 w1 g q es rs) (hk : es[k]? = some e) (hr : rs[k]? = some r) (hk4 : k < 4) (hQ : LQ Q w1 g q k) (hB : Below w1.heap.size w1 w) (h15 : Bk w g15 30 (jobC e.J (.slice oa e.n oc))) (ho : Rg w w.heap.size oa e.J.sh) (h16 : Bk w g16 23 #[.int .i64 (windowI e.J).1.1, .int .i64 (windowI e.J).1.2]) (h18 : Bk w g18 23 #[.int .i64 (windowI e.J).1.1, .int .i64 (windowI e.J).1.2]) : Code.wp Try.prog lb3 Q ⟨#[u0, u1, u2, u3, u4, u5, u6, u7, u8, u9, u10, u11, (.slice (some ⟨g, 0, none⟩) 4 4), (.slice (some ⟨q, 0, none⟩) 4 4), (.int .i64 ↑k), (.pointer (some ⟨g15, 0, none⟩)), (.pointer (some ⟨g16, 0, none⟩)), (.int .i64 (windowI e.J).2), (.pointer (some ⟨g18, 0, none⟩)), (.int .i64 (windowI e.J).2), u20, u21, u22, u23, u24, u25, u26, u27, u28, u29, u30, u31, u32, u33, u34, u35, u36, u37, u38, u39, u40, u41, u42, u43, u44, u45, u46, u47, u48, u49, u50, u51, u52, u53, u54, u55, u56, u57, u58, u59, u60, u61, u62, u63, u64, u65, u66, u67, u68, u69, u70, u71, u72, u73, u74, u75, u76, u77, u78, u79, u80, u81, u82, u83, u84, u85, u86, u87, u88, u89, u90, u91, u92, u93, u94, u95, u96, u97, u98, u99, u100, u101, u102, u103, u104, u105, u106, u107, u108, u109, u110, u111, u112, u113, u114, u115, u116, u117, u118, u119, u120, u121, u122, u123, u124, u125, u126, u127, u128, u129, u130, u131, u132, u133, u134, u135, u136, u137, u138, u139, u140, u141, u142, u143, u144, u145, u146, u147, u148, u149, u150, u151, u152, u153, u154, u155, u156, u157, u158, u159, u160, u161, u162, u163, u164, u165, u166, u167, u168, u169, u170, u171, u172, u173, u174, u175, u176, u177], []⟩ w := by
  rw [lb3_eq]
  obtain ⟨hrg, hen, hen30⟩ := hs.each e (List.mem_of_getElem? hk)
  have HEN := hidMk hen
  have HRG := hidMk (hrg.up hB)
  have HS := hidMk hs
  have HQ := hidMk hQ
  have HR := hidMk (hs.row hk hB)
  have HB := hidMk hB
  have HK := hidMk hk
  have HRD := hidMk hr
  have hwz := hB.size
  have hnm : e.n ≤ 9223372036854775807 := by omega
  have H15 := hidMk h15
  have HO := hidMk ho
  have H16 := hidMk h16
  have H18 := hidMk h18
  clear h15 ho h16 h18 hs hQ hB hk hr hrg hen
  go_wp2_with (refine wpList_load_row rfl 30 _ rfl g15 rfl _ (jobC e.J (.slice oa e.n oc)) _ _ H15.out Try.underlying30 rfl szJob ?_)
  refine (passesX_any e.J oa e.n oc _ HEN.out hnm HO.out).mono ?_
  rintro e' w2 ⟨rfl, hb2⟩
  have hz2 := hb2.size
  have HB2 := hidMk (HB.out.trans (hb2.mono hwz))
  have H15' := hidMk (H15.out.below hb2 H15.out.lt)
  have HO' := hidMk (HO.out.up hb2)
  have H16' := hidMk (H16.out.below hb2 H16.out.lt)
  have H18' := hidMk (H18.out.below hb2 H18.out.lt)
  clear hb2
  go_wp2_with fail
  exact lbp4 HS.out HK.out HRD.out hk4 HQ.out HB2.out H15'.out HO'.out H16'.out H18'.out
set_option maxHeartbeats 4000000 in
set_option maxRecDepth 1000000 in
theorem lbp2 {w1 : World} {g q : Nat} {es : List Ent} {rs : List Int} {w0 : World} {k : Nat} {e : Ent} {r : Int} {Q : Exit → Act → World → Prop} {oa : Option Addr} {oc g15 : Nat} {g16 : Nat} {w : World} {u0 u1 u2 u3 u4 u5 u6 u7 u8 u9 u10 u11 u18 u19 u20 u21 u22 u23 u24 u25 u26 u27 u28 u29 u30 u31 u32 u33 u34 u35 u36 u37 u38 u39 u40 u41 u42 u43 u44 u45 u46 u47 u48 u49 u50 u51 u52 u53 u54 u55 u56 u57 u58 u59 u60 u61 u62 u63 u64 u65 u66 u67 u68 u69 u70 u71 u72 u73 u74 u75 u76 u77 u78 u79 u80 u81 u82 u83 u84 u85 u86 u87 u88 u89 u90 u91 u92 u93 u94 u95 u96 u97 u98 u99 u100 u101 u102 u103 u104 u105 u106 u107 u108 u109 u110 u111 u112 u113 u114 u115 u116 u117 u118 u119 u120 u121 u122 u123 u124 u125 u126 u127 u128 u129 u130 u131 u132 u133 u134 u135 u136 u137 u138 u139 u140 u141 u142 u143 u144 u145 u146 u147 u148 u149 u150 u151 u152 u153 u154 u155 u156 u157 u158 u159 u160 u161 u162 u163 u164 u165 u166 u167 u168 u169 u170 u171 u172 u173 u174 u175 u176 u177 : Value} (hs : WL w0 w1 g q es rs) (hk : es[k]? = some e) (hr : rs[k]? = some r) (hk4 : k < 4) (hQ : LQ Q w1 g q k) (hB : Below w1.heap.size w1 w) (h15 : Bk w g15 30 (jobC e.J (.slice oa e.n oc))) (ho : Rg w w.heap.size oa e.J.sh) (h16 : Bk w g16 23 #[.int .i64 (windowI e.J).1.1, .int .i64 (windowI e.J).1.2]) : Code.wp Try.prog lb2 Q ⟨#[u0, u1, u2, u3, u4, u5, u6, u7, u8, u9, u10, u11, (.slice (some ⟨g, 0, none⟩) 4 4), (.slice (some ⟨q, 0, none⟩) 4 4), (.int .i64 ↑k), (.pointer (some ⟨g15, 0, none⟩)), (.pointer (some ⟨g16, 0, none⟩)), (.int .i64 (windowI e.J).2), u18, u19, u20, u21, u22, u23, u24, u25, u26, u27, u28, u29, u30, u31, u32, u33, u34, u35, u36, u37, u38, u39, u40, u41, u42, u43, u44, u45, u46, u47, u48, u49, u50, u51, u52, u53, u54, u55, u56, u57, u58, u59, u60, u61, u62, u63, u64, u65, u66, u67, u68, u69, u70, u71, u72, u73, u74, u75, u76, u77, u78, u79, u80, u81, u82, u83, u84, u85, u86, u87, u88, u89, u90, u91, u92, u93, u94, u95, u96, u97, u98, u99, u100, u101, u102, u103, u104, u105, u106, u107, u108, u109, u110, u111, u112, u113, u114, u115, u116, u117, u118, u119, u120, u121, u122, u123, u124, u125, u126, u127, u128, u129, u130, u131, u132, u133, u134, u135, u136, u137, u138, u139, u140, u141, u142, u143, u144, u145, u146, u147, u148, u149, u150, u151, u152, u153, u154, u155, u156, u157, u158, u159, u160, u161, u162, u163, u164, u165, u166, u167, u168, u169, u170, u171, u172, u173, u174, u175, u176, u177], []⟩ w := by
  rw [lb2_eq]
  obtain ⟨hrg, hen, hen30⟩ := hs.each e (List.mem_of_getElem? hk)
  have HEN := hidMk hen
  have HRG := hidMk (hrg.up hB)
  have HS := hidMk hs
  have HQ := hidMk hQ
  have HR := hidMk (hs.row hk hB)
  have HB := hidMk hB
  have HK := hidMk hk
  have HRD := hidMk hr
  have hwz := hB.size
  have hnm : e.n ≤ 9223372036854775807 := by omega
  have H15 := hidMk h15
  have HO := hidMk ho
  have H16 := hidMk h16
  clear h15 ho h16 hs hQ hB hk hr hrg hen
  go_wp2_with (refine wpList_load_midA rfl 30 _ rfl g (k * 18) rfl (jobC e.J (.slice e.a e.n e.c)) _ HR.out Try.underlying30 rfl szJob ?_)
  refine (refWindow_any e.J e.a e.n e.c _ HEN.out hnm HRG.out).mono ?_
  rintro e' w2 ⟨rfl, hb2⟩
  have hz2 := hb2.size
  have al : Below w.heap.size w (w2.alloc (.cells #[.int .i64 (windowI e.J).1.1, .int .i64 (windowI e.J).1.2] 23)) := hb2.alloc hz2 _
  have HB2 := hidMk (HB.out.trans (al.mono hwz))
  have H15' := hidMk (H15.out.below al H15.out.lt)
  have HO' := hidMk (HO.out.up al)
  have H16' := hidMk (H16.out.below al H16.out.lt)
  have hnew := hidMk (Bk.new w2 23 #[.int .i64 (windowI e.J).1.1, .int .i64 (windowI e.J).1.2])
  clear al hb2
  go_wp2_with fail
  exact lbp3 HS.out HK.out HRD.out hk4 HQ.out HB2.out H15'.out HO'.out H16'.out hnew.out
set_option maxHeartbeats 4000000 in
set_option maxRecDepth 1000000 in
theorem lbp1 {w1 : World} {g q : Nat} {es : List Ent} {rs : List Int} {w0 : World} {k : Nat} {e : Ent} {r : Int} {Q : Exit → Act → World → Prop} {oa : Option Addr} {oc g15 : Nat} {w : World} {u0 u1 u2 u3 u4 u5 u6 u7 u8 u9 u10 u11 u16 u17 u18 u19 u20 u21 u22 u23 u24 u25 u26 u27 u28 u29 u30 u31 u32 u33 u34 u35 u36 u37 u38 u39 u40 u41 u42 u43 u44 u45 u46 u47 u48 u49 u50 u51 u52 u53 u54 u55 u56 u57 u58 u59 u60 u61 u62 u63 u64 u65 u66 u67 u68 u69 u70 u71 u72 u73 u74 u75 u76 u77 u78 u79 u80 u81 u82 u83 u84 u85 u86 u87 u88 u89 u90 u91 u92 u93 u94 u95 u96 u97 u98 u99 u100 u101 u102 u103 u104 u105 u106 u107 u108 u109 u110 u111 u112 u113 u114 u115 u116 u117 u118 u119 u120 u121 u122 u123 u124 u125 u126 u127 u128 u129 u130 u131 u132 u133 u134 u135 u136 u137 u138 u139 u140 u141 u142 u143 u144 u145 u146 u147 u148 u149 u150 u151 u152 u153 u154 u155 u156 u157 u158 u159 u160 u161 u162 u163 u164 u165 u166 u167 u168 u169 u170 u171 u172 u173 u174 u175 u176 u177 : Value} (hs : WL w0 w1 g q es rs) (hk : es[k]? = some e) (hr : rs[k]? = some r) (hk4 : k < 4) (hQ : LQ Q w1 g q k) (hB : Below w1.heap.size w1 w) (h15 : Bk w g15 30 (jobC e.J (.slice oa e.n oc))) (ho : Rg w w.heap.size oa e.J.sh) : Code.wp Try.prog lb1 Q ⟨#[u0, u1, u2, u3, u4, u5, u6, u7, u8, u9, u10, u11, (.slice (some ⟨g, 0, none⟩) 4 4), (.slice (some ⟨q, 0, none⟩) 4 4), (.int .i64 ↑k), (.pointer (some ⟨g15, 0, none⟩)), u16, u17, u18, u19, u20, u21, u22, u23, u24, u25, u26, u27, u28, u29, u30, u31, u32, u33, u34, u35, u36, u37, u38, u39, u40, u41, u42, u43, u44, u45, u46, u47, u48, u49, u50, u51, u52, u53, u54, u55, u56, u57, u58, u59, u60, u61, u62, u63, u64, u65, u66, u67, u68, u69, u70, u71, u72, u73, u74, u75, u76, u77, u78, u79, u80, u81, u82, u83, u84, u85, u86, u87, u88, u89, u90, u91, u92, u93, u94, u95, u96, u97, u98, u99, u100, u101, u102, u103, u104, u105, u106, u107, u108, u109, u110, u111, u112, u113, u114, u115, u116, u117, u118, u119, u120, u121, u122, u123, u124, u125, u126, u127, u128, u129, u130, u131, u132, u133, u134, u135, u136, u137, u138, u139, u140, u141, u142, u143, u144, u145, u146, u147, u148, u149, u150, u151, u152, u153, u154, u155, u156, u157, u158, u159, u160, u161, u162, u163, u164, u165, u166, u167, u168, u169, u170, u171, u172, u173, u174, u175, u176, u177], []⟩ w := by
  rw [lb1_eq]
  obtain ⟨hrg, hen, hen30⟩ := hs.each e (List.mem_of_getElem? hk)
  have HEN := hidMk hen
  have HRG := hidMk (hrg.up hB)
  have HS := hidMk hs
  have HQ := hidMk hQ
  have HR := hidMk (hs.row hk hB)
  have HB := hidMk hB
  have HK := hidMk hk
  have HRD := hidMk hr
  have hwz := hB.size
  have hnm : e.n ≤ 9223372036854775807 := by omega
  have H15 := hidMk h15
  have HO := hidMk ho
  clear h15 ho hs hQ hB hk hr hrg hen
  go_wp2_with (refine wpList_load_row rfl 30 _ rfl g15 rfl _ (jobC e.J (.slice oa e.n oc)) _ _ H15.out Try.underlying30 rfl szJob ?_)
  refine (window_any e.J oa e.n oc _ HEN.out hnm HO.out).mono ?_
  rintro e' w2 ⟨rfl, hb2⟩
  have hz2 := hb2.size
  have al : Below w.heap.size w (w2.alloc (.cells #[.int .i64 (windowI e.J).1.1, .int .i64 (windowI e.J).1.2] 23)) := hb2.alloc hz2 _
  have HB2 := hidMk (HB.out.trans (al.mono hwz))
  have H15' := hidMk (H15.out.below al H15.out.lt)
  have HO' := hidMk (HO.out.up al)
  have hnew := hidMk (Bk.new w2 23 #[.int .i64 (windowI e.J).1.1, .int .i64 (windowI e.J).1.2])
  clear al hb2
  go_wp2_with fail
  exact lbp2 HS.out HK.out HRD.out hk4 HQ.out HB2.out H15'.out HO'.out hnew.out
set_option maxHeartbeats 4000000 in
set_option maxRecDepth 1000000 in
theorem lbp0 {w1 : World} {g q : Nat} {es : List Ent} {rs : List Int} {w0 : World} {k : Nat} {e : Ent} {r : Int} {Q : Exit → Act → World → Prop} {w : World} {u0 u1 u2 u3 u4 u5 u6 u7 u8 u9 u10 u11 u15 u16 u17 u18 u19 u20 u21 u22 u23 u24 u25 u26 u27 u28 u29 u30 u31 u32 u33 u34 u35 u36 u37 u38 u39 u40 u41 u42 u43 u44 u45 u46 u47 u48 u49 u50 u51 u52 u53 u54 u55 u56 u57 u58 u59 u60 u61 u62 u63 u64 u65 u66 u67 u68 u69 u70 u71 u72 u73 u74 u75 u76 u77 u78 u79 u80 u81 u82 u83 u84 u85 u86 u87 u88 u89 u90 u91 u92 u93 u94 u95 u96 u97 u98 u99 u100 u101 u102 u103 u104 u105 u106 u107 u108 u109 u110 u111 u112 u113 u114 u115 u116 u117 u118 u119 u120 u121 u122 u123 u124 u125 u126 u127 u128 u129 u130 u131 u132 u133 u134 u135 u136 u137 u138 u139 u140 u141 u142 u143 u144 u145 u146 u147 u148 u149 u150 u151 u152 u153 u154 u155 u156 u157 u158 u159 u160 u161 u162 u163 u164 u165 u166 u167 u168 u169 u170 u171 u172 u173 u174 u175 u176 u177 : Value} (hs : WL w0 w1 g q es rs) (hk : es[k]? = some e) (hr : rs[k]? = some r) (hk4 : k < 4) (hQ : LQ Q w1 g q k) (hB : Below w1.heap.size w1 w) : Code.wp Try.prog lb0 Q ⟨#[u0, u1, u2, u3, u4, u5, u6, u7, u8, u9, u10, u11, (.slice (some ⟨g, 0, none⟩) 4 4), (.slice (some ⟨q, 0, none⟩) 4 4), (.int .i64 ↑k), u15, u16, u17, u18, u19, u20, u21, u22, u23, u24, u25, u26, u27, u28, u29, u30, u31, u32, u33, u34, u35, u36, u37, u38, u39, u40, u41, u42, u43, u44, u45, u46, u47, u48, u49, u50, u51, u52, u53, u54, u55, u56, u57, u58, u59, u60, u61, u62, u63, u64, u65, u66, u67, u68, u69, u70, u71, u72, u73, u74, u75, u76, u77, u78, u79, u80, u81, u82, u83, u84, u85, u86, u87, u88, u89, u90, u91, u92, u93, u94, u95, u96, u97, u98, u99, u100, u101, u102, u103, u104, u105, u106, u107, u108, u109, u110, u111, u112, u113, u114, u115, u116, u117, u118, u119, u120, u121, u122, u123, u124, u125, u126, u127, u128, u129, u130, u131, u132, u133, u134, u135, u136, u137, u138, u139, u140, u141, u142, u143, u144, u145, u146, u147, u148, u149, u150, u151, u152, u153, u154, u155, u156, u157, u158, u159, u160, u161, u162, u163, u164, u165, u166, u167, u168, u169, u170, u171, u172, u173, u174, u175, u176, u177], []⟩ w := by
  rw [lb0_eq]
  obtain ⟨hrg, hen, hen30⟩ := hs.each e (List.mem_of_getElem? hk)
  have HEN := hidMk hen
  have HRG := hidMk (hrg.up hB)
  have HS := hidMk hs
  have HQ := hidMk hQ
  have HR := hidMk (hs.row hk hB)
  have HB := hidMk hB
  have HK := hidMk hk
  have HRD := hidMk hr
  have hwz := hB.size
  have hnm : e.n ≤ 9223372036854775807 := by omega
  clear hs hQ hB hk hr hrg hen
  go_wp2_with (refine wpList_load_midA rfl 30 _ rfl g (k * 18) rfl (jobC e.J (.slice e.a e.n e.c)) _ HR.out Try.underlying30 rfl szJob ?_)
  refine (copyJob_any e.J e.a e.n e.c _ HEN.out (by omega) HRG.out).mono ?_
  rintro e' w2 ⟨oa, oc, rfl, own, hb2⟩
  obtain ⟨_, _, e2, -, hog⟩ := Rg.of_own own
  cases e2
  have hz2 := hb2.size
  have HOG := hidMk hog
  have HB2 := hidMk (HB.out.trans (hb2.mono hwz))
  clear own hog hb2
  go_wp2_with (first | (refine wpList_store_row rfl 30 _ _ rfl w2.heap.size (jobC e.J (.slice oa e.n oc)) rfl rfl _ _ (Bk.new _ _ _) szJob rfl (oneJob _ _ _ _) ?_; rw [World.setRow_alloc_new]))
  exact lbp1 HS.out HK.out HRD.out hk4 HQ.out (HB2.out.alloc (by omega) _) (Bk.new _ _ _) (HOG.out.up ((Below.refl _ _).alloc (Nat.le_refl _) _))
end Go.Proofs.Ytbndjijlinpkmaa
