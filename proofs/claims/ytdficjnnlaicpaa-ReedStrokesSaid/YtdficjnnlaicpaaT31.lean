/- Part 31 of the proof: StkD. -/
import Derived.Deep.WholeRow
import Derived.Test.YtdficjnnlaicpaaT30
import Derived.Test.YtdficjnnlaicpaaT13
/- The law ReedStrokes: the loop, its last part. -/
namespace Go.Proofs.Ytdficjnnlaicpaa
set_option linter.all false
open Go.RowKit
noncomputable def blk1 : Code → Option Code
  | .block 1 c => some c
  | .block _ c => blk1 c
  | .seq a b => match blk1 a with
    | some c => some c
    | none => blk1 b
  | .loop c => blk1 c
  | _ => none
noncomputable def lb0 : Code := (blk1 slrest8).getD .skip
noncomputable def lb1 : Code := sndC lb0
noncomputable def lb2 : Code := sndC lb1
noncomputable def lb3 : Code := sndC lb2
noncomputable def lb4 : Code := sndC lb3
noncomputable def lb5 : Code := sndC lb4
noncomputable def lb6 : Code := sndC lb5
noncomputable def lb7 : Code := sndC lb6
noncomputable def lb8 : Code := sndC lb7
noncomputable def lb9 : Code := sndC lb8
set_option maxRecDepth 1000000 in
theorem lb0_eq : lb0 = .seq (Code.region 12 #[⟨some 92, .move (.tmp 15), 37, "law.go:58", #[], none⟩, ⟨some 93, .move (.tmp 17), 3, "law.go:58", #[], none⟩, ⟨some 94, .indexAddr 37 (.tmp 92) (.tmp 93), 0, "law.go:58", #[⟨0, .data⟩, ⟨1, .data⟩], none⟩, ⟨some 95, .load 30 (.tmp 94), 30, "law.go:58", #[⟨2, .data⟩], none⟩, ⟨some 96, .call { callee := .value (.func 8), args := #[.tmp 95], argTypes := #[30] }, 30, "law.go:58", #[⟨3, .data⟩], none⟩, ⟨some 97, .move (.tmp 16), 49, "law.go:58", #[], none⟩, ⟨some 98, .move (.tmp 17), 3, "law.go:58", #[], none⟩, ⟨some 99, .indexAddr 49 (.tmp 97) (.tmp 98), 0, "law.go:58", #[⟨5, .data⟩, ⟨6, .data⟩], none⟩, ⟨some 100, .load 31 (.tmp 99), 31, "law.go:58", #[⟨7, .data⟩], none⟩, ⟨some 101, .call { callee := .value (.func 21), args := #[.tmp 100], argTypes := #[31] }, 31, "law.go:58", #[⟨8, .data⟩, ⟨4, .chain⟩], none⟩, ⟨some 18, .alloc 30, 0, "law.go:58", #[], none⟩, ⟨none, .store 30 (.tmp 18) (.tmp 96), 0, "law.go:58", #[⟨10, .data⟩, ⟨4, .data⟩, ⟨9, .chain⟩, ⟨0, .phase⟩, ⟨1, .phase⟩, ⟨2, .phase⟩, ⟨3, .phase⟩, ⟨4, .phase⟩, ⟨5, .textOnly .lateStores⟩, ⟨6, .textOnly .lateStores⟩, ⟨7, .textOnly .lateStores⟩, ⟨8, .textOnly .lateStores⟩, ⟨9, .textOnly .lateStoresUnsure⟩, ⟨10, .phase⟩], none⟩, ⟨some 19, .assign (.tmp 101), 31, "law.go:58", #[⟨9, .data⟩, ⟨11, .chain⟩, ⟨0, .phase⟩, ⟨1, .phase⟩, ⟨2, .phase⟩, ⟨3, .phase⟩, ⟨4, .phase⟩, ⟨5, .phase⟩, ⟨6, .phase⟩, ⟨7, .phase⟩, ⟨8, .phase⟩, ⟨9, .phase⟩, ⟨10, .phase⟩, ⟨11, .phase⟩], none⟩] true) lb1 := by kernel_rfl
set_option maxRecDepth 1000000 in
theorem lb1_eq : lb1 = .seq (Code.region 13 #[⟨some 103, .load 30 (.tmp 18), 30, "law.go:59", #[], none⟩, ⟨some 104, .move (.tmp 19), 31, "law.go:59", #[], none⟩, ⟨some 105, .call { callee := .value (.func 22), args := #[.tmp 103, .tmp 104], argTypes := #[30, 31] }, 51, "law.go:59", #[⟨0, .data⟩, ⟨1, .data⟩], none⟩, ⟨some 102, .move (.tmp 105), 51, "law.go:59", #[⟨2, .data⟩], none⟩, ⟨some 106, .extract (.tmp 102) 0, 25, "law.go:59", #[⟨3, .data⟩], none⟩, ⟨some 107, .extract (.tmp 102) 1, 39, "law.go:59", #[⟨3, .data⟩, ⟨7, .gcOnly .lateStores⟩], none⟩, ⟨some 20, .alloc 25, 0, "law.go:59", #[], none⟩, ⟨none, .store 25 (.tmp 20) (.tmp 106), 0, "law.go:59", #[⟨6, .data⟩, ⟨4, .data⟩, ⟨2, .chain⟩, ⟨0, .phase⟩, ⟨1, .phase⟩, ⟨2, .phase⟩, ⟨3, .phase⟩, ⟨4, .phase⟩, ⟨5, .textOnly .lateStores⟩, ⟨6, .phase⟩], none⟩, ⟨some 21, .assign (.tmp 107), 39, "law.go:59", #[⟨5, .data⟩, ⟨7, .chain⟩, ⟨0, .phase⟩, ⟨1, .phase⟩, ⟨2, .phase⟩, ⟨3, .phase⟩, ⟨4, .phase⟩, ⟨5, .phase⟩, ⟨6, .phase⟩, ⟨7, .phase⟩], none⟩] false) lb2 := by kernel_rfl
set_option maxRecDepth 1000000 in
theorem lb2_eq : lb2 = .seq (Code.region 14 #[⟨some 109, .move (.tmp 15), 37, "law.go:60", #[], none⟩, ⟨some 110, .move (.tmp 17), 3, "law.go:60", #[], none⟩, ⟨some 111, .indexAddr 37 (.tmp 109) (.tmp 110), 0, "law.go:60", #[⟨0, .data⟩, ⟨1, .data⟩], none⟩, ⟨some 112, .load 30 (.tmp 111), 30, "law.go:60", #[⟨2, .data⟩], none⟩, ⟨some 113, .move (.tmp 16), 49, "law.go:60", #[], none⟩, ⟨some 114, .move (.tmp 17), 3, "law.go:60", #[], none⟩, ⟨some 115, .indexAddr 49 (.tmp 113) (.tmp 114), 0, "law.go:60", #[⟨4, .data⟩, ⟨5, .data⟩], none⟩, ⟨some 116, .load 31 (.tmp 115), 31, "law.go:60", #[⟨6, .data⟩], none⟩, ⟨some 117, .call { callee := .value (.func 23), args := #[.tmp 112, .tmp 116], argTypes := #[30, 31] }, 51, "law.go:60", #[⟨3, .data⟩, ⟨7, .data⟩], none⟩, ⟨some 108, .move (.tmp 117), 51, "law.go:60", #[⟨8, .data⟩], none⟩, ⟨some 118, .extract (.tmp 108) 0, 25, "law.go:60", #[⟨9, .data⟩], none⟩, ⟨some 119, .extract (.tmp 108) 1, 39, "law.go:60", #[⟨9, .data⟩, ⟨13, .gcOnly .lateStores⟩], none⟩, ⟨some 22, .alloc 25, 0, "law.go:60", #[], none⟩, ⟨none, .store 25 (.tmp 22) (.tmp 118), 0, "law.go:60", #[⟨12, .data⟩, ⟨10, .data⟩, ⟨8, .chain⟩, ⟨0, .phase⟩, ⟨1, .phase⟩, ⟨2, .phase⟩, ⟨3, .phase⟩, ⟨4, .phase⟩, ⟨5, .phase⟩, ⟨6, .phase⟩, ⟨7, .phase⟩, ⟨8, .phase⟩, ⟨9, .phase⟩, ⟨10, .phase⟩, ⟨11, .textOnly .lateStores⟩, ⟨12, .phase⟩], none⟩, ⟨some 23, .assign (.tmp 119), 39, "law.go:60", #[⟨11, .data⟩, ⟨13, .chain⟩, ⟨0, .phase⟩, ⟨1, .phase⟩, ⟨2, .phase⟩, ⟨3, .phase⟩, ⟨4, .phase⟩, ⟨5, .phase⟩, ⟨6, .phase⟩, ⟨7, .phase⟩, ⟨8, .phase⟩, ⟨9, .phase⟩, ⟨10, .phase⟩, ⟨11, .phase⟩, ⟨12, .phase⟩, ⟨13, .phase⟩], none⟩] true) lb3 := by kernel_rfl
set_option maxRecDepth 1000000 in
theorem lb3_eq : lb3 = .seq (Code.region 15 #[⟨some 121, .load 30 (.tmp 18), 30, "law.go:61", #[], none⟩, ⟨some 122, .move (.tmp 19), 31, "law.go:61", #[], none⟩, ⟨some 123, .call { callee := .value (.func 24), args := #[.tmp 121, .tmp 122], argTypes := #[30, 31] }, 42, "law.go:61", #[⟨0, .data⟩, ⟨1, .data⟩], none⟩, ⟨some 120, .move (.tmp 123), 42, "law.go:61", #[⟨2, .data⟩], none⟩, ⟨some 124, .extract (.tmp 120) 0, 3, "law.go:61", #[⟨3, .data⟩], none⟩, ⟨some 125, .extract (.tmp 120) 1, 39, "law.go:61", #[⟨3, .data⟩, ⟨6, .gcOnly .lateStores⟩], none⟩, ⟨some 24, .assign (.tmp 124), 3, "law.go:61", #[⟨4, .data⟩, ⟨2, .chain⟩, ⟨0, .phase⟩, ⟨1, .phase⟩, ⟨2, .phase⟩, ⟨3, .phase⟩, ⟨4, .phase⟩, ⟨5, .textOnly .lateStores⟩], none⟩, ⟨some 25, .assign (.tmp 125), 39, "law.go:61", #[⟨5, .data⟩, ⟨6, .chain⟩, ⟨0, .phase⟩, ⟨1, .phase⟩, ⟨2, .phase⟩, ⟨3, .phase⟩, ⟨4, .phase⟩, ⟨5, .phase⟩, ⟨6, .phase⟩], none⟩] false) lb4 := by kernel_rfl
set_option maxRecDepth 1000000 in
theorem lb4_eq : lb4 = .seq (Code.region 16 #[⟨some 127, .move (.tmp 15), 37, "law.go:62", #[], none⟩, ⟨some 128, .move (.tmp 17), 3, "law.go:62", #[], none⟩, ⟨some 129, .indexAddr 37 (.tmp 127) (.tmp 128), 0, "law.go:62", #[⟨0, .data⟩, ⟨1, .data⟩], none⟩, ⟨some 130, .load 30 (.tmp 129), 30, "law.go:62", #[⟨2, .data⟩], none⟩, ⟨some 131, .move (.tmp 16), 49, "law.go:62", #[], none⟩, ⟨some 132, .move (.tmp 17), 3, "law.go:62", #[], none⟩, ⟨some 133, .indexAddr 49 (.tmp 131) (.tmp 132), 0, "law.go:62", #[⟨4, .data⟩, ⟨5, .data⟩], none⟩, ⟨some 134, .load 31 (.tmp 133), 31, "law.go:62", #[⟨6, .data⟩], none⟩, ⟨some 135, .call { callee := .value (.func 25), args := #[.tmp 130, .tmp 134], argTypes := #[30, 31] }, 42, "law.go:62", #[⟨3, .data⟩, ⟨7, .data⟩], none⟩, ⟨some 126, .move (.tmp 135), 42, "law.go:62", #[⟨8, .data⟩], none⟩, ⟨some 136, .extract (.tmp 126) 0, 3, "law.go:62", #[⟨9, .data⟩], none⟩, ⟨some 137, .extract (.tmp 126) 1, 39, "law.go:62", #[⟨9, .data⟩, ⟨12, .gcOnly .lateStores⟩], none⟩, ⟨some 26, .assign (.tmp 136), 3, "law.go:62", #[⟨10, .data⟩, ⟨8, .chain⟩, ⟨0, .phase⟩, ⟨1, .phase⟩, ⟨2, .phase⟩, ⟨3, .phase⟩, ⟨4, .phase⟩, ⟨5, .phase⟩, ⟨6, .phase⟩, ⟨7, .phase⟩, ⟨8, .phase⟩, ⟨9, .phase⟩, ⟨10, .phase⟩, ⟨11, .textOnly .lateStores⟩], none⟩, ⟨some 27, .assign (.tmp 137), 39, "law.go:62", #[⟨11, .data⟩, ⟨12, .chain⟩, ⟨0, .phase⟩, ⟨1, .phase⟩, ⟨2, .phase⟩, ⟨3, .phase⟩, ⟨4, .phase⟩, ⟨5, .phase⟩, ⟨6, .phase⟩, ⟨7, .phase⟩, ⟨8, .phase⟩, ⟨9, .phase⟩, ⟨10, .phase⟩, ⟨11, .phase⟩, ⟨12, .phase⟩], none⟩] true) lb5 := by kernel_rfl
set_option maxRecDepth 1000000 in
theorem lb5_eq : lb5 = .seq (Code.region 17 #[⟨some 139, .load 30 (.tmp 18), 30, "law.go:63", #[], none⟩, ⟨some 140, .move (.tmp 19), 31, "law.go:63", #[], none⟩, ⟨some 141, .call { callee := .value (.func 26), args := #[.tmp 139, .tmp 140], argTypes := #[30, 31] }, 42, "law.go:63", #[⟨0, .data⟩, ⟨1, .data⟩], none⟩, ⟨some 138, .move (.tmp 141), 42, "law.go:63", #[⟨2, .data⟩], none⟩, ⟨some 142, .extract (.tmp 138) 0, 3, "law.go:63", #[⟨3, .data⟩], none⟩, ⟨some 143, .extract (.tmp 138) 1, 39, "law.go:63", #[⟨3, .data⟩, ⟨6, .gcOnly .lateStores⟩], none⟩, ⟨some 28, .assign (.tmp 142), 3, "law.go:63", #[⟨4, .data⟩, ⟨2, .chain⟩, ⟨0, .phase⟩, ⟨1, .phase⟩, ⟨2, .phase⟩, ⟨3, .phase⟩, ⟨4, .phase⟩, ⟨5, .textOnly .lateStores⟩], none⟩, ⟨some 29, .assign (.tmp 143), 39, "law.go:63", #[⟨5, .data⟩, ⟨6, .chain⟩, ⟨0, .phase⟩, ⟨1, .phase⟩, ⟨2, .phase⟩, ⟨3, .phase⟩, ⟨4, .phase⟩, ⟨5, .phase⟩, ⟨6, .phase⟩], none⟩] false) lb6 := by kernel_rfl
set_option maxRecDepth 1000000 in
theorem lb6_eq : lb6 = .seq (Code.region 18 #[⟨some 145, .move (.tmp 15), 37, "law.go:64", #[], none⟩, ⟨some 146, .move (.tmp 17), 3, "law.go:64", #[], none⟩, ⟨some 147, .indexAddr 37 (.tmp 145) (.tmp 146), 0, "law.go:64", #[⟨0, .data⟩, ⟨1, .data⟩], none⟩, ⟨some 148, .load 30 (.tmp 147), 30, "law.go:64", #[⟨2, .data⟩], none⟩, ⟨some 149, .move (.tmp 16), 49, "law.go:64", #[], none⟩, ⟨some 150, .move (.tmp 17), 3, "law.go:64", #[], none⟩, ⟨some 151, .indexAddr 49 (.tmp 149) (.tmp 150), 0, "law.go:64", #[⟨4, .data⟩, ⟨5, .data⟩], none⟩, ⟨some 152, .load 31 (.tmp 151), 31, "law.go:64", #[⟨6, .data⟩], none⟩, ⟨some 153, .call { callee := .value (.func 27), args := #[.tmp 148, .tmp 152], argTypes := #[30, 31] }, 42, "law.go:64", #[⟨3, .data⟩, ⟨7, .data⟩], none⟩, ⟨some 144, .move (.tmp 153), 42, "law.go:64", #[⟨8, .data⟩], none⟩, ⟨some 154, .extract (.tmp 144) 0, 3, "law.go:64", #[⟨9, .data⟩], none⟩, ⟨some 155, .extract (.tmp 144) 1, 39, "law.go:64", #[⟨9, .data⟩, ⟨12, .gcOnly .lateStores⟩], none⟩, ⟨some 30, .assign (.tmp 154), 3, "law.go:64", #[⟨10, .data⟩, ⟨8, .chain⟩, ⟨0, .phase⟩, ⟨1, .phase⟩, ⟨2, .phase⟩, ⟨3, .phase⟩, ⟨4, .phase⟩, ⟨5, .phase⟩, ⟨6, .phase⟩, ⟨7, .phase⟩, ⟨8, .phase⟩, ⟨9, .phase⟩, ⟨10, .phase⟩, ⟨11, .textOnly .lateStores⟩], none⟩, ⟨some 31, .assign (.tmp 155), 39, "law.go:64", #[⟨11, .data⟩, ⟨12, .chain⟩, ⟨0, .phase⟩, ⟨1, .phase⟩, ⟨2, .phase⟩, ⟨3, .phase⟩, ⟨4, .phase⟩, ⟨5, .phase⟩, ⟨6, .phase⟩, ⟨7, .phase⟩, ⟨8, .phase⟩, ⟨9, .phase⟩, ⟨10, .phase⟩, ⟨11, .phase⟩, ⟨12, .phase⟩], none⟩] true) lb7 := by kernel_rfl
set_option maxRecDepth 1000000 in
theorem lb7_eq : lb7 = .seq (Code.region 19 #[⟨some 157, .load 30 (.tmp 18), 30, "law.go:65", #[], none⟩, ⟨some 158, .move (.tmp 19), 31, "law.go:65", #[], none⟩, ⟨some 159, .call { callee := .value (.func 28), args := #[.tmp 157, .tmp 158], argTypes := #[30, 31] }, 42, "law.go:65", #[⟨0, .data⟩, ⟨1, .data⟩], none⟩, ⟨some 156, .move (.tmp 159), 42, "law.go:65", #[⟨2, .data⟩], none⟩, ⟨some 160, .extract (.tmp 156) 0, 3, "law.go:65", #[⟨3, .data⟩], none⟩, ⟨some 161, .extract (.tmp 156) 1, 39, "law.go:65", #[⟨3, .data⟩, ⟨6, .gcOnly .lateStores⟩], none⟩, ⟨some 32, .assign (.tmp 160), 3, "law.go:65", #[⟨4, .data⟩, ⟨2, .chain⟩, ⟨0, .phase⟩, ⟨1, .phase⟩, ⟨2, .phase⟩, ⟨3, .phase⟩, ⟨4, .phase⟩, ⟨5, .textOnly .lateStores⟩], none⟩, ⟨some 33, .assign (.tmp 161), 39, "law.go:65", #[⟨5, .data⟩, ⟨6, .chain⟩, ⟨0, .phase⟩, ⟨1, .phase⟩, ⟨2, .phase⟩, ⟨3, .phase⟩, ⟨4, .phase⟩, ⟨5, .phase⟩, ⟨6, .phase⟩], none⟩] false) lb8 := by kernel_rfl
set_option maxRecDepth 1000000 in
theorem lb8_eq : lb8 = .seq (Code.region 20 #[⟨some 163, .move (.tmp 15), 37, "law.go:66", #[], none⟩, ⟨some 164, .move (.tmp 17), 3, "law.go:66", #[], none⟩, ⟨some 165, .indexAddr 37 (.tmp 163) (.tmp 164), 0, "law.go:66", #[⟨0, .data⟩, ⟨1, .data⟩], none⟩, ⟨some 166, .load 30 (.tmp 165), 30, "law.go:66", #[⟨2, .data⟩], none⟩, ⟨some 167, .move (.tmp 16), 49, "law.go:66", #[], none⟩, ⟨some 168, .move (.tmp 17), 3, "law.go:66", #[], none⟩, ⟨some 169, .indexAddr 49 (.tmp 167) (.tmp 168), 0, "law.go:66", #[⟨4, .data⟩, ⟨5, .data⟩], none⟩, ⟨some 170, .load 31 (.tmp 169), 31, "law.go:66", #[⟨6, .data⟩], none⟩, ⟨some 171, .call { callee := .value (.func 29), args := #[.tmp 166, .tmp 170], argTypes := #[30, 31] }, 42, "law.go:66", #[⟨3, .data⟩, ⟨7, .data⟩], none⟩, ⟨some 162, .move (.tmp 171), 42, "law.go:66", #[⟨8, .data⟩], none⟩, ⟨some 172, .extract (.tmp 162) 0, 3, "law.go:66", #[⟨9, .data⟩], none⟩, ⟨some 173, .extract (.tmp 162) 1, 39, "law.go:66", #[⟨9, .data⟩, ⟨12, .gcOnly .lateStores⟩], none⟩, ⟨some 34, .assign (.tmp 172), 3, "law.go:66", #[⟨10, .data⟩, ⟨8, .chain⟩, ⟨0, .phase⟩, ⟨1, .phase⟩, ⟨2, .phase⟩, ⟨3, .phase⟩, ⟨4, .phase⟩, ⟨5, .phase⟩, ⟨6, .phase⟩, ⟨7, .phase⟩, ⟨8, .phase⟩, ⟨9, .phase⟩, ⟨10, .phase⟩, ⟨11, .textOnly .lateStores⟩], none⟩, ⟨some 35, .assign (.tmp 173), 39, "law.go:66", #[⟨11, .data⟩, ⟨12, .chain⟩, ⟨0, .phase⟩, ⟨1, .phase⟩, ⟨2, .phase⟩, ⟨3, .phase⟩, ⟨4, .phase⟩, ⟨5, .phase⟩, ⟨6, .phase⟩, ⟨7, .phase⟩, ⟨8, .phase⟩, ⟨9, .phase⟩, ⟨10, .phase⟩, ⟨11, .phase⟩, ⟨12, .phase⟩], none⟩] true) lb9 := by kernel_rfl
set_option maxRecDepth 1000000 in
theorem lb9_eq : lb9 = .seq (Code.region 21 #[⟨some 174, .load 25 (.tmp 20), 25, "law.go:67", #[], none⟩, ⟨some 175, .load 25 (.tmp 22), 25, "law.go:67", #[], none⟩, ⟨some 176, .binOp .neq 25 (.tmp 174) (.tmp 175) 25, 4, "law.go:67", #[⟨0, .data⟩, ⟨1, .data⟩], none⟩, ⟨some 177, .move (.tmp 176), 4, "law.go:67", #[⟨2, .data⟩], none⟩, ⟨some 178, .move (.tmp 21), 39, "law.go:67", #[⟨3, .guard⟩], some (3, false)⟩, ⟨some 179, .move (.tmp 23), 39, "law.go:67", #[⟨3, .guard⟩], some (3, false)⟩, ⟨some 180, .binOp .neq 39 (.tmp 178) (.tmp 179) 39, 4, "law.go:67", #[⟨4, .data⟩, ⟨5, .data⟩, ⟨3, .guard⟩], some (3, false)⟩, ⟨some 181, .pick (.tmp 177) (.const (.bool true)) (.tmp 180), 4, "law.go:67", #[⟨3, .data⟩, ⟨6, .data⟩], none⟩, ⟨some 182, .move (.tmp 181), 4, "law.go:67", #[⟨7, .data⟩, ⟨3, .chain⟩], none⟩, ⟨some 183, .move (.tmp 24), 3, "law.go:67", #[⟨8, .guard⟩], some (8, false)⟩, ⟨some 184, .move (.tmp 26), 3, "law.go:67", #[⟨8, .guard⟩], some (8, false)⟩, ⟨some 185, .binOp .neq 3 (.tmp 183) (.tmp 184) 3, 4, "law.go:67", #[⟨9, .data⟩, ⟨10, .data⟩, ⟨8, .guard⟩], some (8, false)⟩, ⟨some 186, .pick (.tmp 182) (.const (.bool true)) (.tmp 185), 4, "law.go:67", #[⟨8, .data⟩, ⟨11, .data⟩], none⟩, ⟨some 187, .move (.tmp 186), 4, "law.go:67", #[⟨12, .data⟩, ⟨8, .chain⟩], none⟩, ⟨some 188, .move (.tmp 25), 39, "law.go:67", #[⟨13, .guard⟩], some (13, false)⟩, ⟨some 189, .move (.tmp 27), 39, "law.go:67", #[⟨13, .guard⟩], some (13, false)⟩, ⟨some 190, .binOp .neq 39 (.tmp 188) (.tmp 189) 39, 4, "law.go:67", #[⟨14, .data⟩, ⟨15, .data⟩, ⟨13, .guard⟩], some (13, false)⟩, ⟨some 191, .pick (.tmp 187) (.const (.bool true)) (.tmp 190), 4, "law.go:67", #[⟨13, .data⟩, ⟨16, .data⟩], none⟩, ⟨some 192, .move (.tmp 191), 4, "law.go:67", #[⟨17, .data⟩, ⟨13, .chain⟩], none⟩, ⟨some 193, .move (.tmp 28), 3, "law.go:67", #[⟨18, .guard⟩], some (18, false)⟩, ⟨some 194, .move (.tmp 30), 3, "law.go:67", #[⟨18, .guard⟩], some (18, false)⟩, ⟨some 195, .binOp .neq 3 (.tmp 193) (.tmp 194) 3, 4, "law.go:67", #[⟨19, .data⟩, ⟨20, .data⟩, ⟨18, .guard⟩], some (18, false)⟩, ⟨some 196, .pick (.tmp 192) (.const (.bool true)) (.tmp 195), 4, "law.go:67", #[⟨18, .data⟩, ⟨21, .data⟩], none⟩, ⟨some 197, .move (.tmp 196), 4, "law.go:67", #[⟨22, .data⟩, ⟨18, .chain⟩], none⟩, ⟨some 198, .move (.tmp 29), 39, "law.go:67", #[⟨23, .guard⟩], some (23, false)⟩, ⟨some 199, .move (.tmp 31), 39, "law.go:67", #[⟨23, .guard⟩], some (23, false)⟩, ⟨some 200, .binOp .neq 39 (.tmp 198) (.tmp 199) 39, 4, "law.go:67", #[⟨24, .data⟩, ⟨25, .data⟩, ⟨23, .guard⟩], some (23, false)⟩, ⟨some 201, .pick (.tmp 197) (.const (.bool true)) (.tmp 200), 4, "law.go:67", #[⟨23, .data⟩, ⟨26, .data⟩], none⟩, ⟨some 202, .move (.tmp 201), 4, "law.go:67", #[⟨27, .data⟩, ⟨23, .chain⟩], none⟩, ⟨some 203, .move (.tmp 32), 3, "law.go:67", #[⟨28, .guard⟩], some (28, false)⟩, ⟨some 204, .move (.tmp 34), 3, "law.go:67", #[⟨28, .guard⟩], some (28, false)⟩, ⟨some 205, .binOp .neq 3 (.tmp 203) (.tmp 204) 3, 4, "law.go:67", #[⟨29, .data⟩, ⟨30, .data⟩, ⟨28, .guard⟩], some (28, false)⟩, ⟨some 206, .pick (.tmp 202) (.const (.bool true)) (.tmp 205), 4, "law.go:67", #[⟨28, .data⟩, ⟨31, .data⟩], none⟩, ⟨some 207, .move (.tmp 206), 4, "law.go:67", #[⟨32, .data⟩, ⟨28, .chain⟩], none⟩, ⟨some 208, .move (.tmp 33), 39, "law.go:67", #[⟨33, .guard⟩], some (33, false)⟩, ⟨some 209, .move (.tmp 35), 39, "law.go:67", #[⟨33, .guard⟩], some (33, false)⟩, ⟨some 210, .binOp .neq 39 (.tmp 208) (.tmp 209) 39, 4, "law.go:67", #[⟨34, .data⟩, ⟨35, .data⟩, ⟨33, .guard⟩], some (33, false)⟩, ⟨some 211, .pick (.tmp 207) (.const (.bool true)) (.tmp 210), 4, "law.go:67", #[⟨33, .data⟩, ⟨36, .data⟩], none⟩, ⟨some 212, .move (.tmp 211), 4, "law.go:67", #[⟨37, .data⟩, ⟨33, .chain⟩], none⟩, ⟨some 213, .load 30 (.tmp 18), 30, "law.go:67", #[⟨38, .guard⟩], some (38, false)⟩, ⟨some 214, .move (.tmp 15), 37, "law.go:67", #[⟨38, .guard⟩], some (38, false)⟩, ⟨some 215, .move (.tmp 17), 3, "law.go:67", #[⟨38, .guard⟩], some (38, false)⟩, ⟨some 216, .indexAddr 37 (.tmp 214) (.tmp 215), 0, "law.go:67", #[⟨40, .data⟩, ⟨41, .data⟩, ⟨38, .guard⟩], some (38, false)⟩, ⟨some 217, .load 30 (.tmp 216), 30, "law.go:67", #[⟨42, .data⟩, ⟨38, .guard⟩], some (38, false)⟩, ⟨some 218, .call { callee := .value (.func 18), args := #[.tmp 213, .tmp 217], argTypes := #[30, 30] }, 4, "law.go:67", #[⟨39, .data⟩, ⟨43, .data⟩, ⟨38, .chain⟩, ⟨38, .guard⟩], some (38, false)⟩, ⟨some 219, .unOp .not 4 (.tmp 218), 4, "law.go:67", #[⟨44, .data⟩, ⟨38, .guard⟩], some (38, false)⟩, ⟨some 220, .pick (.tmp 212) (.const (.bool true)) (.tmp 219), 4, "law.go:67", #[⟨38, .data⟩, ⟨45, .data⟩], none⟩, ⟨some 221, .move (.tmp 220), 4, "law.go:67", #[⟨46, .data⟩, ⟨44, .chain⟩], none⟩, ⟨some 222, .move (.tmp 19), 31, "law.go:67", #[⟨47, .guard⟩], some (47, false)⟩, ⟨some 223, .move (.tmp 16), 49, "law.go:67", #[⟨47, .guard⟩], some (47, false)⟩, ⟨some 224, .move (.tmp 17), 3, "law.go:67", #[⟨47, .guard⟩], some (47, false)⟩, ⟨some 225, .indexAddr 49 (.tmp 223) (.tmp 224), 0, "law.go:67", #[⟨49, .data⟩, ⟨50, .data⟩, ⟨47, .guard⟩], some (47, false)⟩, ⟨some 226, .load 31 (.tmp 225), 31, "law.go:67", #[⟨51, .data⟩, ⟨47, .guard⟩], some (47, false)⟩, ⟨some 227, .call { callee := .value (.func 30), args := #[.tmp 222, .tmp 226], argTypes := #[31, 31] }, 4, "law.go:67", #[⟨48, .data⟩, ⟨52, .data⟩, ⟨47, .chain⟩, ⟨47, .guard⟩], some (47, false)⟩, ⟨some 228, .unOp .not 4 (.tmp 227), 4, "law.go:67", #[⟨53, .data⟩, ⟨47, .guard⟩], some (47, false)⟩, ⟨some 229, .pick (.tmp 221) (.const (.bool true)) (.tmp 228), 4, "law.go:67", #[⟨47, .data⟩, ⟨54, .data⟩], none⟩] true) (.cond (.tmp 229) (.seq (Code.region 22 #[⟨some 10, .assign (.const (.bool false)), 4, "law.go:68", #[], none⟩] false) .ret) .skip) := by kernel_rfl
set_option maxRecDepth 1000000 in
theorem slrest8_cut : slrest8 = .seq (.seq (Code.region 9 #[⟨some 17, .assign (.const (.int .i64 0)), 3, "law.go:57", #[], none⟩] false) (.block 0 (.loop (.seq (.seq (Code.region 10 #[⟨some 86, .move (.tmp 17), 3, "law.go:57", #[], none⟩, ⟨some 87, .move (.tmp 15), 37, "law.go:57", #[], none⟩, ⟨some 88, .call { callee := .builtin .len, args := #[.tmp 87], argTypes := #[37] }, 3, "law.go:57", #[⟨1, .data⟩], none⟩, ⟨some 89, .binOp .lss 3 (.tmp 86) (.tmp 88) 3, 4, "law.go:57", #[⟨0, .data⟩, ⟨2, .data⟩], none⟩] false) (.cond (.tmp 89) .skip (.exit 0))) (.seq (.block 1 lb0) (Code.region 11 #[⟨some 90, .move (.tmp 17), 3, "law.go:57", #[], none⟩, ⟨some 91, .binOp .add 3 (.tmp 90) (.const (.int .i64 1)) 3, 3, "law.go:57", #[⟨0, .data⟩], none⟩, ⟨some 17, .assign (.tmp 91), 3, "law.go:57", #[⟨1, .data⟩, ⟨0, .phase⟩, ⟨1, .phase⟩], none⟩] false)))))) slrest9 := by kernel_rfl
def LQ (Q : Exit → Act → World → Prop) (w1 : World) (g q k : Nat) : Prop := ∀ (u0 u1 u2 u3 u4 u5 u6 u7 u8 u9 u10 u11 u12 u13 u14 u18 u19 u20 u21 u22 u23 u24 u25 u26 u27 u28 u29 u30 u31 u32 u33 u34 u35 u36 u37 u38 u39 u40 u41 u42 u43 u44 u45 u46 u47 u48 u49 u50 u51 u52 u53 u54 u55 u56 u57 u58 u59 u60 u61 u62 u63 u64 u65 u66 u67 u68 u69 u70 u71 u72 u73 u74 u75 u76 u77 u78 u79 u80 u81 u82 u83 u84 u85 u86 u87 u88 u89 u90 u91 u92 u93 u94 u95 u96 u97 u98 u99 u100 u101 u102 u103 u104 u105 u106 u107 u108 u109 u110 u111 u112 u113 u114 u115 u116 u117 u118 u119 u120 u121 u122 u123 u124 u125 u126 u127 u128 u129 u130 u131 u132 u133 u134 u135 u136 u137 u138 u139 u140 u141 u142 u143 u144 u145 u146 u147 u148 u149 u150 u151 u152 u153 u154 u155 u156 u157 u158 u159 u160 u161 u162 u163 u164 u165 u166 u167 u168 u169 u170 u171 u172 u173 u174 u175 u176 u177 u178 u179 u180 u181 u182 u183 u184 u185 u186 u187 u188 u189 u190 u191 u192 u193 u194 u195 u196 u197 u198 u199 u200 u201 u202 u203 u204 u205 u206 u207 u208 u209 u210 u211 u212 u213 u214 u215 u216 u217 u218 u219 u220 u221 u222 u223 u224 u225 u226 u227 u228 u229 u230 : Value) (w' : World), Below w1.heap.size w1 w' → Q .normal ⟨#[u0, u1, u2, u3, u4, u5, u6, u7, u8, u9, u10, u11, u12, u13, u14, (.slice (some ⟨g, 0, none⟩) 5 5), (.slice (some ⟨q, 0, none⟩) 5 5), (.int .i64 ↑k), u18, u19, u20, u21, u22, u23, u24, u25, u26, u27, u28, u29, u30, u31, u32, u33, u34, u35, u36, u37, u38, u39, u40, u41, u42, u43, u44, u45, u46, u47, u48, u49, u50, u51, u52, u53, u54, u55, u56, u57, u58, u59, u60, u61, u62, u63, u64, u65, u66, u67, u68, u69, u70, u71, u72, u73, u74, u75, u76, u77, u78, u79, u80, u81, u82, u83, u84, u85, u86, u87, u88, u89, u90, u91, u92, u93, u94, u95, u96, u97, u98, u99, u100, u101, u102, u103, u104, u105, u106, u107, u108, u109, u110, u111, u112, u113, u114, u115, u116, u117, u118, u119, u120, u121, u122, u123, u124, u125, u126, u127, u128, u129, u130, u131, u132, u133, u134, u135, u136, u137, u138, u139, u140, u141, u142, u143, u144, u145, u146, u147, u148, u149, u150, u151, u152, u153, u154, u155, u156, u157, u158, u159, u160, u161, u162, u163, u164, u165, u166, u167, u168, u169, u170, u171, u172, u173, u174, u175, u176, u177, u178, u179, u180, u181, u182, u183, u184, u185, u186, u187, u188, u189, u190, u191, u192, u193, u194, u195, u196, u197, u198, u199, u200, u201, u202, u203, u204, u205, u206, u207, u208, u209, u210, u211, u212, u213, u214, u215, u216, u217, u218, u219, u220, u221, u222, u223, u224, u225, u226, u227, u228, u229, u230], []⟩ w'

theorem yields_mid {P : Program} {ops : Array Oper} {S : World → Prop} {op : Oper} {a : Act} (hw : Region.wanted op (yielded ops a.tmps) = true) (ty : TypeId) (x : Operand) (ho : op.op = .load ty x)
    (b o : Nat) (hx : a.eval x = .pointer (some ⟨b, o, none⟩)) (cs : Array Value) (d : TypeDesc) (hS : ∀ w, S w → w.rangeAt b o cs.toList)
    (hu : P.underlying ty = some d) (hd : d.isRow = true) (hi : (P.info? ty).map (·.size) = some cs.size) : YieldsIf P ops S op (.agg cs) a := by
  have := yieldsIf_load_mid (P := P) (ops := ops) (S := S) hw ty x ho b o hx cs.toList d hS hu hd (by rw [Array.length_toList]; exact hi)
  rw [Array.toArray_toList] at this
  exact this
theorem SL.row {w0 w1 : World} {g q : Nat} {es : List Ent} {ls : List Lst} (hs : SL w0 w1 g q es ls) {k : Nat} {e : Ent} (hk : es[k]? = some e) {w : World} (hB : Below w1.heap.size w1 w) : w.rangeAt g (k * 18) (jobC e.J (.slice e.a e.n e.c)).toList := fun j v hv => by
  have h1 := flat_at (fun e : Ent => e.V.toList) Ent.V_len es k e hk j v hv
  have hb := hs.arr.below hB hs.arr.lt
  exact hb.at_ (k * 18 + j) v (by simpa using h1)
theorem SL.rd {w0 w1 : World} {g q : Nat} {es : List Ent} {ls : List Lst} (hs : SL w0 w1 g q es ls) {k : Nat} {x : Lst} (hr : ls[k]? = some x) {w : World} (hB : Below w1.heap.size w1 w) : w.cell? ⟨q, k, none⟩ = some (.slice x.a x.n x.c) := by
  have hb := hs.lar.below hB hs.lar.lt
  exact hb.at_ k _ (by simp [hr, Lst.V])
set_option maxRecDepth 100000 in
theorem neqT (a0 a1 a2 a3 a4 a5 : Int) (w : World) : (binOp .neq 25 (.agg #[.int .i64 a0, .int .i64 a1, .int .i64 a2, .int .i64 a3, .int .i64 a4, .int .i64 a5]) (.agg #[.int .i64 a0, .int .i64 a1, .int .i64 a2, .int .i64 a3, .int .i64 a4, .int .i64 a5])).run Try.prog w = .ok (.bool false) w := by
  rw [run_neq_struct]
  simp [go_sem]
theorem sameIntsT_any (a b : Option Addr) (n c m d : Nat) (l : List Int) (w : World) (hn : n = l.length) (h1 : n ≤ 1000) (hl : Is w w.heap.size a l) (hp : Is w w.heap.size b l) :
    Calls Try.prog 30 #[.slice a n c, .slice b n d] w fun e w' => e = .returned (.bool true) ∧ Below w.heap.size w w' := by
  refine (sameInts_any a b n c n d l l w hn hn h1 h1 hl hp).mono ?_
  rintro e w' ⟨rfl, hb⟩
  exact ⟨by rw [decide_eq_true rfl], hb⟩
set_option maxHeartbeats 4000000 in
set_option maxRecDepth 1000000 in
theorem lbp9 {w1 : World} {g q : Nat} {es : List Ent} {ls : List Lst} {w0 : World} {k : Nat} {e : Ent} {x : Lst} {Q : Exit → Act → World → Prop} {oa : Option Addr} {oc g18 : Nat} {ya : Option Addr} {yc : Nat} {g20 : Nat} {g22 : Nat} {w : World} {u0 u1 u2 u3 u4 u5 u6 u7 u8 u9 u10 u11 u12 u13 u14 u36 u37 u38 u39 u40 u41 u42 u43 u44 u45 u46 u47 u48 u49 u50 u51 u52 u53 u54 u55 u56 u57 u58 u59 u60 u61 u62 u63 u64 u65 u66 u67 u68 u69 u70 u71 u72 u73 u74 u75 u76 u77 u78 u79 u80 u81 u82 u83 u84 u85 u86 u87 u88 u89 u90 u91 u92 u93 u94 u95 u96 u97 u98 u99 u100 u101 u102 u103 u104 u105 u106 u107 u108 u109 u110 u111 u112 u113 u114 u115 u116 u117 u118 u119 u120 u121 u122 u123 u124 u125 u126 u127 u128 u129 u130 u131 u132 u133 u134 u135 u136 u137 u138 u139 u140 u141 u142 u143 u144 u145 u146 u147 u148 u149 u150 u151 u152 u153 u154 u155 u156 u157 u158 u159 u160 u161 u162 u163 u164 u165 u166 u167 u168 u169 u170 u171 u172 u173 u174 u175 u176 u177 u178 u179 u180 u181 u182 u183 u184 u185 u186 u187 u188 u189 u190 u191 u192 u193 u194 u195 u196 u197 u198 u199 u200 u201 u202 u203 u204 u205 u206 u207 u208 u209 u210 u211 u212 u213 u214 u215 u216 u217 u218 u219 u220 u221 u222 u223 u224 u225 u226 u227 u228 u229 u230 : Value} (hs : SL w0 w1 g q es ls) (hk : es[k]? = some e) (hx : ls[k]? = some x) (hk5 : k < 5) (hQ : LQ Q w1 g q k) (hB : Below w1.heap.size w1 w) (h18 : Bk w g18 30 (jobC e.J (.slice oa e.n oc))) (ho : Rg w w.heap.size oa e.J.sh) (hy : Is w w.heap.size ya x.l) (h20 : Bk w g20 25 (tonC (afterT e.J x.l))) (h22 : Bk w g22 25 (tonC (afterT e.J x.l))) : Code.wp Try.prog lb9 Q ⟨#[u0, u1, u2, u3, u4, u5, u6, u7, u8, u9, u10, u11, u12, u13, u14, (.slice (some ⟨g, 0, none⟩) 5 5), (.slice (some ⟨q, 0, none⟩) 5 5), (.int .i64 ↑k), (.pointer (some ⟨g18, 0, none⟩)), (.slice ya x.n yc), (.pointer (some ⟨g20, 0, none⟩)), (.int .i64 (filedE e.J x.l)), (.pointer (some ⟨g22, 0, none⟩)), (.int .i64 (filedE e.J x.l)), (.int .i64 (worstX e.J x.l).1), (.int .i64 (worstX e.J x.l).2), (.int .i64 (worstX e.J x.l).1), (.int .i64 (worstX e.J x.l).2), (.int .i64 (spoilX e.J x.l).1), (.int .i64 (spoilX e.J x.l).2), (.int .i64 (spoilX e.J x.l).1), (.int .i64 (spoilX e.J x.l).2), (.int .i64 (fineX e.J x.l).1), (.int .i64 (fineX e.J x.l).2), (.int .i64 (fineX e.J x.l).1), (.int .i64 (fineX e.J x.l).2), u36, u37, u38, u39, u40, u41, u42, u43, u44, u45, u46, u47, u48, u49, u50, u51, u52, u53, u54, u55, u56, u57, u58, u59, u60, u61, u62, u63, u64, u65, u66, u67, u68, u69, u70, u71, u72, u73, u74, u75, u76, u77, u78, u79, u80, u81, u82, u83, u84, u85, u86, u87, u88, u89, u90, u91, u92, u93, u94, u95, u96, u97, u98, u99, u100, u101, u102, u103, u104, u105, u106, u107, u108, u109, u110, u111, u112, u113, u114, u115, u116, u117, u118, u119, u120, u121, u122, u123, u124, u125, u126, u127, u128, u129, u130, u131, u132, u133, u134, u135, u136, u137, u138, u139, u140, u141, u142, u143, u144, u145, u146, u147, u148, u149, u150, u151, u152, u153, u154, u155, u156, u157, u158, u159, u160, u161, u162, u163, u164, u165, u166, u167, u168, u169, u170, u171, u172, u173, u174, u175, u176, u177, u178, u179, u180, u181, u182, u183, u184, u185, u186, u187, u188, u189, u190, u191, u192, u193, u194, u195, u196, u197, u198, u199, u200, u201, u202, u203, u204, u205, u206, u207, u208, u209, u210, u211, u212, u213, u214, u215, u216, u217, u218, u219, u220, u221, u222, u223, u224, u225, u226, u227, u228, u229, u230], []⟩ w := by
  rw [lb9_eq]
  obtain ⟨hrg, hen, hen30⟩ := hs.each e (List.mem_of_getElem? hk)
  obtain ⟨hxi, hxn, hxn30⟩ := hs.lach x (List.mem_of_getElem? hx)
  have HEN := hidMk hen
  have HXN := hidMk hxn
  have HRG := hidMk (hrg.up hB)
  have HIS := hidMk (hxi.up hB)
  have HS := hidMk hs
  have HQ := hidMk hQ
  have HR := hidMk (hs.row hk hB)
  have HB := hidMk hB
  have HK := hidMk hk
  have HX := hidMk hx
  have hwz := hB.size
  have hnm : e.n ≤ 9223372036854775807 := by omega
  have hxm : x.n ≤ 9223372036854775807 := by omega
  have H18 := hidMk h18
  have HO := hidMk ho
  have HY := hidMk hy
  have H20 := hidMk h20
  have H22 := hidMk h22
  clear h18 ho hy h20 h22
  clear hs hQ hB hk hx hrg hen hxi hxn
  have hki : (0 : Int) ≤ (k : Int) := by omega
  have hki2 : (k : Int) < 5 := by omega
  refine wp_seq_k fun K0 hK0 => ?_
  refine region_via (R := fun a_ e_ a' w' => e_ = .normal ∧ ∃ (v174 v175 v176 v177 v178 v179 v180 v181 v182 v183 v184 v185 v186 v187 v188 v189 v190 v191 v192 v193 v194 v195 v196 v197 v198 v199 v200 v201 v202 v203 v204 v205 v206 v207 v208 v209 v210 v211 v212 v213 v214 v215 v216 v217 v218 v219 v220 v221 v222 v223 v224 v225 v226 v227 v228 : Value), a' = ((((((((((((((((((((((((((((((((((((((((((((((((((((((((a_.put (some 174) v174).put (some 175) v175).put (some 176) v176).put (some 177) v177).put (some 178) v178).put (some 179) v179).put (some 180) v180).put (some 181) v181).put (some 182) v182).put (some 183) v183).put (some 184) v184).put (some 185) v185).put (some 186) v186).put (some 187) v187).put (some 188) v188).put (some 189) v189).put (some 190) v190).put (some 191) v191).put (some 192) v192).put (some 193) v193).put (some 194) v194).put (some 195) v195).put (some 196) v196).put (some 197) v197).put (some 198) v198).put (some 199) v199).put (some 200) v200).put (some 201) v201).put (some 202) v202).put (some 203) v203).put (some 204) v204).put (some 205) v205).put (some 206) v206).put (some 207) v207).put (some 208) v208).put (some 209) v209).put (some 210) v210).put (some 211) v211).put (some 212) v212).put (some 213) v213).put (some 214) v214).put (some 215) v215).put (some 216) v216).put (some 217) v217).put (some 218) v218).put (some 219) v219).put (some 220) v220).put (some 221) v221).put (some 222) v222).put (some 223) v223).put (some 224) v224).put (some 225) v225).put (some 226) v226).put (some 227) v227).put (some 228) v228).put (some 229) (.bool false)) ∧ Below w.heap.size w w') ?_ ?_
  rotate_left
  · rintro e_ a' w' ⟨rfl, v174, v175, v176, v177, v178, v179, v180, v181, v182, v183, v184, v185, v186, v187, v188, v189, v190, v191, v192, v193, v194, v195, v196, v197, v198, v199, v200, v201, v202, v203, v204, v205, v206, v207, v208, v209, v210, v211, v212, v213, v214, v215, v216, v217, v218, v219, v220, v221, v222, v223, v224, v225, v226, v227, v228, rfl, al⟩
    refine hK0 _ _ ?_
    simp only [Act.put, aT, aZ, aS]
    have HB2 := hidMk (HB.out.trans (al.mono hwz))
    clear al
    go_wp2_with fail
    apply HQ.out
    exact HB2.out
  have hBW : Below w.heap.size w w.drew := (Below.refl _ _).drew
  refine wp_region_held_drew (S := fun w' => Below w.heap.size w w') (by kernel_rfl) hBW (fun hS0 => ?_)
  generalize hWd : w.drew = wd at hS0 hBW ⊢
  clear hWd
  refine wpAnyH_take (i := 0) (oi := ⟨some 174, .load 25 (.tmp 20), 25, "law.go:67", #[], none⟩) rfl (by kernel_rfl) (by kernel_rfl) (by kernel_rfl) (fun _ _ _ h => by cases h.1) (yields_row (by rfl) 25 _ rfl g20 (tonC (afterT e.J x.l)) rfl 25 (fun w' hw => H20.out.below hw H20.out.lt) Try.underlying25 szTongue) (by assumption) ?_
  (try simp only [Act.put, aT, aZ, aS])
  refine wpAnyH_take (i := 1) (oi := ⟨some 175, .load 25 (.tmp 22), 25, "law.go:67", #[], none⟩) rfl (by kernel_rfl) (by kernel_rfl) (by kernel_rfl) (fun _ _ _ h => by cases h.1) (yields_row (by rfl) 25 _ rfl g22 (tonC (afterT e.J x.l)) rfl 25 (fun w' hw => H22.out.below hw H22.out.lt) Try.underlying25 szTongue) (by assumption) ?_
  (try simp only [Act.put, aT, aZ, aS])
  refine wpAnyH_take (i := 2) (oi := ⟨some 176, .binOp .neq 25 (.tmp 174) (.tmp 175) 25, 4, "law.go:67", #[⟨0, .data⟩, ⟨1, .data⟩], none⟩) (v := ?_) rfl (by kernel_rfl) (by kernel_rfl) (by kernel_rfl) (fun _ _ _ h => by cases h.1) (.inl ⟨by rfl, ?_⟩) (by assumption) ?_
  rotate_left
  · (intro w' hSw; (try dsimp only at hSw); (have hrd := HS.out.rd HX.out (HB.out.trans (hSw.mono hwz)); have qT := neqT (afterT e.J x.l).p1 (afterT e.J x.l).p2 (afterT e.J x.l).t1 (afterT e.J x.l).t2 (afterT e.J x.l).r1 (afterT e.J x.l).r2); go_simp <;> with_reducible rfl)
  (try simp only [Act.put, aT, aZ, aS])
  refine wpAnyH_take (i := 3) (oi := ⟨some 177, .move (.tmp 176), 4, "law.go:67", #[⟨2, .data⟩], none⟩) (v := ?_) rfl (by kernel_rfl) (by kernel_rfl) (by kernel_rfl) (fun _ _ _ h => by cases h.1) (.inl ⟨by rfl, ?_⟩) (by assumption) ?_
  rotate_left
  · (intro w' hSw; (try dsimp only at hSw); (have hrd := HS.out.rd HX.out (HB.out.trans (hSw.mono hwz)); have qT := neqT (afterT e.J x.l).p1 (afterT e.J x.l).p2 (afterT e.J x.l).t1 (afterT e.J x.l).t2 (afterT e.J x.l).r1 (afterT e.J x.l).r2); go_simp <;> with_reducible rfl)
  (try simp only [Act.put, aT, aZ, aS])
  refine wpAnyH_take (i := 4) (oi := ⟨some 178, .move (.tmp 21), 39, "law.go:67", #[⟨3, .guard⟩], some (3, false)⟩) (v := ?_) rfl (by kernel_rfl) (by kernel_rfl) (by kernel_rfl) (fun _ _ _ h => by cases h.1) (.inl ⟨by rfl, ?_⟩) (by assumption) ?_
  rotate_left
  · (intro w' hSw; (try dsimp only at hSw); (have hrd := HS.out.rd HX.out (HB.out.trans (hSw.mono hwz)); have qT := neqT (afterT e.J x.l).p1 (afterT e.J x.l).p2 (afterT e.J x.l).t1 (afterT e.J x.l).t2 (afterT e.J x.l).r1 (afterT e.J x.l).r2); go_simp <;> with_reducible rfl)
  (try simp only [Act.put, aT, aZ, aS])
  refine wpAnyH_take (i := 5) (oi := ⟨some 179, .move (.tmp 23), 39, "law.go:67", #[⟨3, .guard⟩], some (3, false)⟩) (v := ?_) rfl (by kernel_rfl) (by kernel_rfl) (by kernel_rfl) (fun _ _ _ h => by cases h.1) (.inl ⟨by rfl, ?_⟩) (by assumption) ?_
  rotate_left
  · (intro w' hSw; (try dsimp only at hSw); (have hrd := HS.out.rd HX.out (HB.out.trans (hSw.mono hwz)); have qT := neqT (afterT e.J x.l).p1 (afterT e.J x.l).p2 (afterT e.J x.l).t1 (afterT e.J x.l).t2 (afterT e.J x.l).r1 (afterT e.J x.l).r2); go_simp <;> with_reducible rfl)
  (try simp only [Act.put, aT, aZ, aS])
  refine wpAnyH_take (i := 6) (oi := ⟨some 180, .binOp .neq 39 (.tmp 178) (.tmp 179) 39, 4, "law.go:67", #[⟨4, .data⟩, ⟨5, .data⟩, ⟨3, .guard⟩], some (3, false)⟩) (v := ?_) rfl (by kernel_rfl) (by kernel_rfl) (by kernel_rfl) (fun _ _ _ h => by cases h.1) (.inl ⟨by rfl, ?_⟩) (by assumption) ?_
  rotate_left
  · (intro w' hSw; (try dsimp only at hSw); (have hrd := HS.out.rd HX.out (HB.out.trans (hSw.mono hwz)); have qT := neqT (afterT e.J x.l).p1 (afterT e.J x.l).p2 (afterT e.J x.l).t1 (afterT e.J x.l).t2 (afterT e.J x.l).r1 (afterT e.J x.l).r2); go_simp <;> with_reducible rfl)
  (try simp only [Act.put, aT, aZ, aS])
  refine wpAnyH_take (i := 7) (oi := ⟨some 181, .pick (.tmp 177) (.const (.bool true)) (.tmp 180), 4, "law.go:67", #[⟨3, .data⟩, ⟨6, .data⟩], none⟩) (v := ?_) rfl (by kernel_rfl) (by kernel_rfl) (by kernel_rfl) (fun _ _ _ h => by cases h.1) (.inl ⟨by rfl, ?_⟩) (by assumption) ?_
  rotate_left
  · (intro w' hSw; (try dsimp only at hSw); (have hrd := HS.out.rd HX.out (HB.out.trans (hSw.mono hwz)); have qT := neqT (afterT e.J x.l).p1 (afterT e.J x.l).p2 (afterT e.J x.l).t1 (afterT e.J x.l).t2 (afterT e.J x.l).r1 (afterT e.J x.l).r2); go_simp <;> with_reducible rfl)
  (try simp only [Act.put, aT, aZ, aS])
  refine wpAnyH_take (i := 8) (oi := ⟨some 182, .move (.tmp 181), 4, "law.go:67", #[⟨7, .data⟩, ⟨3, .chain⟩], none⟩) (v := ?_) rfl (by kernel_rfl) (by kernel_rfl) (by kernel_rfl) (fun _ _ _ h => by cases h.1) (.inl ⟨by rfl, ?_⟩) (by assumption) ?_
  rotate_left
  · (intro w' hSw; (try dsimp only at hSw); (have hrd := HS.out.rd HX.out (HB.out.trans (hSw.mono hwz)); have qT := neqT (afterT e.J x.l).p1 (afterT e.J x.l).p2 (afterT e.J x.l).t1 (afterT e.J x.l).t2 (afterT e.J x.l).r1 (afterT e.J x.l).r2); go_simp <;> with_reducible rfl)
  (try simp only [Act.put, aT, aZ, aS])
  refine wpAnyH_take (i := 9) (oi := ⟨some 183, .move (.tmp 24), 3, "law.go:67", #[⟨8, .guard⟩], some (8, false)⟩) (v := ?_) rfl (by kernel_rfl) (by kernel_rfl) (by kernel_rfl) (fun _ _ _ h => by cases h.1) (.inl ⟨by rfl, ?_⟩) (by assumption) ?_
  rotate_left
  · (intro w' hSw; (try dsimp only at hSw); (have hrd := HS.out.rd HX.out (HB.out.trans (hSw.mono hwz)); have qT := neqT (afterT e.J x.l).p1 (afterT e.J x.l).p2 (afterT e.J x.l).t1 (afterT e.J x.l).t2 (afterT e.J x.l).r1 (afterT e.J x.l).r2); go_simp <;> with_reducible rfl)
  (try simp only [Act.put, aT, aZ, aS])
  refine wpAnyH_take (i := 10) (oi := ⟨some 184, .move (.tmp 26), 3, "law.go:67", #[⟨8, .guard⟩], some (8, false)⟩) (v := ?_) rfl (by kernel_rfl) (by kernel_rfl) (by kernel_rfl) (fun _ _ _ h => by cases h.1) (.inl ⟨by rfl, ?_⟩) (by assumption) ?_
  rotate_left
  · (intro w' hSw; (try dsimp only at hSw); (have hrd := HS.out.rd HX.out (HB.out.trans (hSw.mono hwz)); have qT := neqT (afterT e.J x.l).p1 (afterT e.J x.l).p2 (afterT e.J x.l).t1 (afterT e.J x.l).t2 (afterT e.J x.l).r1 (afterT e.J x.l).r2); go_simp <;> with_reducible rfl)
  (try simp only [Act.put, aT, aZ, aS])
  refine wpAnyH_take (i := 11) (oi := ⟨some 185, .binOp .neq 3 (.tmp 183) (.tmp 184) 3, 4, "law.go:67", #[⟨9, .data⟩, ⟨10, .data⟩, ⟨8, .guard⟩], some (8, false)⟩) (v := ?_) rfl (by kernel_rfl) (by kernel_rfl) (by kernel_rfl) (fun _ _ _ h => by cases h.1) (.inl ⟨by rfl, ?_⟩) (by assumption) ?_
  rotate_left
  · (intro w' hSw; (try dsimp only at hSw); (have hrd := HS.out.rd HX.out (HB.out.trans (hSw.mono hwz)); have qT := neqT (afterT e.J x.l).p1 (afterT e.J x.l).p2 (afterT e.J x.l).t1 (afterT e.J x.l).t2 (afterT e.J x.l).r1 (afterT e.J x.l).r2); go_simp <;> with_reducible rfl)
  (try simp only [Act.put, aT, aZ, aS])
  refine wpAnyH_take (i := 12) (oi := ⟨some 186, .pick (.tmp 182) (.const (.bool true)) (.tmp 185), 4, "law.go:67", #[⟨8, .data⟩, ⟨11, .data⟩], none⟩) (v := ?_) rfl (by kernel_rfl) (by kernel_rfl) (by kernel_rfl) (fun _ _ _ h => by cases h.1) (.inl ⟨by rfl, ?_⟩) (by assumption) ?_
  rotate_left
  · (intro w' hSw; (try dsimp only at hSw); (have hrd := HS.out.rd HX.out (HB.out.trans (hSw.mono hwz)); have qT := neqT (afterT e.J x.l).p1 (afterT e.J x.l).p2 (afterT e.J x.l).t1 (afterT e.J x.l).t2 (afterT e.J x.l).r1 (afterT e.J x.l).r2); go_simp <;> with_reducible rfl)
  (try simp only [Act.put, aT, aZ, aS])
  refine wpAnyH_take (i := 13) (oi := ⟨some 187, .move (.tmp 186), 4, "law.go:67", #[⟨12, .data⟩, ⟨8, .chain⟩], none⟩) (v := ?_) rfl (by kernel_rfl) (by kernel_rfl) (by kernel_rfl) (fun _ _ _ h => by cases h.1) (.inl ⟨by rfl, ?_⟩) (by assumption) ?_
  rotate_left
  · (intro w' hSw; (try dsimp only at hSw); (have hrd := HS.out.rd HX.out (HB.out.trans (hSw.mono hwz)); have qT := neqT (afterT e.J x.l).p1 (afterT e.J x.l).p2 (afterT e.J x.l).t1 (afterT e.J x.l).t2 (afterT e.J x.l).r1 (afterT e.J x.l).r2); go_simp <;> with_reducible rfl)
  (try simp only [Act.put, aT, aZ, aS])
  refine wpAnyH_take (i := 14) (oi := ⟨some 188, .move (.tmp 25), 39, "law.go:67", #[⟨13, .guard⟩], some (13, false)⟩) (v := ?_) rfl (by kernel_rfl) (by kernel_rfl) (by kernel_rfl) (fun _ _ _ h => by cases h.1) (.inl ⟨by rfl, ?_⟩) (by assumption) ?_
  rotate_left
  · (intro w' hSw; (try dsimp only at hSw); (have hrd := HS.out.rd HX.out (HB.out.trans (hSw.mono hwz)); have qT := neqT (afterT e.J x.l).p1 (afterT e.J x.l).p2 (afterT e.J x.l).t1 (afterT e.J x.l).t2 (afterT e.J x.l).r1 (afterT e.J x.l).r2); go_simp <;> with_reducible rfl)
  (try simp only [Act.put, aT, aZ, aS])
  refine wpAnyH_take (i := 15) (oi := ⟨some 189, .move (.tmp 27), 39, "law.go:67", #[⟨13, .guard⟩], some (13, false)⟩) (v := ?_) rfl (by kernel_rfl) (by kernel_rfl) (by kernel_rfl) (fun _ _ _ h => by cases h.1) (.inl ⟨by rfl, ?_⟩) (by assumption) ?_
  rotate_left
  · (intro w' hSw; (try dsimp only at hSw); (have hrd := HS.out.rd HX.out (HB.out.trans (hSw.mono hwz)); have qT := neqT (afterT e.J x.l).p1 (afterT e.J x.l).p2 (afterT e.J x.l).t1 (afterT e.J x.l).t2 (afterT e.J x.l).r1 (afterT e.J x.l).r2); go_simp <;> with_reducible rfl)
  (try simp only [Act.put, aT, aZ, aS])
  refine wpAnyH_take (i := 16) (oi := ⟨some 190, .binOp .neq 39 (.tmp 188) (.tmp 189) 39, 4, "law.go:67", #[⟨14, .data⟩, ⟨15, .data⟩, ⟨13, .guard⟩], some (13, false)⟩) (v := ?_) rfl (by kernel_rfl) (by kernel_rfl) (by kernel_rfl) (fun _ _ _ h => by cases h.1) (.inl ⟨by rfl, ?_⟩) (by assumption) ?_
  rotate_left
  · (intro w' hSw; (try dsimp only at hSw); (have hrd := HS.out.rd HX.out (HB.out.trans (hSw.mono hwz)); have qT := neqT (afterT e.J x.l).p1 (afterT e.J x.l).p2 (afterT e.J x.l).t1 (afterT e.J x.l).t2 (afterT e.J x.l).r1 (afterT e.J x.l).r2); go_simp <;> with_reducible rfl)
  (try simp only [Act.put, aT, aZ, aS])
  refine wpAnyH_take (i := 17) (oi := ⟨some 191, .pick (.tmp 187) (.const (.bool true)) (.tmp 190), 4, "law.go:67", #[⟨13, .data⟩, ⟨16, .data⟩], none⟩) (v := ?_) rfl (by kernel_rfl) (by kernel_rfl) (by kernel_rfl) (fun _ _ _ h => by cases h.1) (.inl ⟨by rfl, ?_⟩) (by assumption) ?_
  rotate_left
  · (intro w' hSw; (try dsimp only at hSw); (have hrd := HS.out.rd HX.out (HB.out.trans (hSw.mono hwz)); have qT := neqT (afterT e.J x.l).p1 (afterT e.J x.l).p2 (afterT e.J x.l).t1 (afterT e.J x.l).t2 (afterT e.J x.l).r1 (afterT e.J x.l).r2); go_simp <;> with_reducible rfl)
  (try simp only [Act.put, aT, aZ, aS])
  refine wpAnyH_take (i := 18) (oi := ⟨some 192, .move (.tmp 191), 4, "law.go:67", #[⟨17, .data⟩, ⟨13, .chain⟩], none⟩) (v := ?_) rfl (by kernel_rfl) (by kernel_rfl) (by kernel_rfl) (fun _ _ _ h => by cases h.1) (.inl ⟨by rfl, ?_⟩) (by assumption) ?_
  rotate_left
  · (intro w' hSw; (try dsimp only at hSw); (have hrd := HS.out.rd HX.out (HB.out.trans (hSw.mono hwz)); have qT := neqT (afterT e.J x.l).p1 (afterT e.J x.l).p2 (afterT e.J x.l).t1 (afterT e.J x.l).t2 (afterT e.J x.l).r1 (afterT e.J x.l).r2); go_simp <;> with_reducible rfl)
  (try simp only [Act.put, aT, aZ, aS])
  refine wpAnyH_take (i := 19) (oi := ⟨some 193, .move (.tmp 28), 3, "law.go:67", #[⟨18, .guard⟩], some (18, false)⟩) (v := ?_) rfl (by kernel_rfl) (by kernel_rfl) (by kernel_rfl) (fun _ _ _ h => by cases h.1) (.inl ⟨by rfl, ?_⟩) (by assumption) ?_
  rotate_left
  · (intro w' hSw; (try dsimp only at hSw); (have hrd := HS.out.rd HX.out (HB.out.trans (hSw.mono hwz)); have qT := neqT (afterT e.J x.l).p1 (afterT e.J x.l).p2 (afterT e.J x.l).t1 (afterT e.J x.l).t2 (afterT e.J x.l).r1 (afterT e.J x.l).r2); go_simp <;> with_reducible rfl)
  (try simp only [Act.put, aT, aZ, aS])
  refine wpAnyH_take (i := 20) (oi := ⟨some 194, .move (.tmp 30), 3, "law.go:67", #[⟨18, .guard⟩], some (18, false)⟩) (v := ?_) rfl (by kernel_rfl) (by kernel_rfl) (by kernel_rfl) (fun _ _ _ h => by cases h.1) (.inl ⟨by rfl, ?_⟩) (by assumption) ?_
  rotate_left
  · (intro w' hSw; (try dsimp only at hSw); (have hrd := HS.out.rd HX.out (HB.out.trans (hSw.mono hwz)); have qT := neqT (afterT e.J x.l).p1 (afterT e.J x.l).p2 (afterT e.J x.l).t1 (afterT e.J x.l).t2 (afterT e.J x.l).r1 (afterT e.J x.l).r2); go_simp <;> with_reducible rfl)
  (try simp only [Act.put, aT, aZ, aS])
  refine wpAnyH_take (i := 21) (oi := ⟨some 195, .binOp .neq 3 (.tmp 193) (.tmp 194) 3, 4, "law.go:67", #[⟨19, .data⟩, ⟨20, .data⟩, ⟨18, .guard⟩], some (18, false)⟩) (v := ?_) rfl (by kernel_rfl) (by kernel_rfl) (by kernel_rfl) (fun _ _ _ h => by cases h.1) (.inl ⟨by rfl, ?_⟩) (by assumption) ?_
  rotate_left
  · (intro w' hSw; (try dsimp only at hSw); (have hrd := HS.out.rd HX.out (HB.out.trans (hSw.mono hwz)); have qT := neqT (afterT e.J x.l).p1 (afterT e.J x.l).p2 (afterT e.J x.l).t1 (afterT e.J x.l).t2 (afterT e.J x.l).r1 (afterT e.J x.l).r2); go_simp <;> with_reducible rfl)
  (try simp only [Act.put, aT, aZ, aS])
  refine wpAnyH_take (i := 22) (oi := ⟨some 196, .pick (.tmp 192) (.const (.bool true)) (.tmp 195), 4, "law.go:67", #[⟨18, .data⟩, ⟨21, .data⟩], none⟩) (v := ?_) rfl (by kernel_rfl) (by kernel_rfl) (by kernel_rfl) (fun _ _ _ h => by cases h.1) (.inl ⟨by rfl, ?_⟩) (by assumption) ?_
  rotate_left
  · (intro w' hSw; (try dsimp only at hSw); (have hrd := HS.out.rd HX.out (HB.out.trans (hSw.mono hwz)); have qT := neqT (afterT e.J x.l).p1 (afterT e.J x.l).p2 (afterT e.J x.l).t1 (afterT e.J x.l).t2 (afterT e.J x.l).r1 (afterT e.J x.l).r2); go_simp <;> with_reducible rfl)
  (try simp only [Act.put, aT, aZ, aS])
  refine wpAnyH_take (i := 23) (oi := ⟨some 197, .move (.tmp 196), 4, "law.go:67", #[⟨22, .data⟩, ⟨18, .chain⟩], none⟩) (v := ?_) rfl (by kernel_rfl) (by kernel_rfl) (by kernel_rfl) (fun _ _ _ h => by cases h.1) (.inl ⟨by rfl, ?_⟩) (by assumption) ?_
  rotate_left
  · (intro w' hSw; (try dsimp only at hSw); (have hrd := HS.out.rd HX.out (HB.out.trans (hSw.mono hwz)); have qT := neqT (afterT e.J x.l).p1 (afterT e.J x.l).p2 (afterT e.J x.l).t1 (afterT e.J x.l).t2 (afterT e.J x.l).r1 (afterT e.J x.l).r2); go_simp <;> with_reducible rfl)
  (try simp only [Act.put, aT, aZ, aS])
  refine wpAnyH_take (i := 24) (oi := ⟨some 198, .move (.tmp 29), 39, "law.go:67", #[⟨23, .guard⟩], some (23, false)⟩) (v := ?_) rfl (by kernel_rfl) (by kernel_rfl) (by kernel_rfl) (fun _ _ _ h => by cases h.1) (.inl ⟨by rfl, ?_⟩) (by assumption) ?_
  rotate_left
  · (intro w' hSw; (try dsimp only at hSw); (have hrd := HS.out.rd HX.out (HB.out.trans (hSw.mono hwz)); have qT := neqT (afterT e.J x.l).p1 (afterT e.J x.l).p2 (afterT e.J x.l).t1 (afterT e.J x.l).t2 (afterT e.J x.l).r1 (afterT e.J x.l).r2); go_simp <;> with_reducible rfl)
  (try simp only [Act.put, aT, aZ, aS])
  refine wpAnyH_take (i := 25) (oi := ⟨some 199, .move (.tmp 31), 39, "law.go:67", #[⟨23, .guard⟩], some (23, false)⟩) (v := ?_) rfl (by kernel_rfl) (by kernel_rfl) (by kernel_rfl) (fun _ _ _ h => by cases h.1) (.inl ⟨by rfl, ?_⟩) (by assumption) ?_
  rotate_left
  · (intro w' hSw; (try dsimp only at hSw); (have hrd := HS.out.rd HX.out (HB.out.trans (hSw.mono hwz)); have qT := neqT (afterT e.J x.l).p1 (afterT e.J x.l).p2 (afterT e.J x.l).t1 (afterT e.J x.l).t2 (afterT e.J x.l).r1 (afterT e.J x.l).r2); go_simp <;> with_reducible rfl)
  (try simp only [Act.put, aT, aZ, aS])
  refine wpAnyH_take (i := 26) (oi := ⟨some 200, .binOp .neq 39 (.tmp 198) (.tmp 199) 39, 4, "law.go:67", #[⟨24, .data⟩, ⟨25, .data⟩, ⟨23, .guard⟩], some (23, false)⟩) (v := ?_) rfl (by kernel_rfl) (by kernel_rfl) (by kernel_rfl) (fun _ _ _ h => by cases h.1) (.inl ⟨by rfl, ?_⟩) (by assumption) ?_
  rotate_left
  · (intro w' hSw; (try dsimp only at hSw); (have hrd := HS.out.rd HX.out (HB.out.trans (hSw.mono hwz)); have qT := neqT (afterT e.J x.l).p1 (afterT e.J x.l).p2 (afterT e.J x.l).t1 (afterT e.J x.l).t2 (afterT e.J x.l).r1 (afterT e.J x.l).r2); go_simp <;> with_reducible rfl)
  (try simp only [Act.put, aT, aZ, aS])
  refine wpAnyH_take (i := 27) (oi := ⟨some 201, .pick (.tmp 197) (.const (.bool true)) (.tmp 200), 4, "law.go:67", #[⟨23, .data⟩, ⟨26, .data⟩], none⟩) (v := ?_) rfl (by kernel_rfl) (by kernel_rfl) (by kernel_rfl) (fun _ _ _ h => by cases h.1) (.inl ⟨by rfl, ?_⟩) (by assumption) ?_
  rotate_left
  · (intro w' hSw; (try dsimp only at hSw); (have hrd := HS.out.rd HX.out (HB.out.trans (hSw.mono hwz)); have qT := neqT (afterT e.J x.l).p1 (afterT e.J x.l).p2 (afterT e.J x.l).t1 (afterT e.J x.l).t2 (afterT e.J x.l).r1 (afterT e.J x.l).r2); go_simp <;> with_reducible rfl)
  (try simp only [Act.put, aT, aZ, aS])
  refine wpAnyH_take (i := 28) (oi := ⟨some 202, .move (.tmp 201), 4, "law.go:67", #[⟨27, .data⟩, ⟨23, .chain⟩], none⟩) (v := ?_) rfl (by kernel_rfl) (by kernel_rfl) (by kernel_rfl) (fun _ _ _ h => by cases h.1) (.inl ⟨by rfl, ?_⟩) (by assumption) ?_
  rotate_left
  · (intro w' hSw; (try dsimp only at hSw); (have hrd := HS.out.rd HX.out (HB.out.trans (hSw.mono hwz)); have qT := neqT (afterT e.J x.l).p1 (afterT e.J x.l).p2 (afterT e.J x.l).t1 (afterT e.J x.l).t2 (afterT e.J x.l).r1 (afterT e.J x.l).r2); go_simp <;> with_reducible rfl)
  (try simp only [Act.put, aT, aZ, aS])
  refine wpAnyH_take (i := 29) (oi := ⟨some 203, .move (.tmp 32), 3, "law.go:67", #[⟨28, .guard⟩], some (28, false)⟩) (v := ?_) rfl (by kernel_rfl) (by kernel_rfl) (by kernel_rfl) (fun _ _ _ h => by cases h.1) (.inl ⟨by rfl, ?_⟩) (by assumption) ?_
  rotate_left
  · (intro w' hSw; (try dsimp only at hSw); (have hrd := HS.out.rd HX.out (HB.out.trans (hSw.mono hwz)); have qT := neqT (afterT e.J x.l).p1 (afterT e.J x.l).p2 (afterT e.J x.l).t1 (afterT e.J x.l).t2 (afterT e.J x.l).r1 (afterT e.J x.l).r2); go_simp <;> with_reducible rfl)
  (try simp only [Act.put, aT, aZ, aS])
  refine wpAnyH_take (i := 30) (oi := ⟨some 204, .move (.tmp 34), 3, "law.go:67", #[⟨28, .guard⟩], some (28, false)⟩) (v := ?_) rfl (by kernel_rfl) (by kernel_rfl) (by kernel_rfl) (fun _ _ _ h => by cases h.1) (.inl ⟨by rfl, ?_⟩) (by assumption) ?_
  rotate_left
  · (intro w' hSw; (try dsimp only at hSw); (have hrd := HS.out.rd HX.out (HB.out.trans (hSw.mono hwz)); have qT := neqT (afterT e.J x.l).p1 (afterT e.J x.l).p2 (afterT e.J x.l).t1 (afterT e.J x.l).t2 (afterT e.J x.l).r1 (afterT e.J x.l).r2); go_simp <;> with_reducible rfl)
  (try simp only [Act.put, aT, aZ, aS])
  refine wpAnyH_take (i := 31) (oi := ⟨some 205, .binOp .neq 3 (.tmp 203) (.tmp 204) 3, 4, "law.go:67", #[⟨29, .data⟩, ⟨30, .data⟩, ⟨28, .guard⟩], some (28, false)⟩) (v := ?_) rfl (by kernel_rfl) (by kernel_rfl) (by kernel_rfl) (fun _ _ _ h => by cases h.1) (.inl ⟨by rfl, ?_⟩) (by assumption) ?_
  rotate_left
  · (intro w' hSw; (try dsimp only at hSw); (have hrd := HS.out.rd HX.out (HB.out.trans (hSw.mono hwz)); have qT := neqT (afterT e.J x.l).p1 (afterT e.J x.l).p2 (afterT e.J x.l).t1 (afterT e.J x.l).t2 (afterT e.J x.l).r1 (afterT e.J x.l).r2); go_simp <;> with_reducible rfl)
  (try simp only [Act.put, aT, aZ, aS])
  refine wpAnyH_take (i := 32) (oi := ⟨some 206, .pick (.tmp 202) (.const (.bool true)) (.tmp 205), 4, "law.go:67", #[⟨28, .data⟩, ⟨31, .data⟩], none⟩) (v := ?_) rfl (by kernel_rfl) (by kernel_rfl) (by kernel_rfl) (fun _ _ _ h => by cases h.1) (.inl ⟨by rfl, ?_⟩) (by assumption) ?_
  rotate_left
  · (intro w' hSw; (try dsimp only at hSw); (have hrd := HS.out.rd HX.out (HB.out.trans (hSw.mono hwz)); have qT := neqT (afterT e.J x.l).p1 (afterT e.J x.l).p2 (afterT e.J x.l).t1 (afterT e.J x.l).t2 (afterT e.J x.l).r1 (afterT e.J x.l).r2); go_simp <;> with_reducible rfl)
  (try simp only [Act.put, aT, aZ, aS])
  refine wpAnyH_take (i := 33) (oi := ⟨some 207, .move (.tmp 206), 4, "law.go:67", #[⟨32, .data⟩, ⟨28, .chain⟩], none⟩) (v := ?_) rfl (by kernel_rfl) (by kernel_rfl) (by kernel_rfl) (fun _ _ _ h => by cases h.1) (.inl ⟨by rfl, ?_⟩) (by assumption) ?_
  rotate_left
  · (intro w' hSw; (try dsimp only at hSw); (have hrd := HS.out.rd HX.out (HB.out.trans (hSw.mono hwz)); have qT := neqT (afterT e.J x.l).p1 (afterT e.J x.l).p2 (afterT e.J x.l).t1 (afterT e.J x.l).t2 (afterT e.J x.l).r1 (afterT e.J x.l).r2); go_simp <;> with_reducible rfl)
  (try simp only [Act.put, aT, aZ, aS])
  refine wpAnyH_take (i := 34) (oi := ⟨some 208, .move (.tmp 33), 39, "law.go:67", #[⟨33, .guard⟩], some (33, false)⟩) (v := ?_) rfl (by kernel_rfl) (by kernel_rfl) (by kernel_rfl) (fun _ _ _ h => by cases h.1) (.inl ⟨by rfl, ?_⟩) (by assumption) ?_
  rotate_left
  · (intro w' hSw; (try dsimp only at hSw); (have hrd := HS.out.rd HX.out (HB.out.trans (hSw.mono hwz)); have qT := neqT (afterT e.J x.l).p1 (afterT e.J x.l).p2 (afterT e.J x.l).t1 (afterT e.J x.l).t2 (afterT e.J x.l).r1 (afterT e.J x.l).r2); go_simp <;> with_reducible rfl)
  (try simp only [Act.put, aT, aZ, aS])
  refine wpAnyH_take (i := 35) (oi := ⟨some 209, .move (.tmp 35), 39, "law.go:67", #[⟨33, .guard⟩], some (33, false)⟩) (v := ?_) rfl (by kernel_rfl) (by kernel_rfl) (by kernel_rfl) (fun _ _ _ h => by cases h.1) (.inl ⟨by rfl, ?_⟩) (by assumption) ?_
  rotate_left
  · (intro w' hSw; (try dsimp only at hSw); (have hrd := HS.out.rd HX.out (HB.out.trans (hSw.mono hwz)); have qT := neqT (afterT e.J x.l).p1 (afterT e.J x.l).p2 (afterT e.J x.l).t1 (afterT e.J x.l).t2 (afterT e.J x.l).r1 (afterT e.J x.l).r2); go_simp <;> with_reducible rfl)
  (try simp only [Act.put, aT, aZ, aS])
  refine wpAnyH_take (i := 36) (oi := ⟨some 210, .binOp .neq 39 (.tmp 208) (.tmp 209) 39, 4, "law.go:67", #[⟨34, .data⟩, ⟨35, .data⟩, ⟨33, .guard⟩], some (33, false)⟩) (v := ?_) rfl (by kernel_rfl) (by kernel_rfl) (by kernel_rfl) (fun _ _ _ h => by cases h.1) (.inl ⟨by rfl, ?_⟩) (by assumption) ?_
  rotate_left
  · (intro w' hSw; (try dsimp only at hSw); (have hrd := HS.out.rd HX.out (HB.out.trans (hSw.mono hwz)); have qT := neqT (afterT e.J x.l).p1 (afterT e.J x.l).p2 (afterT e.J x.l).t1 (afterT e.J x.l).t2 (afterT e.J x.l).r1 (afterT e.J x.l).r2); go_simp <;> with_reducible rfl)
  (try simp only [Act.put, aT, aZ, aS])
  refine wpAnyH_take (i := 37) (oi := ⟨some 211, .pick (.tmp 207) (.const (.bool true)) (.tmp 210), 4, "law.go:67", #[⟨33, .data⟩, ⟨36, .data⟩], none⟩) (v := ?_) rfl (by kernel_rfl) (by kernel_rfl) (by kernel_rfl) (fun _ _ _ h => by cases h.1) (.inl ⟨by rfl, ?_⟩) (by assumption) ?_
  rotate_left
  · (intro w' hSw; (try dsimp only at hSw); (have hrd := HS.out.rd HX.out (HB.out.trans (hSw.mono hwz)); have qT := neqT (afterT e.J x.l).p1 (afterT e.J x.l).p2 (afterT e.J x.l).t1 (afterT e.J x.l).t2 (afterT e.J x.l).r1 (afterT e.J x.l).r2); go_simp <;> with_reducible rfl)
  (try simp only [Act.put, aT, aZ, aS])
  refine wpAnyH_take (i := 38) (oi := ⟨some 212, .move (.tmp 211), 4, "law.go:67", #[⟨37, .data⟩, ⟨33, .chain⟩], none⟩) (v := ?_) rfl (by kernel_rfl) (by kernel_rfl) (by kernel_rfl) (fun _ _ _ h => by cases h.1) (.inl ⟨by rfl, ?_⟩) (by assumption) ?_
  rotate_left
  · (intro w' hSw; (try dsimp only at hSw); (have hrd := HS.out.rd HX.out (HB.out.trans (hSw.mono hwz)); have qT := neqT (afterT e.J x.l).p1 (afterT e.J x.l).p2 (afterT e.J x.l).t1 (afterT e.J x.l).t2 (afterT e.J x.l).r1 (afterT e.J x.l).r2); go_simp <;> with_reducible rfl)
  (try simp only [Act.put, aT, aZ, aS])
  refine wpAnyH_take (i := 39) (oi := ⟨some 213, .load 30 (.tmp 18), 30, "law.go:67", #[⟨38, .guard⟩], some (38, false)⟩) rfl (by kernel_rfl) (by kernel_rfl) (by kernel_rfl) (fun _ _ _ h => by cases h.1) (yields_row (by rfl) 30 _ rfl g18 (jobC e.J (.slice oa e.n oc)) rfl 30 (fun w' hw => H18.out.below hw H18.out.lt) Try.underlying30 szJob) (by assumption) ?_
  (try simp only [Act.put, aT, aZ, aS])
  refine wpAnyH_take (i := 40) (oi := ⟨some 214, .move (.tmp 15), 37, "law.go:67", #[⟨38, .guard⟩], some (38, false)⟩) (v := ?_) rfl (by kernel_rfl) (by kernel_rfl) (by kernel_rfl) (fun _ _ _ h => by cases h.1) (.inl ⟨by rfl, ?_⟩) (by assumption) ?_
  rotate_left
  · (intro w' hSw; (try dsimp only at hSw); (have hrd := HS.out.rd HX.out (HB.out.trans (hSw.mono hwz)); have qT := neqT (afterT e.J x.l).p1 (afterT e.J x.l).p2 (afterT e.J x.l).t1 (afterT e.J x.l).t2 (afterT e.J x.l).r1 (afterT e.J x.l).r2); go_simp <;> with_reducible rfl)
  (try simp only [Act.put, aT, aZ, aS])
  refine wpAnyH_take (i := 41) (oi := ⟨some 215, .move (.tmp 17), 3, "law.go:67", #[⟨38, .guard⟩], some (38, false)⟩) (v := ?_) rfl (by kernel_rfl) (by kernel_rfl) (by kernel_rfl) (fun _ _ _ h => by cases h.1) (.inl ⟨by rfl, ?_⟩) (by assumption) ?_
  rotate_left
  · (intro w' hSw; (try dsimp only at hSw); (have hrd := HS.out.rd HX.out (HB.out.trans (hSw.mono hwz)); have qT := neqT (afterT e.J x.l).p1 (afterT e.J x.l).p2 (afterT e.J x.l).t1 (afterT e.J x.l).t2 (afterT e.J x.l).r1 (afterT e.J x.l).r2); go_simp <;> with_reducible rfl)
  (try simp only [Act.put, aT, aZ, aS])
  refine wpAnyH_take (i := 42) (oi := ⟨some 216, .indexAddr 37 (.tmp 214) (.tmp 215), 0, "law.go:67", #[⟨40, .data⟩, ⟨41, .data⟩, ⟨38, .guard⟩], some (38, false)⟩) (v := ?_) rfl (by kernel_rfl) (by kernel_rfl) (by kernel_rfl) (fun _ _ _ h => by cases h.1) (.inl ⟨by rfl, ?_⟩) (by assumption) ?_
  rotate_left
  · (intro w' hSw; (try dsimp only at hSw); (have hrd := HS.out.rd HX.out (HB.out.trans (hSw.mono hwz)); have qT := neqT (afterT e.J x.l).p1 (afterT e.J x.l).p2 (afterT e.J x.l).t1 (afterT e.J x.l).t2 (afterT e.J x.l).r1 (afterT e.J x.l).r2); go_simp <;> with_reducible rfl)
  (try simp only [Act.put, aT, aZ, aS])
  refine wpAnyH_take (i := 43) (oi := ⟨some 217, .load 30 (.tmp 216), 30, "law.go:67", #[⟨42, .data⟩, ⟨38, .guard⟩], some (38, false)⟩) rfl (by kernel_rfl) (by kernel_rfl) (by kernel_rfl) (fun _ _ _ h => by cases h.1) (yields_mid (by rfl) 30 _ rfl g (k * 18) rfl (jobC e.J (.slice e.a e.n e.c)) _ (fun w' hw => HS.out.row HK.out (HB.out.trans (hw.mono hwz))) Try.underlying30 rfl szJob) (by assumption) ?_
  (try simp only [Act.put, aT, aZ, aS])
  refine wpAnyH_ready (rs := [44]) (by kernel_rfl) (by simp) ?_
  refine AllReadyH.cons (o := ⟨some 218, .call { callee := .value (.func 18), args := #[.tmp 213, .tmp 217], argTypes := #[30, 30] }, 4, "law.go:67", #[⟨39, .data⟩, ⟨43, .data⟩, ⟨38, .chain⟩, ⟨38, .guard⟩], some (38, false)⟩) rfl (fun K hK => ?_) ?_
  · go_simp
    go_at_call 18
    refine (sameJobs_any e.J oa e.a e.n oc e.c _ HEN.out (by omega) (HO.out.up hBW) (HRG.out.up hBW)).mono ?_
    rintro e' wX ⟨rfl, hbX⟩
    have hBW_ := hBW.trans (hbX.mono hBW.size)
    clear hBW
    have hBW := hBW_
    clear hBW_
    clear hbX
    go_wp2_with fail
    refine hK.out _ _ hBW (fun _ => ?_)
    clear hK K
    (try simp only [Act.put, aT, aZ, aS])
    refine wpAnyH_take (i := 45) (oi := ⟨some 219, .unOp .not 4 (.tmp 218), 4, "law.go:67", #[⟨44, .data⟩, ⟨38, .guard⟩], some (38, false)⟩) (v := ?_) rfl (by kernel_rfl) (by kernel_rfl) (by kernel_rfl) (fun _ _ _ h => by cases h.1) (.inl ⟨by rfl, ?_⟩) (by assumption) ?_
    rotate_left
    · (intro w' hSw; (try dsimp only at hSw); (have hrd := HS.out.rd HX.out (HB.out.trans (hSw.mono hwz)); have qT := neqT (afterT e.J x.l).p1 (afterT e.J x.l).p2 (afterT e.J x.l).t1 (afterT e.J x.l).t2 (afterT e.J x.l).r1 (afterT e.J x.l).r2); go_simp <;> with_reducible rfl)
    (try simp only [Act.put, aT, aZ, aS])
    refine wpAnyH_take (i := 46) (oi := ⟨some 220, .pick (.tmp 212) (.const (.bool true)) (.tmp 219), 4, "law.go:67", #[⟨38, .data⟩, ⟨45, .data⟩], none⟩) (v := ?_) rfl (by kernel_rfl) (by kernel_rfl) (by kernel_rfl) (fun _ _ _ h => by cases h.1) (.inl ⟨by rfl, ?_⟩) (by assumption) ?_
    rotate_left
    · (intro w' hSw; (try dsimp only at hSw); (have hrd := HS.out.rd HX.out (HB.out.trans (hSw.mono hwz)); have qT := neqT (afterT e.J x.l).p1 (afterT e.J x.l).p2 (afterT e.J x.l).t1 (afterT e.J x.l).t2 (afterT e.J x.l).r1 (afterT e.J x.l).r2); go_simp <;> with_reducible rfl)
    (try simp only [Act.put, aT, aZ, aS])
    refine wpAnyH_take (i := 47) (oi := ⟨some 221, .move (.tmp 220), 4, "law.go:67", #[⟨46, .data⟩, ⟨44, .chain⟩], none⟩) (v := ?_) rfl (by kernel_rfl) (by kernel_rfl) (by kernel_rfl) (fun _ _ _ h => by cases h.1) (.inl ⟨by rfl, ?_⟩) (by assumption) ?_
    rotate_left
    · (intro w' hSw; (try dsimp only at hSw); (have hrd := HS.out.rd HX.out (HB.out.trans (hSw.mono hwz)); have qT := neqT (afterT e.J x.l).p1 (afterT e.J x.l).p2 (afterT e.J x.l).t1 (afterT e.J x.l).t2 (afterT e.J x.l).r1 (afterT e.J x.l).r2); go_simp <;> with_reducible rfl)
    (try simp only [Act.put, aT, aZ, aS])
    refine wpAnyH_take (i := 48) (oi := ⟨some 222, .move (.tmp 19), 31, "law.go:67", #[⟨47, .guard⟩], some (47, false)⟩) (v := ?_) rfl (by kernel_rfl) (by kernel_rfl) (by kernel_rfl) (fun _ _ _ h => by cases h.1) (.inl ⟨by rfl, ?_⟩) (by assumption) ?_
    rotate_left
    · (intro w' hSw; (try dsimp only at hSw); (have hrd := HS.out.rd HX.out (HB.out.trans (hSw.mono hwz)); have qT := neqT (afterT e.J x.l).p1 (afterT e.J x.l).p2 (afterT e.J x.l).t1 (afterT e.J x.l).t2 (afterT e.J x.l).r1 (afterT e.J x.l).r2); go_simp <;> with_reducible rfl)
    (try simp only [Act.put, aT, aZ, aS])
    refine wpAnyH_take (i := 49) (oi := ⟨some 223, .move (.tmp 16), 49, "law.go:67", #[⟨47, .guard⟩], some (47, false)⟩) (v := ?_) rfl (by kernel_rfl) (by kernel_rfl) (by kernel_rfl) (fun _ _ _ h => by cases h.1) (.inl ⟨by rfl, ?_⟩) (by assumption) ?_
    rotate_left
    · (intro w' hSw; (try dsimp only at hSw); (have hrd := HS.out.rd HX.out (HB.out.trans (hSw.mono hwz)); have qT := neqT (afterT e.J x.l).p1 (afterT e.J x.l).p2 (afterT e.J x.l).t1 (afterT e.J x.l).t2 (afterT e.J x.l).r1 (afterT e.J x.l).r2); go_simp <;> with_reducible rfl)
    (try simp only [Act.put, aT, aZ, aS])
    refine wpAnyH_take (i := 50) (oi := ⟨some 224, .move (.tmp 17), 3, "law.go:67", #[⟨47, .guard⟩], some (47, false)⟩) (v := ?_) rfl (by kernel_rfl) (by kernel_rfl) (by kernel_rfl) (fun _ _ _ h => by cases h.1) (.inl ⟨by rfl, ?_⟩) (by assumption) ?_
    rotate_left
    · (intro w' hSw; (try dsimp only at hSw); (have hrd := HS.out.rd HX.out (HB.out.trans (hSw.mono hwz)); have qT := neqT (afterT e.J x.l).p1 (afterT e.J x.l).p2 (afterT e.J x.l).t1 (afterT e.J x.l).t2 (afterT e.J x.l).r1 (afterT e.J x.l).r2); go_simp <;> with_reducible rfl)
    (try simp only [Act.put, aT, aZ, aS])
    refine wpAnyH_take (i := 51) (oi := ⟨some 225, .indexAddr 49 (.tmp 223) (.tmp 224), 0, "law.go:67", #[⟨49, .data⟩, ⟨50, .data⟩, ⟨47, .guard⟩], some (47, false)⟩) (v := ?_) rfl (by kernel_rfl) (by kernel_rfl) (by kernel_rfl) (fun _ _ _ h => by cases h.1) (.inl ⟨by rfl, ?_⟩) (by assumption) ?_
    rotate_left
    · (intro w' hSw; (try dsimp only at hSw); (have hrd := HS.out.rd HX.out (HB.out.trans (hSw.mono hwz)); have qT := neqT (afterT e.J x.l).p1 (afterT e.J x.l).p2 (afterT e.J x.l).t1 (afterT e.J x.l).t2 (afterT e.J x.l).r1 (afterT e.J x.l).r2); go_simp <;> with_reducible rfl)
    (try simp only [Act.put, aT, aZ, aS])
    refine wpAnyH_take (i := 52) (oi := ⟨some 226, .load 31 (.tmp 225), 31, "law.go:67", #[⟨51, .data⟩, ⟨47, .guard⟩], some (47, false)⟩) (v := ?_) rfl (by kernel_rfl) (by kernel_rfl) (by kernel_rfl) (fun _ _ _ h => by cases h.1) (.inl ⟨by rfl, ?_⟩) (by assumption) ?_
    rotate_left
    · (intro w' hSw; (try dsimp only at hSw); (have hrd := HS.out.rd HX.out (HB.out.trans (hSw.mono hwz)); have qT := neqT (afterT e.J x.l).p1 (afterT e.J x.l).p2 (afterT e.J x.l).t1 (afterT e.J x.l).t2 (afterT e.J x.l).r1 (afterT e.J x.l).r2); go_simp <;> with_reducible rfl)
    (try simp only [Act.put, aT, aZ, aS])
    refine wpAnyH_ready (rs := [53]) (by kernel_rfl) (by simp) ?_
    refine AllReadyH.cons (o := ⟨some 227, .call { callee := .value (.func 30), args := #[.tmp 222, .tmp 226], argTypes := #[31, 31] }, 4, "law.go:67", #[⟨48, .data⟩, ⟨52, .data⟩, ⟨47, .chain⟩, ⟨47, .guard⟩], some (47, false)⟩) rfl (fun K hK => ?_) ?_
    · go_simp
      go_at_call 30
      refine (sameIntsT_any ya x.a x.n yc x.n x.c x.l _ HXN.out (by omega) (HY.out.up hBW) (HIS.out.up hBW)).mono ?_
      rintro e' wX ⟨rfl, hbX⟩
      have hBW_ := hBW.trans (hbX.mono hBW.size)
      clear hBW
      have hBW := hBW_
      clear hBW_
      clear hbX
      go_wp2_with fail
      refine hK.out _ _ hBW (fun _ => ?_)
      clear hK K
      (try simp only [Act.put, aT, aZ, aS])
      refine wpAnyH_take (i := 54) (oi := ⟨some 228, .unOp .not 4 (.tmp 227), 4, "law.go:67", #[⟨53, .data⟩, ⟨47, .guard⟩], some (47, false)⟩) (v := ?_) rfl (by kernel_rfl) (by kernel_rfl) (by kernel_rfl) (fun _ _ _ h => by cases h.1) (.inl ⟨by rfl, ?_⟩) (by assumption) ?_
      rotate_left
      · (intro w' hSw; (try dsimp only at hSw); (have hrd := HS.out.rd HX.out (HB.out.trans (hSw.mono hwz)); have qT := neqT (afterT e.J x.l).p1 (afterT e.J x.l).p2 (afterT e.J x.l).t1 (afterT e.J x.l).t2 (afterT e.J x.l).r1 (afterT e.J x.l).r2); go_simp <;> with_reducible rfl)
      (try simp only [Act.put, aT, aZ, aS])
      refine wpAnyH_take (i := 55) (oi := ⟨some 229, .pick (.tmp 221) (.const (.bool true)) (.tmp 228), 4, "law.go:67", #[⟨47, .data⟩, ⟨54, .data⟩], none⟩) (v := ?_) rfl (by kernel_rfl) (by kernel_rfl) (by kernel_rfl) (fun _ _ _ h => by cases h.1) (.inl ⟨by rfl, ?_⟩) (by assumption) ?_
      rotate_left
      · (intro w' hSw; (try dsimp only at hSw); (have hrd := HS.out.rd HX.out (HB.out.trans (hSw.mono hwz)); have qT := neqT (afterT e.J x.l).p1 (afterT e.J x.l).p2 (afterT e.J x.l).t1 (afterT e.J x.l).t2 (afterT e.J x.l).r1 (afterT e.J x.l).r2); go_simp <;> with_reducible rfl)
      (try simp only [Act.put, aT, aZ, aS])
      refine wpAnyH_done (by kernel_rfl) ?_ _
      exact ⟨rfl, _, _, _, _, _, _, _, _, _, _, _, _, _, _, _, _, _, _, _, _, _, _, _, _, _, _, _, _, _, _, _, _, _, _, _, _, _, _, _, _, _, _, _, _, _, _, _, _, _, _, _, _, _, _, _, rfl, hBW⟩
    exact AllReadyH.nil
  exact AllReadyH.nil
end Go.Proofs.Ytdficjnnlaicpaa
