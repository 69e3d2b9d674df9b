import Derived.Test.YtkjgachpmebipaiGreatDoorFactD
import Derived.Test.YtkjgachpmebipaiGreatDoorTabB
import Derived.Test.YtkjgachpmebipaiGreatDoorRShelf
namespace Go.Sim
set_option linter.all false
open Go
set_option maxRecDepth 1000000
variable [Rho] [Asm] [SymOK]
open Go.Proofs Go.RowKit
noncomputable section
def pow10 : List Value := [(.int .u64 (.ofNat (nat_lit 1))),(.int .u64 (.ofNat (nat_lit 10))),(.int .u64 (.ofNat (nat_lit 100))),(.int .u64 (.ofNat (nat_lit 1000))),(.int .u64 (.ofNat (nat_lit 10000))),(.int .u64 (.ofNat (nat_lit 100000))),(.int .u64 (.ofNat (nat_lit 1000000))),(.int .u64 (.ofNat (nat_lit 10000000))),(.int .u64 (.ofNat (nat_lit 100000000))),(.int .u64 (.ofNat (nat_lit 1000000000))),(.int .u64 (.ofNat (nat_lit 10000000000))),(.int .u64 (.ofNat (nat_lit 100000000000))),(.int .u64 (.ofNat (nat_lit 1000000000000))),(.int .u64 (.ofNat (nat_lit 10000000000000))),(.int .u64 (.ofNat (nat_lit 100000000000000))),(.int .u64 (.ofNat (nat_lit 1000000000000000))),(.int .u64 (.ofNat (nat_lit 10000000000000000))),(.int .u64 (.ofNat (nat_lit 100000000000000000))),(.int .u64 (.ofNat (nat_lit 1000000000000000000))),(.int .u64 (.ofNat (nat_lit 10000000000000000000)))]
def gi0 : Gen := itoaG (nat_lit 59) (nat_lit 4) (nat_lit 0) pow10 (.ofNat (nat_lit 0)) [y48]
theorem gi0_ok : GFact Go.Proofs.Tryz.prog gi0 := gItoa (P := Go.Proofs.Tryz.prog) (c := 20) Tryz.func59 rfl (by kernel_rfl) (fun n h0 h1 w ht => Any.strconv_Itoa Tryz.laysM171 n h0 h1 w ht) (by kernel_rfl) (by kernel_rfl) (by kernel_rfl) (by kernel_rfl) (by kernel_rfl)
def gi1 : Gen := itoaG (nat_lit 59) (nat_lit 4) (nat_lit 0) pow10 (.ofNat (nat_lit 1)) [y49]
theorem gi1_ok : GFact Go.Proofs.Tryz.prog gi1 := gItoa (P := Go.Proofs.Tryz.prog) (c := 20) Tryz.func59 rfl (by kernel_rfl) (fun n h0 h1 w ht => Any.strconv_Itoa Tryz.laysM171 n h0 h1 w ht) (by kernel_rfl) (by kernel_rfl) (by kernel_rfl) (by kernel_rfl) (by kernel_rfl)
def gi2 : Gen := itoaG (nat_lit 59) (nat_lit 4) (nat_lit 0) pow10 (.ofNat (nat_lit 2)) [y50]
theorem gi2_ok : GFact Go.Proofs.Tryz.prog gi2 := gItoa (P := Go.Proofs.Tryz.prog) (c := 20) Tryz.func59 rfl (by kernel_rfl) (fun n h0 h1 w ht => Any.strconv_Itoa Tryz.laysM171 n h0 h1 w ht) (by kernel_rfl) (by kernel_rfl) (by kernel_rfl) (by kernel_rfl) (by kernel_rfl)
def gi250 : Gen := itoaG (nat_lit 59) (nat_lit 4) (nat_lit 0) pow10 (.ofNat (nat_lit 250)) [y50,y53,y48]
theorem gi250_ok : GFact Go.Proofs.Tryz.prog gi250 := gItoa (P := Go.Proofs.Tryz.prog) (c := 20) Tryz.func59 rfl (by kernel_rfl) (fun n h0 h1 w ht => Any.strconv_Itoa Tryz.laysM171 n h0 h1 w ht) (by kernel_rfl) (by kernel_rfl) (by kernel_rfl) (by kernel_rfl) (by kernel_rfl)
def gi349 : Gen := itoaG (nat_lit 59) (nat_lit 4) (nat_lit 0) pow10 (.ofNat (nat_lit 349)) [y51,y52,y57]
theorem gi349_ok : GFact Go.Proofs.Tryz.prog gi349 := gItoa (P := Go.Proofs.Tryz.prog) (c := 20) Tryz.func59 rfl (by kernel_rfl) (fun n h0 h1 w ht => Any.strconv_Itoa Tryz.laysM171 n h0 h1 w ht) (by kernel_rfl) (by kernel_rfl) (by kernel_rfl) (by kernel_rfl) (by kernel_rfl)
def gi350 : Gen := itoaG (nat_lit 59) (nat_lit 4) (nat_lit 0) pow10 (.ofNat (nat_lit 350)) [y51,y53,y48]
theorem gi350_ok : GFact Go.Proofs.Tryz.prog gi350 := gItoa (P := Go.Proofs.Tryz.prog) (c := 20) Tryz.func59 rfl (by kernel_rfl) (fun n h0 h1 w ht => Any.strconv_Itoa Tryz.laysM171 n h0 h1 w ht) (by kernel_rfl) (by kernel_rfl) (by kernel_rfl) (by kernel_rfl) (by kernel_rfl)
def gi399 : Gen := itoaG (nat_lit 59) (nat_lit 4) (nat_lit 0) pow10 (.ofNat (nat_lit 399)) [y51,y57,y57]
theorem gi399_ok : GFact Go.Proofs.Tryz.prog gi399 := gItoa (P := Go.Proofs.Tryz.prog) (c := 20) Tryz.func59 rfl (by kernel_rfl) (fun n h0 h1 w ht => Any.strconv_Itoa Tryz.laysM171 n h0 h1 w ht) (by kernel_rfl) (by kernel_rfl) (by kernel_rfl) (by kernel_rfl) (by kernel_rfl)
def gi1921 : Gen := itoaG (nat_lit 59) (nat_lit 4) (nat_lit 0) pow10 (.ofNat (nat_lit 1921)) [y49,y57,y50,y49]
theorem gi1921_ok : GFact Go.Proofs.Tryz.prog gi1921 := gItoa (P := Go.Proofs.Tryz.prog) (c := 20) Tryz.func59 rfl (by kernel_rfl) (fun n h0 h1 w ht => Any.strconv_Itoa Tryz.laysM171 n h0 h1 w ht) (by kernel_rfl) (by kernel_rfl) (by kernel_rfl) (by kernel_rfl) (by kernel_rfl)
def gj0 : Gen := joinG (nat_lit 90) (nat_lit 4) (nat_lit 2) [[y119,y111,y114,y107,y115],[y50]] [y32] [y119,y111,y114,y107,y115,y32,y50]
theorem gj0_ok : GFact Go.Proofs.Tryz.prog gj0 := gJoin (P := Go.Proofs.Tryz.prog) Tryz.func90 rfl (by kernel_rfl) (fun bk o c xs sep w h1 h2 h3 h4 h5 => Tryz.strings_Join bk o c xs sep w h1 h2 h3 h4 h5) (by kernel_rfl) (by kernel_rfl)
def gj1 : Gen := joinG (nat_lit 90) (nat_lit 4) (nat_lit 2) [[y109,y111,y100,y101,y108],[y49,y57,y50,y49]] [y32] [y109,y111,y100,y101,y108,y32,y49,y57,y50,y49]
theorem gj1_ok : GFact Go.Proofs.Tryz.prog gj1 := gJoin (P := Go.Proofs.Tryz.prog) Tryz.func90 rfl (by kernel_rfl) (fun bk o c xs sep w h1 h2 h3 h4 h5 => Tryz.strings_Join bk o c xs sep w h1 h2 h3 h4 h5) (by kernel_rfl) (by kernel_rfl)
def gj2 : Gen := joinGU (nat_lit 90) (nat_lit 4) (nat_lit 2) [[y49],[y50]] [y46] [y49,y46,y50]
theorem gj2_ok : GFact Go.Proofs.Tryz.prog gj2 := gJoinU (P := Go.Proofs.Tryz.prog) Tryz.func90 rfl (by kernel_rfl) (fun bk o c xs sep w h1 h2 h3 h4 h5 => Tryz.strings_Join bk o c xs sep w h1 h2 h3 h4 h5) (by kernel_rfl) (by kernel_rfl)
def gj3 : Gen := joinG (nat_lit 90) (nat_lit 4) (nat_lit 3) [[y108,y111,y111,y107],[y49,y46,y50],[y50,y53,y48,y61,y51,y52,y57]] [y32] [y108,y111,y111,y107,y32,y49,y46,y50,y32,y50,y53,y48,y61,y51,y52,y57]
theorem gj3_ok : GFact Go.Proofs.Tryz.prog gj3 := gJoin (P := Go.Proofs.Tryz.prog) Tryz.func90 rfl (by kernel_rfl) (fun bk o c xs sep w h1 h2 h3 h4 h5 => Tryz.strings_Join bk o c xs sep w h1 h2 h3 h4 h5) (by kernel_rfl) (by kernel_rfl)
def gj4 : Gen := joinGU (nat_lit 90) (nat_lit 4) (nat_lit 2) [[y50],[y50]] [y46] [y50,y46,y50]
theorem gj4_ok : GFact Go.Proofs.Tryz.prog gj4 := gJoinU (P := Go.Proofs.Tryz.prog) Tryz.func90 rfl (by kernel_rfl) (fun bk o c xs sep w h1 h2 h3 h4 h5 => Tryz.strings_Join bk o c xs sep w h1 h2 h3 h4 h5) (by kernel_rfl) (by kernel_rfl)
def gj5 : Gen := joinG (nat_lit 90) (nat_lit 4) (nat_lit 3) [[y108,y111,y111,y107],[y50,y46,y50],[y51,y53,y48,y61,y51,y57,y57]] [y32] [y108,y111,y111,y107,y32,y50,y46,y50,y32,y51,y53,y48,y61,y51,y57,y57]
theorem gj5_ok : GFact Go.Proofs.Tryz.prog gj5 := gJoin (P := Go.Proofs.Tryz.prog) Tryz.func90 rfl (by kernel_rfl) (fun bk o c xs sep w h1 h2 h3 h4 h5 => Tryz.strings_Join bk o c xs sep w h1 h2 h3 h4 h5) (by kernel_rfl) (by kernel_rfl)
def gj6 : Gen := joinGU (nat_lit 90) (nat_lit 4) (nat_lit 2) [[y49],[y48]] [y46] [y49,y46,y48]
theorem gj6_ok : GFact Go.Proofs.Tryz.prog gj6 := gJoinU (P := Go.Proofs.Tryz.prog) Tryz.func90 rfl (by kernel_rfl) (fun bk o c xs sep w h1 h2 h3 h4 h5 => Tryz.strings_Join bk o c xs sep w h1 h2 h3 h4 h5) (by kernel_rfl) (by kernel_rfl)
def gj7 : Gen := joinG (nat_lit 90) (nat_lit 4) (nat_lit 4) [[y111,y108,y100],[y49,y46,y48],[y45],[y48]] [y32] [y111,y108,y100,y32,y49,y46,y48,y32,y45,y32,y48]
theorem gj7_ok : GFact Go.Proofs.Tryz.prog gj7 := gJoin (P := Go.Proofs.Tryz.prog) Tryz.func90 rfl (by kernel_rfl) (fun bk o c xs sep w h1 h2 h3 h4 h5 => Tryz.strings_Join bk o c xs sep w h1 h2 h3 h4 h5) (by kernel_rfl) (by kernel_rfl)
def gj8 : Gen := joinG (nat_lit 90) (nat_lit 4) (nat_lit 1) [[y109,y117,y115,y101,y117,y109]] [y32] [y109,y117,y115,y101,y117,y109]
theorem gj8_ok : GFact Go.Proofs.Tryz.prog gj8 := gJoin (P := Go.Proofs.Tryz.prog) Tryz.func90 rfl (by kernel_rfl) (fun bk o c xs sep w h1 h2 h3 h4 h5 => Tryz.strings_Join bk o c xs sep w h1 h2 h3 h4 h5) (by kernel_rfl) (by kernel_rfl)
theorem mixed : Go.Proofs.Tryz.prog.follows .mixedOrders = true := by kernel_rfl
def kb0_lg : List (Nat × List Gen) := [((nat_lit 59),[gi0,gi1,gi2,gi250,gi349,gi350,gi399,gi1921]),((nat_lit 90),[gj0,gj1,gj2,gj3,gj4,gj5,gj6,gj7,gj8])]
def kb0_lc : List (Nat × List Chg) := []
def kb0 : Kb := { w := .e, g := (.n (.n (.n .e none (.n .e none (.n .e none (.n .e (some [gi0,gi1,gi2,gi250,gi349,gi350,gi399,gi1921]) .e)))) none .e) none (.n .e none (.n (.n .e none (.n .e none (.n (.n .e (some [gj0,gj1,gj2,gj3,gj4,gj5,gj6,gj7,gj8]) .e) none .e))) none .e))), c := .e }
theorem kb0_ok : KbOK Go.Proofs.Tryz.prog kb0 := kbOK (lw := []) (lg := kb0_lg) (lc := kb0_lc) .nil (.cons (.cons gi0_ok (.cons gi1_ok (.cons gi2_ok (.cons gi250_ok (.cons gi349_ok (.cons gi350_ok (.cons gi399_ok (.cons gi1921_ok .nil)))))))) rfl (.cons (.cons gj0_ok (.cons gj1_ok (.cons gj2_ok (.cons gj3_ok (.cons gj4_ok (.cons gj5_ok (.cons gj6_ok (.cons gj7_ok (.cons gj8_ok .nil))))))))) rfl .nil)) .nil (by kernel_rfl) (by kernel_rfl) (by kernel_rfl)
end

end Go.Sim
