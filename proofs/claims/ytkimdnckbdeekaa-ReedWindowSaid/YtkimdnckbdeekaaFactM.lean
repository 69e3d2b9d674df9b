import Derived.Test.YtkimdnckbdeekaaFactH0
import Derived.Test.YtkimdnckbdeekaaFactH1
namespace Go.Sim
set_option linter.all false
open Go
set_option maxRecDepth 1000000
variable [Rho] [Asm] [SymOK]
noncomputable section
def kbm_lg : List (Nat × List Gen) := [((nat_lit 16),[gl0]),((nat_lit 17),[gl1]),((nat_lit 26),[gh0]),((nat_lit 27),[gh1])]
def kbm_lc : List (Nat × List Chg) := []
def kbm : Kb := { w := .e, g := (.n (.n (.n .e none (.n .e none (.n .e (some [gh1]) .e))) none (.n (.n (.n .e (some [gl1]) .e) none .e) none .e)) none (.n (.n (.n (.n .e (some [gl0]) .e) none .e) none .e) none (.n (.n .e none (.n .e (some [gh0]) .e)) none .e))), c := .e }
theorem kbm_ok : KbOK Go.Proofs.Try.prog kbm := kbOK (lw := []) (lg := kbm_lg) (lc := kbm_lc) .nil (.cons (.cons gl0_ok .nil) rfl (.cons (.cons gl1_ok .nil) rfl (.cons (.cons gh0_ok .nil) rfl (.cons (.cons gh1_ok .nil) rfl .nil)))) .nil (by kernel_rfl) (by kernel_rfl) (by kernel_rfl)
end

end Go.Sim
