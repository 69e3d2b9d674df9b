import Derived.Test.YtkimdnckbdeekaaSimGg
import Derived.Test.YtkimdnckbdeekaaTabB
namespace Go.Sim
set_option linter.all false
open Go
set_option maxRecDepth 1000000
variable [Rho] [Asm] [SymOK]
open Go.Proofs Go.RowKit
noncomputable section
theorem mixed : Go.Proofs.Try.prog.follows .mixedOrders = true := by kernel_rfl
def kb0_lg : List (Nat × List Gen) := []
def kb0_lc : List (Nat × List Chg) := []
def kb0 : Kb := { w := .e, g := .e, c := .e }
theorem kb0_ok : KbOK Go.Proofs.Try.prog kb0 := kbOK (lw := []) (lg := kb0_lg) (lc := kb0_lc) .nil .nil .nil (by kernel_rfl) (by kernel_rfl) (by kernel_rfl)
end

end Go.Sim
