/- Part 32 of the proof: FactM, FactR. -/
import Derived.Test.YtadmcafbffjjbaaB30
import Derived.Test.YtadmcafbffjjbaaB31
namespace Go.Sim
set_option linter.all false
open Go
set_option maxRecDepth 1000000
variable [Rho] [Asm] [SymOK]
noncomputable section
def kbm_lg : List (Nat × List Gen) := [((nat_lit 12),[gh0]),((nat_lit 14),[gh1])]
def kbm_lc : List (Nat × List Chg) := []
def kbm : Kb := { w := .e,g := (.n .e none (.n (.n .e none (.n .e (some [gh0]) .e)) none (.n .e none (.n .e (some [gh1]) .e)))),c := .e }
theorem kbm_ok : KbOK Go.Proofs.Try.prog kbm := kbOK (lw := []) (lg := kbm_lg) (lc := kbm_lc) .nil (.cons (.cons gh0_ok .nil) rfl (.cons (.cons gh1_ok .nil) rfl .nil)) .nil (by kernel_rfl) (by kernel_rfl) (by kernel_rfl)
end

end Go.Sim
namespace Go.Sim
set_option linter.all false
open Go
set_option maxRecDepth 1000000
variable [Rho] [Asm] [SymOK]
noncomputable section
def h0 : Tr LO := .e
def root : Chg := ⟨.func (.func (nat_lit 8)) ⟨[]⟩ ⟨[]⟩,[],S1 h0 (nat_lit 0),(.bool .true),(nat_lit 0),[],[]⟩
theorem root_ok : CFact Go.Proofs.Try.prog root := cfact mixed tab_ok kbm_ok (n := 10000) (by kernel_rfl) (by kernel_rfl)
end

end Go.Sim
