import Derived.Test.YtkimdnckbdeekaaFactM
namespace Go.Sim
set_option linter.all false
open Go
set_option maxRecDepth 1000000
variable [Rho] [Asm] [SymOK]
noncomputable section
def h0 : Tr LO := .e
def root : Chg := ⟨.func (.func (nat_lit 11)) ⟨[]⟩ ⟨[]⟩, [], S1 h0 (nat_lit 0), (.bool .true), (nat_lit 0), [], []⟩
theorem root_ok : CFact Go.Proofs.Try.prog root := cfact mixed tab_ok kbm_ok (n := 10000) (by kernel_rfl) (by kernel_rfl)
end

end Go.Sim
