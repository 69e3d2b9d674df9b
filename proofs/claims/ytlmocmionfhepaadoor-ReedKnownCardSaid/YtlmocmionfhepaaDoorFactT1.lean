import Derived.Test.YtlmocmionfhepaaDoorFactM
namespace Go.Sim
open Go
set_option maxRecDepth 1000000
noncomputable section
def gt1 : Gen := ⟨(nat_lit 16),[],(some ((nat_lit 0),pow10)),(nat_lit 4),[],(.bool .true)⟩
theorem gt1_ok : GFact Go.Proofs.Tryd.prog gt1 := gfact mixed tab_ok kbm_ok (n := 10000) (by kernel_rfl) (by kernel_rfl)
end

end Go.Sim
