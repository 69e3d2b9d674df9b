import Derived.Test.YtlmocmionfhepaaDoorFactM
namespace Go.Sim
open Go
set_option maxRecDepth 1000000
noncomputable section
def gt0 : Gen := ⟨(nat_lit 6),[],none,(nat_lit 4),[],(.bool .true)⟩
theorem gt0_ok : GFact Go.Proofs.Tryd.prog gt0 := gfact mixed tab_ok kbm_ok (n := 10000) (by kernel_rfl) (by kernel_rfl)
end

end Go.Sim
