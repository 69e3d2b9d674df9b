import Derived.Test.YtlmocmionfhepaaDoorFactN
namespace Go.Sim
open Go
set_option maxRecDepth 1000000
noncomputable section
def h0 : Tr LO := (.n .e (some (.ro [(.int .u64 (.ofNat (nat_lit 1))),(.int .u64 (.ofNat (nat_lit 10))),(.int .u64 (.ofNat (nat_lit 100))),(.int .u64 (.ofNat (nat_lit 1000))),(.int .u64 (.ofNat (nat_lit 10000))),(.int .u64 (.ofNat (nat_lit 100000))),(.int .u64 (.ofNat (nat_lit 1000000))),(.int .u64 (.ofNat (nat_lit 10000000))),(.int .u64 (.ofNat (nat_lit 100000000))),(.int .u64 (.ofNat (nat_lit 1000000000))),(.int .u64 (.ofNat (nat_lit 10000000000))),(.int .u64 (.ofNat (nat_lit 100000000000))),(.int .u64 (.ofNat (nat_lit 1000000000000))),(.int .u64 (.ofNat (nat_lit 10000000000000))),(.int .u64 (.ofNat (nat_lit 100000000000000))),(.int .u64 (.ofNat (nat_lit 1000000000000000))),(.int .u64 (.ofNat (nat_lit 10000000000000000))),(.int .u64 (.ofNat (nat_lit 100000000000000000))),(.int .u64 (.ofNat (nat_lit 1000000000000000000))),(.int .u64 (.ofNat (nat_lit 10000000000000000000)))])) .e)
def root : Chg := ⟨.func (.func (nat_lit 3)) ⟨[]⟩ ⟨[]⟩, [], S1 h0 (nat_lit 4), (.bool .true), (nat_lit 4), [], []⟩
theorem root_ok : CFact Go.Proofs.Tryd.prog root := cfact mixed tab_ok kbt_ok (n := 10000) (by kernel_rfl) (by kernel_rfl)
end

end Go.Sim
