import Derived.Test.YtlmocmionfhepaaDoorFactC
namespace Go.Sim
open Go
set_option maxRecDepth 1000000
noncomputable section
def gh2 : Gen := ⟨(nat_lit 17),[(.agg ⟨[(.int .i64 (.negSucc (nat_lit 11))),(.int .i64 (.negSucc (nat_lit 7))),(.int .i64 (.ofNat (nat_lit 30))),(.int .i64 (.ofNat (nat_lit 32))),(.int .i64 (.ofNat (nat_lit 40))),(.int .i64 (.ofNat (nat_lit 41))),(.int .i64 (.ofNat (nat_lit 3))),(.int .i64 (.ofNat (nat_lit 4))),(.int .i64 (.ofNat (nat_lit 2))),(.int .i64 (.ofNat (nat_lit 3))),(.int .i64 (.ofNat (nat_lit 1))),(.int .i64 (.ofNat (nat_lit 2))),(.int .i64 (.ofNat (nat_lit 1))),(.int .i64 (.ofNat (nat_lit 1))),(.int .i64 (.ofNat (nat_lit 20))),(.slice (some ⟨(nat_lit 4),(nat_lit 0),none⟩) (nat_lit 2) (nat_lit 2)),(.int .i64 (.ofNat (nat_lit 5))),(.int .i64 (.ofNat (nat_lit 1)))]⟩)],none,(nat_lit 4),[(.cells [(.int .i64 (.negSucc (nat_lit 1))),(.int .i64 (.ofNat (nat_lit 1))),(.int .i64 (.ofNat (nat_lit 0))),(.int .i64 (.ofNat (nat_lit 3)))])],(.tuple ⟨[(.slice none (nat_lit 0) (nat_lit 0)),(.int .i64 (.ofNat (nat_lit 11)))]⟩)⟩
theorem gh2_ok : GFact Go.Proofs.Tryd.prog gh2 := gfact mixed tab_ok kb1_ok (n := 10000) (by kernel_rfl) (by kernel_rfl)
end

end Go.Sim
