import Derived.Test.YtkimdnckbdeekaaFactL
namespace Go.Sim
set_option linter.all false
open Go
set_option maxRecDepth 1000000
variable [Rho] [Asm] [SymOK]
noncomputable section
def gl0 : Gen := ⟨(nat_lit 16),[(.agg ⟨[(.int .i64 (.negSucc (nat_lit 11))),(.int .i64 (.negSucc (nat_lit 7))),(.int .i64 (.ofNat (nat_lit 30))),(.int .i64 (.ofNat (nat_lit 32))),(.int .i64 (.ofNat (nat_lit 40))),(.int .i64 (.ofNat (nat_lit 41))),(.int .i64 (.ofNat (nat_lit 3))),(.int .i64 (.ofNat (nat_lit 4))),(.int .i64 (.ofNat (nat_lit 2))),(.int .i64 (.ofNat (nat_lit 3))),(.int .i64 (.ofNat (nat_lit 1))),(.int .i64 (.ofNat (nat_lit 2))),(.int .i64 (.ofNat (nat_lit 1))),(.int .i64 (.ofNat (nat_lit 1))),(.int .i64 (.ofNat (nat_lit 20))),(.slice (some ⟨(nat_lit 0),(nat_lit 0),none⟩) (nat_lit 2) (nat_lit 2)),(.int .i64 (.ofNat (nat_lit 5))),(.int .i64 (.ofNat (nat_lit 1)))]⟩)],none,(nat_lit 0),[(.cells [(.int .i64 (.negSucc (nat_lit 1))),(.int .i64 (.ofNat (nat_lit 1))),(.int .i64 (.ofNat (nat_lit 0))),(.int .i64 (.ofNat (nat_lit 3)))])],(.int .i64 (.ofNat (nat_lit 0)))⟩
theorem gl0_ok : GFact Go.Proofs.Try.prog gl0 := gfact mixed tab_ok kb0_ok (n := 10000) (by kernel_rfl) (by kernel_rfl)
def gl1 : Gen := ⟨(nat_lit 17),[(.agg ⟨[(.int .i64 (.negSucc (nat_lit 11))),(.int .i64 (.negSucc (nat_lit 7))),(.int .i64 (.ofNat (nat_lit 30))),(.int .i64 (.ofNat (nat_lit 32))),(.int .i64 (.ofNat (nat_lit 40))),(.int .i64 (.ofNat (nat_lit 41))),(.int .i64 (.ofNat (nat_lit 3))),(.int .i64 (.ofNat (nat_lit 4))),(.int .i64 (.ofNat (nat_lit 2))),(.int .i64 (.ofNat (nat_lit 3))),(.int .i64 (.ofNat (nat_lit 1))),(.int .i64 (.ofNat (nat_lit 2))),(.int .i64 (.ofNat (nat_lit 1))),(.int .i64 (.ofNat (nat_lit 1))),(.int .i64 (.ofNat (nat_lit 20))),(.slice (some ⟨(nat_lit 0),(nat_lit 0),none⟩) (nat_lit 2) (nat_lit 2)),(.int .i64 (.ofNat (nat_lit 5))),(.int .i64 (.ofNat (nat_lit 1)))]⟩)],none,(nat_lit 0),[(.cells [(.int .i64 (.negSucc (nat_lit 1))),(.int .i64 (.ofNat (nat_lit 1))),(.int .i64 (.ofNat (nat_lit 0))),(.int .i64 (.ofNat (nat_lit 3)))])],(.tuple ⟨[(.agg ⟨[(.int .i64 (.negSucc (nat_lit 2))),(.int .i64 (.ofNat (nat_lit 2)))]⟩),(.agg ⟨[(.int .i64 (.negSucc (nat_lit 5))),(.int .i64 (.ofNat (nat_lit 5)))]⟩)]⟩)⟩
theorem gl1_ok : GFact Go.Proofs.Try.prog gl1 := gfact mixed tab_ok kb0_ok (n := 10000) (by kernel_rfl) (by kernel_rfl)
def kb1_lg : List (Nat × List Gen) := [((nat_lit 16),[gl0]),((nat_lit 17),[gl1])]
def kb1_lc : List (Nat × List Chg) := []
def kb1 : Kb := { w := .e, g := (.n (.n .e none (.n (.n (.n .e (some [gl1]) .e) none .e) none .e)) none (.n (.n (.n (.n .e (some [gl0]) .e) none .e) none .e) none .e)), c := .e }
theorem kb1_ok : KbOK Go.Proofs.Try.prog kb1 := kbOK (lw := []) (lg := kb1_lg) (lc := kb1_lc) .nil (.cons (.cons gl0_ok .nil) rfl (.cons (.cons gl1_ok .nil) rfl .nil)) .nil (by kernel_rfl) (by kernel_rfl) (by kernel_rfl)
end

end Go.Sim
