/- Part 21 of the proof: TabB, FactL, FactC. -/
import Derived.Test.YtbebofmpimfbgaaH20
import Derived.Test.YtbebofmpimfbgaaH09
namespace Go.Sim
set_option linter.all false
open Go
set_option maxRecDepth 1000000
variable [Rho] [Asm] [SymOK]
theorem t11_ok : compF Go.Proofs.Try.prog (nat_lit 11) = some t11 := by kernel_rfl
theorem t13_ok : compF Go.Proofs.Try.prog (nat_lit 13) = some t13 := by kernel_rfl
theorem t15_ok : compF Go.Proofs.Try.prog (nat_lit 15) = some t15 := by kernel_rfl
theorem t17_ok : compF Go.Proofs.Try.prog (nat_lit 17) = some t17 := by kernel_rfl
theorem t20_ok : compF Go.Proofs.Try.prog (nat_lit 20) = some t20 := by kernel_rfl
theorem t28_ok : compF Go.Proofs.Try.prog (nat_lit 28) = some t28 := by kernel_rfl
theorem t34_ok : compF Go.Proofs.Try.prog (nat_lit 34) = some t34 := by kernel_rfl
theorem t35_ok : compF Go.Proofs.Try.prog (nat_lit 35) = some t35 := by kernel_rfl
theorem t44_ok : compF Go.Proofs.Try.prog (nat_lit 44) = some t44 := by kernel_rfl
theorem t46_ok : compF Go.Proofs.Try.prog (nat_lit 46) = some t46 := by kernel_rfl
theorem t47_ok : compF Go.Proofs.Try.prog (nat_lit 47) = some t47 := by kernel_rfl
theorem t48_ok : compF Go.Proofs.Try.prog (nat_lit 48) = some t48 := by kernel_rfl
theorem t49_ok : compF Go.Proofs.Try.prog (nat_lit 49) = some t49 := by kernel_rfl
theorem t50_ok : compF Go.Proofs.Try.prog (nat_lit 50) = some t50 := by kernel_rfl
theorem t52_ok : compF Go.Proofs.Try.prog (nat_lit 52) = some t52 := by kernel_rfl
theorem t53_ok : compF Go.Proofs.Try.prog (nat_lit 53) = some t53 := by kernel_rfl
theorem t54_ok : compF Go.Proofs.Try.prog (nat_lit 54) = some t54 := by kernel_rfl
theorem t65_ok : compF Go.Proofs.Try.prog (nat_lit 65) = some t65 := by kernel_rfl
theorem t67_ok : compF Go.Proofs.Try.prog (nat_lit 67) = some t67 := by kernel_rfl
theorem t68_ok : compF Go.Proofs.Try.prog (nat_lit 68) = some t68 := by kernel_rfl
theorem t69_ok : compF Go.Proofs.Try.prog (nat_lit 69) = some t69 := by kernel_rfl
theorem t70_ok : compF Go.Proofs.Try.prog (nat_lit 70) = some t70 := by kernel_rfl
theorem t71_ok : compF Go.Proofs.Try.prog (nat_lit 71) = some t71 := by kernel_rfl
theorem t72_ok : compF Go.Proofs.Try.prog (nat_lit 72) = some t72 := by kernel_rfl
theorem t73_ok : compF Go.Proofs.Try.prog (nat_lit 73) = some t73 := by kernel_rfl
theorem t74_ok : compF Go.Proofs.Try.prog (nat_lit 74) = some t74 := by kernel_rfl
theorem t78_ok : compF Go.Proofs.Try.prog (nat_lit 78) = some t78 := by kernel_rfl
theorem t79_ok : compF Go.Proofs.Try.prog (nat_lit 79) = some t79 := by kernel_rfl
theorem t80_ok : compF Go.Proofs.Try.prog (nat_lit 80) = some t80 := by kernel_rfl
theorem t81_ok : compF Go.Proofs.Try.prog (nat_lit 81) = some t81 := by kernel_rfl
theorem t82_ok : compF Go.Proofs.Try.prog (nat_lit 82) = some t82 := by kernel_rfl
theorem t83_ok : compF Go.Proofs.Try.prog (nat_lit 83) = some t83 := by kernel_rfl
theorem t89_ok : compF Go.Proofs.Try.prog (nat_lit 89) = some t89 := by kernel_rfl
theorem t90_ok : compF Go.Proofs.Try.prog (nat_lit 90) = some t90 := by kernel_rfl
theorem t91_ok : compF Go.Proofs.Try.prog (nat_lit 91) = some t91 := by kernel_rfl
theorem t92_ok : compF Go.Proofs.Try.prog (nat_lit 92) = some t92 := by kernel_rfl
theorem t93_ok : compF Go.Proofs.Try.prog (nat_lit 93) = some t93 := by kernel_rfl
theorem t94_ok : compF Go.Proofs.Try.prog (nat_lit 94) = some t94 := by kernel_rfl
theorem t97_ok : compF Go.Proofs.Try.prog (nat_lit 97) = some t97 := by kernel_rfl
theorem all_ok : AllC Go.Proofs.Try.prog tabL := (.cons t11_ok rfl (.cons t13_ok rfl (.cons t15_ok rfl (.cons t17_ok rfl (.cons t20_ok rfl (.cons t28_ok rfl (.cons t34_ok rfl (.cons t35_ok rfl (.cons t44_ok rfl (.cons t46_ok rfl (.cons t47_ok rfl (.cons t48_ok rfl (.cons t49_ok rfl (.cons t50_ok rfl (.cons t52_ok rfl (.cons t53_ok rfl (.cons t54_ok rfl (.cons t65_ok rfl (.cons t67_ok rfl (.cons t68_ok rfl (.cons t69_ok rfl (.cons t70_ok rfl (.cons t71_ok rfl (.cons t72_ok rfl (.cons t73_ok rfl (.cons t74_ok rfl (.cons t78_ok rfl (.cons t79_ok rfl (.cons t80_ok rfl (.cons t81_ok rfl (.cons t82_ok rfl (.cons t83_ok rfl (.cons t89_ok rfl (.cons t90_ok rfl (.cons t91_ok rfl (.cons t92_ok rfl (.cons t93_ok rfl (.cons t94_ok rfl (.cons t97_ok rfl .nil)))))))))))))))))))))))))))))))))))))))
theorem tab_eq : tab = layT tabL := by kernel_rfl
theorem tab_ok : TabOK Go.Proofs.Try.prog tab := tabOK all_ok tab_eq
end Go.Sim
namespace Go.Sim
set_option linter.all false
open Go
set_option maxRecDepth 1000000
variable [Rho] [Asm] [SymOK]
open Go.Proofs Go.RowKit
noncomputable section
def vi0 : Value := (.int .i64 (.ofNat (nat_lit 0)))
def vi1 : Value := (.int .i64 (.ofNat (nat_lit 1)))
def vi10 : Value := (.int .i64 (.ofNat (nat_lit 10)))
def vi13 : Value := (.int .i64 (.ofNat (nat_lit 13)))
def vi2 : Value := (.int .i64 (.ofNat (nat_lit 2)))
def vi20 : Value := (.int .i64 (.ofNat (nat_lit 20)))
def vi24 : Value := (.int .i64 (.ofNat (nat_lit 24)))
def vi26 : Value := (.int .i64 (.ofNat (nat_lit 26)))
def vi28 : Value := (.int .i64 (.ofNat (nat_lit 28)))
def vi29 : Value := (.int .i64 (.ofNat (nat_lit 29)))
def vi3 : Value := (.int .i64 (.ofNat (nat_lit 3)))
def vi30 : Value := (.int .i64 (.ofNat (nat_lit 30)))
def vi31 : Value := (.int .i64 (.ofNat (nat_lit 31)))
def vi32 : Value := (.int .i64 (.ofNat (nat_lit 32)))
def vi37 : Value := (.int .i64 (.ofNat (nat_lit 37)))
def vi38 : Value := (.int .i64 (.ofNat (nat_lit 38)))
def vi39 : Value := (.int .i64 (.ofNat (nat_lit 39)))
def vi4 : Value := (.int .i64 (.ofNat (nat_lit 4)))
def vi40 : Value := (.int .i64 (.ofNat (nat_lit 40)))
def vi41 : Value := (.int .i64 (.ofNat (nat_lit 41)))
def vi5 : Value := (.int .i64 (.ofNat (nat_lit 5)))
def vi6 : Value := (.int .i64 (.ofNat (nat_lit 6)))
def vi7 : Value := (.int .i64 (.ofNat (nat_lit 7)))
def vi8 : Value := (.int .i64 (.ofNat (nat_lit 8)))
def vi9 : Value := (.int .i64 (.ofNat (nat_lit 9)))
def vm1 : Value := (.int .i64 (.negSucc (nat_lit 1)))
def vm10 : Value := (.int .i64 (.negSucc (nat_lit 10)))
def vm11 : Value := (.int .i64 (.negSucc (nat_lit 11)))
def vm12 : Value := (.int .i64 (.negSucc (nat_lit 12)))
def vm13 : Value := (.int .i64 (.negSucc (nat_lit 13)))
def vm14 : Value := (.int .i64 (.negSucc (nat_lit 14)))
def vm15 : Value := (.int .i64 (.negSucc (nat_lit 15)))
def vm16 : Value := (.int .i64 (.negSucc (nat_lit 16)))
def vm17 : Value := (.int .i64 (.negSucc (nat_lit 17)))
def vm18 : Value := (.int .i64 (.negSucc (nat_lit 18)))
def vm19 : Value := (.int .i64 (.negSucc (nat_lit 19)))
def vm2 : Value := (.int .i64 (.negSucc (nat_lit 2)))
def vm20 : Value := (.int .i64 (.negSucc (nat_lit 20)))
def vm3 : Value := (.int .i64 (.negSucc (nat_lit 3)))
def vm4 : Value := (.int .i64 (.negSucc (nat_lit 4)))
def vm5 : Value := (.int .i64 (.negSucc (nat_lit 5)))
def vm6 : Value := (.int .i64 (.negSucc (nat_lit 6)))
def vm7 : Value := (.int .i64 (.negSucc (nat_lit 7)))
def vm8 : Value := (.int .i64 (.negSucc (nat_lit 8)))
def vm9 : Value := (.int .i64 (.negSucc (nat_lit 9)))
theorem mixed : Go.Proofs.Try.prog.follows .mixedOrders = true := by kernel_rfl
end

end Go.Sim
namespace Go.Sim
set_option linter.all false
open Go
set_option maxRecDepth 1000000
variable [Rho] [Asm] [SymOK]
noncomputable section
def kb1_lg : List (Nat × List Gen) := []
def kb1_lc : List (Nat × List Chg) := []
def kb1 : Kb := { w := .e, g := .e, c := .e }
theorem kb1_ok : KbOK Go.Proofs.Try.prog kb1 := kbOK (lw := []) (lg := kb1_lg) (lc := kb1_lc) .nil .nil .nil (by kernel_rfl) (by kernel_rfl) (by kernel_rfl)
end

end Go.Sim
