/- Part 16 of the proof: TabB, FactL, FactC. -/
import Derived.Test.YtbbekjcldbbhiaaU15
import Derived.Test.YtbbekjcldbbhiaaU09
namespace Go.Sim
set_option linter.all false
open Go
set_option maxRecDepth 1000000
variable [Rho] [Asm] [SymOK]
theorem t5_ok : compF Go.Proofs.Try.prog (nat_lit 5) = some t5 := by kernel_rfl
theorem t7_ok : compF Go.Proofs.Try.prog (nat_lit 7) = some t7 := by kernel_rfl
theorem t9_ok : compF Go.Proofs.Try.prog (nat_lit 9) = some t9 := by kernel_rfl
theorem t11_ok : compF Go.Proofs.Try.prog (nat_lit 11) = some t11 := by kernel_rfl
theorem t16_ok : compF Go.Proofs.Try.prog (nat_lit 16) = some t16 := by kernel_rfl
theorem t17_ok : compF Go.Proofs.Try.prog (nat_lit 17) = some t17 := by kernel_rfl
theorem t18_ok : compF Go.Proofs.Try.prog (nat_lit 18) = some t18 := by kernel_rfl
theorem t19_ok : compF Go.Proofs.Try.prog (nat_lit 19) = some t19 := by kernel_rfl
theorem t20_ok : compF Go.Proofs.Try.prog (nat_lit 20) = some t20 := by kernel_rfl
theorem t21_ok : compF Go.Proofs.Try.prog (nat_lit 21) = some t21 := by kernel_rfl
theorem t22_ok : compF Go.Proofs.Try.prog (nat_lit 22) = some t22 := by kernel_rfl
theorem t23_ok : compF Go.Proofs.Try.prog (nat_lit 23) = some t23 := by kernel_rfl
theorem t24_ok : compF Go.Proofs.Try.prog (nat_lit 24) = some t24 := by kernel_rfl
theorem t26_ok : compF Go.Proofs.Try.prog (nat_lit 26) = some t26 := by kernel_rfl
theorem t28_ok : compF Go.Proofs.Try.prog (nat_lit 28) = some t28 := by kernel_rfl
theorem t29_ok : compF Go.Proofs.Try.prog (nat_lit 29) = some t29 := by kernel_rfl
theorem t30_ok : compF Go.Proofs.Try.prog (nat_lit 30) = some t30 := by kernel_rfl
theorem t31_ok : compF Go.Proofs.Try.prog (nat_lit 31) = some t31 := by kernel_rfl
theorem t36_ok : compF Go.Proofs.Try.prog (nat_lit 36) = some t36 := by kernel_rfl
theorem t37_ok : compF Go.Proofs.Try.prog (nat_lit 37) = some t37 := by kernel_rfl
theorem t38_ok : compF Go.Proofs.Try.prog (nat_lit 38) = some t38 := by kernel_rfl
theorem t39_ok : compF Go.Proofs.Try.prog (nat_lit 39) = some t39 := by kernel_rfl
theorem t40_ok : compF Go.Proofs.Try.prog (nat_lit 40) = some t40 := by kernel_rfl
theorem t41_ok : compF Go.Proofs.Try.prog (nat_lit 41) = some t41 := by kernel_rfl
theorem t42_ok : compF Go.Proofs.Try.prog (nat_lit 42) = some t42 := by kernel_rfl
theorem t43_ok : compF Go.Proofs.Try.prog (nat_lit 43) = some t43 := by kernel_rfl
theorem t44_ok : compF Go.Proofs.Try.prog (nat_lit 44) = some t44 := by kernel_rfl
theorem t45_ok : compF Go.Proofs.Try.prog (nat_lit 45) = some t45 := by kernel_rfl
theorem t46_ok : compF Go.Proofs.Try.prog (nat_lit 46) = some t46 := by kernel_rfl
theorem t47_ok : compF Go.Proofs.Try.prog (nat_lit 47) = some t47 := by kernel_rfl
theorem t54_ok : compF Go.Proofs.Try.prog (nat_lit 54) = some t54 := by kernel_rfl
theorem t55_ok : compF Go.Proofs.Try.prog (nat_lit 55) = some t55 := by kernel_rfl
theorem t56_ok : compF Go.Proofs.Try.prog (nat_lit 56) = some t56 := by kernel_rfl
theorem t57_ok : compF Go.Proofs.Try.prog (nat_lit 57) = some t57 := by kernel_rfl
theorem t58_ok : compF Go.Proofs.Try.prog (nat_lit 58) = some t58 := by kernel_rfl
theorem t59_ok : compF Go.Proofs.Try.prog (nat_lit 59) = some t59 := by kernel_rfl
theorem t60_ok : compF Go.Proofs.Try.prog (nat_lit 60) = some t60 := by kernel_rfl
theorem t61_ok : compF Go.Proofs.Try.prog (nat_lit 61) = some t61 := by kernel_rfl
theorem t62_ok : compF Go.Proofs.Try.prog (nat_lit 62) = some t62 := by kernel_rfl
theorem all_ok : AllC Go.Proofs.Try.prog tabL := (.cons t5_ok rfl (.cons t7_ok rfl (.cons t9_ok rfl (.cons t11_ok rfl (.cons t16_ok rfl (.cons t17_ok rfl (.cons t18_ok rfl (.cons t19_ok rfl (.cons t20_ok rfl (.cons t21_ok rfl (.cons t22_ok rfl (.cons t23_ok rfl (.cons t24_ok rfl (.cons t26_ok rfl (.cons t28_ok rfl (.cons t29_ok rfl (.cons t30_ok rfl (.cons t31_ok rfl (.cons t36_ok rfl (.cons t37_ok rfl (.cons t38_ok rfl (.cons t39_ok rfl (.cons t40_ok rfl (.cons t41_ok rfl (.cons t42_ok rfl (.cons t43_ok rfl (.cons t44_ok rfl (.cons t45_ok rfl (.cons t46_ok rfl (.cons t47_ok rfl (.cons t54_ok rfl (.cons t55_ok rfl (.cons t56_ok rfl (.cons t57_ok rfl (.cons t58_ok rfl (.cons t59_ok rfl (.cons t60_ok rfl (.cons t61_ok rfl (.cons t62_ok rfl .nil)))))))))))))))))))))))))))))))))))))))
theorem tab_eq : tab = layT tabL := by kernel_rfl
theorem tab_ok : TabOK Go.Proofs.Try.prog tab := tabOK all_ok tab_eq
end Go.Sim
namespace Go.Sim
set_option linter.all false
open Go
set_option maxRecDepth 1000000
variable [Rho] [Asm] [SymOK]
open Go.Proofs Go.RowKit
noncomputable section
def vi0 : Value := (.int .i64 (.ofNat (nat_lit 0)))
def vi1 : Value := (.int .i64 (.ofNat (nat_lit 1)))
def vi10 : Value := (.int .i64 (.ofNat (nat_lit 10)))
def vi13 : Value := (.int .i64 (.ofNat (nat_lit 13)))
def vi2 : Value := (.int .i64 (.ofNat (nat_lit 2)))
def vi20 : Value := (.int .i64 (.ofNat (nat_lit 20)))
def vi24 : Value := (.int .i64 (.ofNat (nat_lit 24)))
def vi26 : Value := (.int .i64 (.ofNat (nat_lit 26)))
def vi28 : Value := (.int .i64 (.ofNat (nat_lit 28)))
def vi29 : Value := (.int .i64 (.ofNat (nat_lit 29)))
def vi3 : Value := (.int .i64 (.ofNat (nat_lit 3)))
def vi30 : Value := (.int .i64 (.ofNat (nat_lit 30)))
def vi31 : Value := (.int .i64 (.ofNat (nat_lit 31)))
def vi32 : Value := (.int .i64 (.ofNat (nat_lit 32)))
def vi37 : Value := (.int .i64 (.ofNat (nat_lit 37)))
def vi38 : Value := (.int .i64 (.ofNat (nat_lit 38)))
def vi39 : Value := (.int .i64 (.ofNat (nat_lit 39)))
def vi4 : Value := (.int .i64 (.ofNat (nat_lit 4)))
def vi40 : Value := (.int .i64 (.ofNat (nat_lit 40)))
def vi41 : Value := (.int .i64 (.ofNat (nat_lit 41)))
def vi5 : Value := (.int .i64 (.ofNat (nat_lit 5)))
def vi6 : Value := (.int .i64 (.ofNat (nat_lit 6)))
def vi7 : Value := (.int .i64 (.ofNat (nat_lit 7)))
def vi8 : Value := (.int .i64 (.ofNat (nat_lit 8)))
def vi9 : Value := (.int .i64 (.ofNat (nat_lit 9)))
def vm1 : Value := (.int .i64 (.negSucc (nat_lit 1)))
def vm10 : Value := (.int .i64 (.negSucc (nat_lit 10)))
def vm11 : Value := (.int .i64 (.negSucc (nat_lit 11)))
def vm12 : Value := (.int .i64 (.negSucc (nat_lit 12)))
def vm13 : Value := (.int .i64 (.negSucc (nat_lit 13)))
def vm14 : Value := (.int .i64 (.negSucc (nat_lit 14)))
def vm15 : Value := (.int .i64 (.negSucc (nat_lit 15)))
def vm16 : Value := (.int .i64 (.negSucc (nat_lit 16)))
def vm17 : Value := (.int .i64 (.negSucc (nat_lit 17)))
def vm18 : Value := (.int .i64 (.negSucc (nat_lit 18)))
def vm19 : Value := (.int .i64 (.negSucc (nat_lit 19)))
def vm2 : Value := (.int .i64 (.negSucc (nat_lit 2)))
def vm20 : Value := (.int .i64 (.negSucc (nat_lit 20)))
def vm3 : Value := (.int .i64 (.negSucc (nat_lit 3)))
def vm4 : Value := (.int .i64 (.negSucc (nat_lit 4)))
def vm5 : Value := (.int .i64 (.negSucc (nat_lit 5)))
def vm6 : Value := (.int .i64 (.negSucc (nat_lit 6)))
def vm7 : Value := (.int .i64 (.negSucc (nat_lit 7)))
def vm8 : Value := (.int .i64 (.negSucc (nat_lit 8)))
def vm9 : Value := (.int .i64 (.negSucc (nat_lit 9)))
theorem mixed : Go.Proofs.Try.prog.follows .mixedOrders = true := by kernel_rfl
end

end Go.Sim
namespace Go.Sim
set_option linter.all false
open Go
set_option maxRecDepth 1000000
variable [Rho] [Asm] [SymOK]
noncomputable section
def kb1_lg : List (Nat × List Gen) := []
def kb1_lc : List (Nat × List Chg) := []
def kb1 : Kb := { w := .e, g := .e, c := .e }
theorem kb1_ok : KbOK Go.Proofs.Try.prog kb1 := kbOK (lw := []) (lg := kb1_lg) (lc := kb1_lc) .nil .nil .nil (by kernel_rfl) (by kernel_rfl) (by kernel_rfl)
end

end Go.Sim
