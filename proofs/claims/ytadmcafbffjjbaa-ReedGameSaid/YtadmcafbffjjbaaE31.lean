/- Part 31 of the proof: TabB, FactL, FactC. -/
import Derived.Test.YtadmcafbffjjbaaE30
import Derived.Test.YtadmcafbffjjbaaE29
namespace Go.Sim
set_option linter.all false
open Go
set_option maxRecDepth 1000000
variable [Rho] [Asm] [SymOK]
theorem t8_ok : compF Go.Proofs.Try.prog (nat_lit 8) = some t8 := by kernel_rfl
theorem t10_ok : compF Go.Proofs.Try.prog (nat_lit 10) = some t10 := by kernel_rfl
theorem t12_ok : compF Go.Proofs.Try.prog (nat_lit 12) = some t12 := by kernel_rfl
theorem t14_ok : compF Go.Proofs.Try.prog (nat_lit 14) = some t14 := by kernel_rfl
theorem t17_ok : compF Go.Proofs.Try.prog (nat_lit 17) = some t17 := by kernel_rfl
theorem t25_ok : compF Go.Proofs.Try.prog (nat_lit 25) = some t25 := by kernel_rfl
theorem t31_ok : compF Go.Proofs.Try.prog (nat_lit 31) = some t31 := by kernel_rfl
theorem t32_ok : compF Go.Proofs.Try.prog (nat_lit 32) = some t32 := by kernel_rfl
theorem t40_ok : compF Go.Proofs.Try.prog (nat_lit 40) = some t40 := by kernel_rfl
theorem t41_ok : compF Go.Proofs.Try.prog (nat_lit 41) = some t41 := by kernel_rfl
theorem t42_ok : compF Go.Proofs.Try.prog (nat_lit 42) = some t42 := by kernel_rfl
theorem t43_ok : compF Go.Proofs.Try.prog (nat_lit 43) = some t43 := by kernel_rfl
theorem t44_ok : compF Go.Proofs.Try.prog (nat_lit 44) = some t44 := by kernel_rfl
theorem t45_ok : compF Go.Proofs.Try.prog (nat_lit 45) = some t45 := by kernel_rfl
theorem t47_ok : compF Go.Proofs.Try.prog (nat_lit 47) = some t47 := by kernel_rfl
theorem t48_ok : compF Go.Proofs.Try.prog (nat_lit 48) = some t48 := by kernel_rfl
theorem t49_ok : compF Go.Proofs.Try.prog (nat_lit 49) = some t49 := by kernel_rfl
theorem t60_ok : compF Go.Proofs.Try.prog (nat_lit 60) = some t60 := by kernel_rfl
theorem t62_ok : compF Go.Proofs.Try.prog (nat_lit 62) = some t62 := by kernel_rfl
theorem t63_ok : compF Go.Proofs.Try.prog (nat_lit 63) = some t63 := by kernel_rfl
theorem t64_ok : compF Go.Proofs.Try.prog (nat_lit 64) = some t64 := by kernel_rfl
theorem t65_ok : compF Go.Proofs.Try.prog (nat_lit 65) = some t65 := by kernel_rfl
theorem t66_ok : compF Go.Proofs.Try.prog (nat_lit 66) = some t66 := by kernel_rfl
theorem t68_ok : compF Go.Proofs.Try.prog (nat_lit 68) = some t68 := by kernel_rfl
theorem t72_ok : compF Go.Proofs.Try.prog (nat_lit 72) = some t72 := by kernel_rfl
theorem t73_ok : compF Go.Proofs.Try.prog (nat_lit 73) = some t73 := by kernel_rfl
theorem t74_ok : compF Go.Proofs.Try.prog (nat_lit 74) = some t74 := by kernel_rfl
theorem t75_ok : compF Go.Proofs.Try.prog (nat_lit 75) = some t75 := by kernel_rfl
theorem t76_ok : compF Go.Proofs.Try.prog (nat_lit 76) = some t76 := by kernel_rfl
theorem t77_ok : compF Go.Proofs.Try.prog (nat_lit 77) = some t77 := by kernel_rfl
theorem t78_ok : compF Go.Proofs.Try.prog (nat_lit 78) = some t78 := by kernel_rfl
theorem t79_ok : compF Go.Proofs.Try.prog (nat_lit 79) = some t79 := by kernel_rfl
theorem t85_ok : compF Go.Proofs.Try.prog (nat_lit 85) = some t85 := by kernel_rfl
theorem t86_ok : compF Go.Proofs.Try.prog (nat_lit 86) = some t86 := by kernel_rfl
theorem t87_ok : compF Go.Proofs.Try.prog (nat_lit 87) = some t87 := by kernel_rfl
theorem t88_ok : compF Go.Proofs.Try.prog (nat_lit 88) = some t88 := by kernel_rfl
theorem t89_ok : compF Go.Proofs.Try.prog (nat_lit 89) = some t89 := by kernel_rfl
theorem t90_ok : compF Go.Proofs.Try.prog (nat_lit 90) = some t90 := by kernel_rfl
theorem t93_ok : compF Go.Proofs.Try.prog (nat_lit 93) = some t93 := by kernel_rfl
theorem all_ok : AllC Go.Proofs.Try.prog tabL := (.cons t8_ok rfl (.cons t10_ok rfl (.cons t12_ok rfl (.cons t14_ok rfl (.cons t17_ok rfl (.cons t25_ok rfl (.cons t31_ok rfl (.cons t32_ok rfl (.cons t40_ok rfl (.cons t41_ok rfl (.cons t42_ok rfl (.cons t43_ok rfl (.cons t44_ok rfl (.cons t45_ok rfl (.cons t47_ok rfl (.cons t48_ok rfl (.cons t49_ok rfl (.cons t60_ok rfl (.cons t62_ok rfl (.cons t63_ok rfl (.cons t64_ok rfl (.cons t65_ok rfl (.cons t66_ok rfl (.cons t68_ok rfl (.cons t72_ok rfl (.cons t73_ok rfl (.cons t74_ok rfl (.cons t75_ok rfl (.cons t76_ok rfl (.cons t77_ok rfl (.cons t78_ok rfl (.cons t79_ok rfl (.cons t85_ok rfl (.cons t86_ok rfl (.cons t87_ok rfl (.cons t88_ok rfl (.cons t89_ok rfl (.cons t90_ok rfl (.cons t93_ok rfl .nil)))))))))))))))))))))))))))))))))))))))
theorem tab_eq : tab = layT tabL := by kernel_rfl
theorem tab_ok : TabOK Go.Proofs.Try.prog tab := tabOK all_ok tab_eq
end Go.Sim
namespace Go.Sim
set_option linter.all false
open Go
set_option maxRecDepth 1000000
variable [Rho] [Asm] [SymOK]
open Go.Proofs Go.RowKit
noncomputable section
def vi0 : Value := (.int .i64 (.ofNat (nat_lit 0)))
def vi1 : Value := (.int .i64 (.ofNat (nat_lit 1)))
def vi10 : Value := (.int .i64 (.ofNat (nat_lit 10)))
def vi13 : Value := (.int .i64 (.ofNat (nat_lit 13)))
def vi2 : Value := (.int .i64 (.ofNat (nat_lit 2)))
def vi20 : Value := (.int .i64 (.ofNat (nat_lit 20)))
def vi24 : Value := (.int .i64 (.ofNat (nat_lit 24)))
def vi26 : Value := (.int .i64 (.ofNat (nat_lit 26)))
def vi28 : Value := (.int .i64 (.ofNat (nat_lit 28)))
def vi29 : Value := (.int .i64 (.ofNat (nat_lit 29)))
def vi3 : Value := (.int .i64 (.ofNat (nat_lit 3)))
def vi30 : Value := (.int .i64 (.ofNat (nat_lit 30)))
def vi31 : Value := (.int .i64 (.ofNat (nat_lit 31)))
def vi32 : Value := (.int .i64 (.ofNat (nat_lit 32)))
def vi37 : Value := (.int .i64 (.ofNat (nat_lit 37)))
def vi38 : Value := (.int .i64 (.ofNat (nat_lit 38)))
def vi39 : Value := (.int .i64 (.ofNat (nat_lit 39)))
def vi4 : Value := (.int .i64 (.ofNat (nat_lit 4)))
def vi40 : Value := (.int .i64 (.ofNat (nat_lit 40)))
def vi41 : Value := (.int .i64 (.ofNat (nat_lit 41)))
def vi5 : Value := (.int .i64 (.ofNat (nat_lit 5)))
def vi6 : Value := (.int .i64 (.ofNat (nat_lit 6)))
def vi7 : Value := (.int .i64 (.ofNat (nat_lit 7)))
def vi8 : Value := (.int .i64 (.ofNat (nat_lit 8)))
def vi9 : Value := (.int .i64 (.ofNat (nat_lit 9)))
def vm1 : Value := (.int .i64 (.negSucc (nat_lit 1)))
def vm10 : Value := (.int .i64 (.negSucc (nat_lit 10)))
def vm11 : Value := (.int .i64 (.negSucc (nat_lit 11)))
def vm12 : Value := (.int .i64 (.negSucc (nat_lit 12)))
def vm13 : Value := (.int .i64 (.negSucc (nat_lit 13)))
def vm14 : Value := (.int .i64 (.negSucc (nat_lit 14)))
def vm15 : Value := (.int .i64 (.negSucc (nat_lit 15)))
def vm16 : Value := (.int .i64 (.negSucc (nat_lit 16)))
def vm17 : Value := (.int .i64 (.negSucc (nat_lit 17)))
def vm18 : Value := (.int .i64 (.negSucc (nat_lit 18)))
def vm19 : Value := (.int .i64 (.negSucc (nat_lit 19)))
def vm2 : Value := (.int .i64 (.negSucc (nat_lit 2)))
def vm20 : Value := (.int .i64 (.negSucc (nat_lit 20)))
def vm3 : Value := (.int .i64 (.negSucc (nat_lit 3)))
def vm4 : Value := (.int .i64 (.negSucc (nat_lit 4)))
def vm5 : Value := (.int .i64 (.negSucc (nat_lit 5)))
def vm6 : Value := (.int .i64 (.negSucc (nat_lit 6)))
def vm7 : Value := (.int .i64 (.negSucc (nat_lit 7)))
def vm8 : Value := (.int .i64 (.negSucc (nat_lit 8)))
def vm9 : Value := (.int .i64 (.negSucc (nat_lit 9)))
theorem mixed : Go.Proofs.Try.prog.follows .mixedOrders = true := by kernel_rfl
end

end Go.Sim
namespace Go.Sim
set_option linter.all false
open Go
set_option maxRecDepth 1000000
variable [Rho] [Asm] [SymOK]
noncomputable section
def kb1_lg : List (Nat × List Gen) := []
def kb1_lc : List (Nat × List Chg) := []
def kb1 : Kb := { w := .e,g := .e,c := .e }
theorem kb1_ok : KbOK Go.Proofs.Try.prog kb1 := kbOK (lw := []) (lg := kb1_lg) (lc := kb1_lc) .nil .nil .nil (by kernel_rfl) (by kernel_rfl) (by kernel_rfl)
end

end Go.Sim
