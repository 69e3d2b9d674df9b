import Derived.Test.YtkimdnckbdeekaaTabA
namespace Go.Sim
open Go
set_option maxRecDepth 1000000
set_option linter.all false
variable [Rho] [Asm] [SymOK]
theorem t4_ok : compF Go.Proofs.Try.prog (nat_lit 4) = some t4 := by kernel_rfl
theorem t6_ok : compF Go.Proofs.Try.prog (nat_lit 6) = some t6 := by kernel_rfl
theorem t7_ok : compF Go.Proofs.Try.prog (nat_lit 7) = some t7 := by kernel_rfl
theorem t11_ok : compF Go.Proofs.Try.prog (nat_lit 11) = some t11 := by kernel_rfl
theorem t12_ok : compF Go.Proofs.Try.prog (nat_lit 12) = some t12 := by kernel_rfl
theorem t15_ok : compF Go.Proofs.Try.prog (nat_lit 15) = some t15 := by kernel_rfl
theorem t16_ok : compF Go.Proofs.Try.prog (nat_lit 16) = some t16 := by kernel_rfl
theorem t17_ok : compF Go.Proofs.Try.prog (nat_lit 17) = some t17 := by kernel_rfl
theorem t18_ok : compF Go.Proofs.Try.prog (nat_lit 18) = some t18 := by kernel_rfl
theorem t19_ok : compF Go.Proofs.Try.prog (nat_lit 19) = some t19 := by kernel_rfl
theorem t20_ok : compF Go.Proofs.Try.prog (nat_lit 20) = some t20 := by kernel_rfl
theorem t22_ok : compF Go.Proofs.Try.prog (nat_lit 22) = some t22 := by kernel_rfl
theorem t23_ok : compF Go.Proofs.Try.prog (nat_lit 23) = some t23 := by kernel_rfl
theorem t24_ok : compF Go.Proofs.Try.prog (nat_lit 24) = some t24 := by kernel_rfl
theorem t25_ok : compF Go.Proofs.Try.prog (nat_lit 25) = some t25 := by kernel_rfl
theorem t26_ok : compF Go.Proofs.Try.prog (nat_lit 26) = some t26 := by kernel_rfl
theorem t27_ok : compF Go.Proofs.Try.prog (nat_lit 27) = some t27 := by kernel_rfl
theorem t28_ok : compF Go.Proofs.Try.prog (nat_lit 28) = some t28 := by kernel_rfl
theorem t29_ok : compF Go.Proofs.Try.prog (nat_lit 29) = some t29 := by kernel_rfl
theorem t31_ok : compF Go.Proofs.Try.prog (nat_lit 31) = some t31 := by kernel_rfl
theorem t32_ok : compF Go.Proofs.Try.prog (nat_lit 32) = some t32 := by kernel_rfl
theorem t33_ok : compF Go.Proofs.Try.prog (nat_lit 33) = some t33 := by kernel_rfl
theorem t34_ok : compF Go.Proofs.Try.prog (nat_lit 34) = some t34 := by kernel_rfl
theorem t35_ok : compF Go.Proofs.Try.prog (nat_lit 35) = some t35 := by kernel_rfl
theorem t36_ok : compF Go.Proofs.Try.prog (nat_lit 36) = some t36 := by kernel_rfl
theorem t37_ok : compF Go.Proofs.Try.prog (nat_lit 37) = some t37 := by kernel_rfl
theorem t38_ok : compF Go.Proofs.Try.prog (nat_lit 38) = some t38 := by kernel_rfl
theorem t39_ok : compF Go.Proofs.Try.prog (nat_lit 39) = some t39 := by kernel_rfl
theorem t40_ok : compF Go.Proofs.Try.prog (nat_lit 40) = some t40 := by kernel_rfl
theorem t41_ok : compF Go.Proofs.Try.prog (nat_lit 41) = some t41 := by kernel_rfl
theorem t42_ok : compF Go.Proofs.Try.prog (nat_lit 42) = some t42 := by kernel_rfl
theorem t43_ok : compF Go.Proofs.Try.prog (nat_lit 43) = some t43 := by kernel_rfl
theorem t44_ok : compF Go.Proofs.Try.prog (nat_lit 44) = some t44 := by kernel_rfl
theorem t45_ok : compF Go.Proofs.Try.prog (nat_lit 45) = some t45 := by kernel_rfl
theorem t46_ok : compF Go.Proofs.Try.prog (nat_lit 46) = some t46 := by kernel_rfl
theorem t47_ok : compF Go.Proofs.Try.prog (nat_lit 47) = some t47 := by kernel_rfl
theorem t48_ok : compF Go.Proofs.Try.prog (nat_lit 48) = some t48 := by kernel_rfl
theorem t49_ok : compF Go.Proofs.Try.prog (nat_lit 49) = some t49 := by kernel_rfl
theorem t50_ok : compF Go.Proofs.Try.prog (nat_lit 50) = some t50 := by kernel_rfl
theorem all_ok : AllC Go.Proofs.Try.prog tabL := (.cons t4_ok rfl (.cons t6_ok rfl (.cons t7_ok rfl (.cons t11_ok rfl (.cons t12_ok rfl (.cons t15_ok rfl (.cons t16_ok rfl (.cons t17_ok rfl (.cons t18_ok rfl (.cons t19_ok rfl (.cons t20_ok rfl (.cons t22_ok rfl (.cons t23_ok rfl (.cons t24_ok rfl (.cons t25_ok rfl (.cons t26_ok rfl (.cons t27_ok rfl (.cons t28_ok rfl (.cons t29_ok rfl (.cons t31_ok rfl (.cons t32_ok rfl (.cons t33_ok rfl (.cons t34_ok rfl (.cons t35_ok rfl (.cons t36_ok rfl (.cons t37_ok rfl (.cons t38_ok rfl (.cons t39_ok rfl (.cons t40_ok rfl (.cons t41_ok rfl (.cons t42_ok rfl (.cons t43_ok rfl (.cons t44_ok rfl (.cons t45_ok rfl (.cons t46_ok rfl (.cons t47_ok rfl (.cons t48_ok rfl (.cons t49_ok rfl (.cons t50_ok rfl .nil)))))))))))))))))))))))))))))))))))))))
theorem tab_eq : tab = layT tabL := by kernel_rfl
theorem tab_ok : TabOK Go.Proofs.Try.prog tab := tabOK all_ok tab_eq
end Go.Sim
