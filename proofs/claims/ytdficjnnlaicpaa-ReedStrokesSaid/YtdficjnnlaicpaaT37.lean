/- Part 37 of the proof: TabB, FactL, JobK, JobR0, JobR1, JobR2. -/
import Derived.Test.YtdficjnnlaicpaaT36
import Derived.Test.YtdficjnnlaicpaaT09
import Derived.Test.YtdficjnnlaicpaaT13
namespace Go.Sim
set_option linter.all false
open Go
set_option maxRecDepth 1000000
variable [Rho] [Asm] [SymOK]
theorem t5_ok : compF Go.Proofs.Try.prog (nat_lit 5) = some t5 := by kernel_rfl
theorem t7_ok : compF Go.Proofs.Try.prog (nat_lit 7) = some t7 := by kernel_rfl
theorem t9_ok : compF Go.Proofs.Try.prog (nat_lit 9) = some t9 := by kernel_rfl
theorem t10_ok : compF Go.Proofs.Try.prog (nat_lit 10) = some t10 := by kernel_rfl
theorem t16_ok : compF Go.Proofs.Try.prog (nat_lit 16) = some t16 := by kernel_rfl
theorem t22_ok : compF Go.Proofs.Try.prog (nat_lit 22) = some t22 := by kernel_rfl
theorem t30_ok : compF Go.Proofs.Try.prog (nat_lit 30) = some t30 := by kernel_rfl
theorem t31_ok : compF Go.Proofs.Try.prog (nat_lit 31) = some t31 := by kernel_rfl
theorem t32_ok : compF Go.Proofs.Try.prog (nat_lit 32) = some t32 := by kernel_rfl
theorem t33_ok : compF Go.Proofs.Try.prog (nat_lit 33) = some t33 := by kernel_rfl
theorem t34_ok : compF Go.Proofs.Try.prog (nat_lit 34) = some t34 := by kernel_rfl
theorem t35_ok : compF Go.Proofs.Try.prog (nat_lit 35) = some t35 := by kernel_rfl
theorem t36_ok : compF Go.Proofs.Try.prog (nat_lit 36) = some t36 := by kernel_rfl
theorem t37_ok : compF Go.Proofs.Try.prog (nat_lit 37) = some t37 := by kernel_rfl
theorem t40_ok : compF Go.Proofs.Try.prog (nat_lit 40) = some t40 := by kernel_rfl
theorem t42_ok : compF Go.Proofs.Try.prog (nat_lit 42) = some t42 := by kernel_rfl
theorem t43_ok : compF Go.Proofs.Try.prog (nat_lit 43) = some t43 := by kernel_rfl
theorem t45_ok : compF Go.Proofs.Try.prog (nat_lit 45) = some t45 := by kernel_rfl
theorem t47_ok : compF Go.Proofs.Try.prog (nat_lit 47) = some t47 := by kernel_rfl
theorem t50_ok : compF Go.Proofs.Try.prog (nat_lit 50) = some t50 := by kernel_rfl
theorem t51_ok : compF Go.Proofs.Try.prog (nat_lit 51) = some t51 := by kernel_rfl
theorem t52_ok : compF Go.Proofs.Try.prog (nat_lit 52) = some t52 := by kernel_rfl
theorem t56_ok : compF Go.Proofs.Try.prog (nat_lit 56) = some t56 := by kernel_rfl
theorem t61_ok : compF Go.Proofs.Try.prog (nat_lit 61) = some t61 := by kernel_rfl
theorem t63_ok : compF Go.Proofs.Try.prog (nat_lit 63) = some t63 := by kernel_rfl
theorem t65_ok : compF Go.Proofs.Try.prog (nat_lit 65) = some t65 := by kernel_rfl
theorem t66_ok : compF Go.Proofs.Try.prog (nat_lit 66) = some t66 := by kernel_rfl
theorem t67_ok : compF Go.Proofs.Try.prog (nat_lit 67) = some t67 := by kernel_rfl
theorem t68_ok : compF Go.Proofs.Try.prog (nat_lit 68) = some t68 := by kernel_rfl
theorem t70_ok : compF Go.Proofs.Try.prog (nat_lit 70) = some t70 := by kernel_rfl
theorem t71_ok : compF Go.Proofs.Try.prog (nat_lit 71) = some t71 := by kernel_rfl
theorem t72_ok : compF Go.Proofs.Try.prog (nat_lit 72) = some t72 := by kernel_rfl
theorem t74_ok : compF Go.Proofs.Try.prog (nat_lit 74) = some t74 := by kernel_rfl
theorem t76_ok : compF Go.Proofs.Try.prog (nat_lit 76) = some t76 := by kernel_rfl
theorem t77_ok : compF Go.Proofs.Try.prog (nat_lit 77) = some t77 := by kernel_rfl
theorem t78_ok : compF Go.Proofs.Try.prog (nat_lit 78) = some t78 := by kernel_rfl
theorem t79_ok : compF Go.Proofs.Try.prog (nat_lit 79) = some t79 := by kernel_rfl
theorem t80_ok : compF Go.Proofs.Try.prog (nat_lit 80) = some t80 := by kernel_rfl
theorem t81_ok : compF Go.Proofs.Try.prog (nat_lit 81) = some t81 := by kernel_rfl
theorem all_ok : AllC Go.Proofs.Try.prog tabL := (.cons t5_ok rfl (.cons t7_ok rfl (.cons t9_ok rfl (.cons t10_ok rfl (.cons t16_ok rfl (.cons t22_ok rfl (.cons t30_ok rfl (.cons t31_ok rfl (.cons t32_ok rfl (.cons t33_ok rfl (.cons t34_ok rfl (.cons t35_ok rfl (.cons t36_ok rfl (.cons t37_ok rfl (.cons t40_ok rfl (.cons t42_ok rfl (.cons t43_ok rfl (.cons t45_ok rfl (.cons t47_ok rfl (.cons t50_ok rfl (.cons t51_ok rfl (.cons t52_ok rfl (.cons t56_ok rfl (.cons t61_ok rfl (.cons t63_ok rfl (.cons t65_ok rfl (.cons t66_ok rfl (.cons t67_ok rfl (.cons t68_ok rfl (.cons t70_ok rfl (.cons t71_ok rfl (.cons t72_ok rfl (.cons t74_ok rfl (.cons t76_ok rfl (.cons t77_ok rfl (.cons t78_ok rfl (.cons t79_ok rfl (.cons t80_ok rfl (.cons t81_ok rfl .nil)))))))))))))))))))))))))))))))))))))))
theorem tab_eq : tab = layT tabL := by kernel_rfl
theorem tab_ok : TabOK Go.Proofs.Try.prog tab := tabOK all_ok tab_eq
end Go.Sim
namespace Go.Sim
set_option linter.all false
open Go
set_option maxRecDepth 1000000
variable [Rho] [Asm] [SymOK]
open Go.Proofs Go.RowKit
noncomputable section
def vi0 : Value := (.int .i64 (.ofNat (nat_lit 0)))
def vi1 : Value := (.int .i64 (.ofNat (nat_lit 1)))
def vi10 : Value := (.int .i64 (.ofNat (nat_lit 10)))
def vi13 : Value := (.int .i64 (.ofNat (nat_lit 13)))
def vi2 : Value := (.int .i64 (.ofNat (nat_lit 2)))
def vi20 : Value := (.int .i64 (.ofNat (nat_lit 20)))
def vi24 : Value := (.int .i64 (.ofNat (nat_lit 24)))
def vi26 : Value := (.int .i64 (.ofNat (nat_lit 26)))
def vi28 : Value := (.int .i64 (.ofNat (nat_lit 28)))
def vi29 : Value := (.int .i64 (.ofNat (nat_lit 29)))
def vi3 : Value := (.int .i64 (.ofNat (nat_lit 3)))
def vi30 : Value := (.int .i64 (.ofNat (nat_lit 30)))
def vi31 : Value := (.int .i64 (.ofNat (nat_lit 31)))
def vi32 : Value := (.int .i64 (.ofNat (nat_lit 32)))
def vi37 : Value := (.int .i64 (.ofNat (nat_lit 37)))
def vi38 : Value := (.int .i64 (.ofNat (nat_lit 38)))
def vi39 : Value := (.int .i64 (.ofNat (nat_lit 39)))
def vi4 : Value := (.int .i64 (.ofNat (nat_lit 4)))
def vi40 : Value := (.int .i64 (.ofNat (nat_lit 40)))
def vi41 : Value := (.int .i64 (.ofNat (nat_lit 41)))
def vi5 : Value := (.int .i64 (.ofNat (nat_lit 5)))
def vi6 : Value := (.int .i64 (.ofNat (nat_lit 6)))
def vi7 : Value := (.int .i64 (.ofNat (nat_lit 7)))
def vi8 : Value := (.int .i64 (.ofNat (nat_lit 8)))
def vi9 : Value := (.int .i64 (.ofNat (nat_lit 9)))
def vm1 : Value := (.int .i64 (.negSucc (nat_lit 1)))
def vm10 : Value := (.int .i64 (.negSucc (nat_lit 10)))
def vm11 : Value := (.int .i64 (.negSucc (nat_lit 11)))
def vm12 : Value := (.int .i64 (.negSucc (nat_lit 12)))
def vm13 : Value := (.int .i64 (.negSucc (nat_lit 13)))
def vm14 : Value := (.int .i64 (.negSucc (nat_lit 14)))
def vm15 : Value := (.int .i64 (.negSucc (nat_lit 15)))
def vm16 : Value := (.int .i64 (.negSucc (nat_lit 16)))
def vm17 : Value := (.int .i64 (.negSucc (nat_lit 17)))
def vm18 : Value := (.int .i64 (.negSucc (nat_lit 18)))
def vm19 : Value := (.int .i64 (.negSucc (nat_lit 19)))
def vm2 : Value := (.int .i64 (.negSucc (nat_lit 2)))
def vm20 : Value := (.int .i64 (.negSucc (nat_lit 20)))
def vm3 : Value := (.int .i64 (.negSucc (nat_lit 3)))
def vm4 : Value := (.int .i64 (.negSucc (nat_lit 4)))
def vm5 : Value := (.int .i64 (.negSucc (nat_lit 5)))
def vm6 : Value := (.int .i64 (.negSucc (nat_lit 6)))
def vm7 : Value := (.int .i64 (.negSucc (nat_lit 7)))
def vm8 : Value := (.int .i64 (.negSucc (nat_lit 8)))
def vm9 : Value := (.int .i64 (.negSucc (nat_lit 9)))
def vi100 : Value := (.int .i64 (.ofNat (nat_lit 100)))
def vi101 : Value := (.int .i64 (.ofNat (nat_lit 101)))
def vi102 : Value := (.int .i64 (.ofNat (nat_lit 102)))
def vi103 : Value := (.int .i64 (.ofNat (nat_lit 103)))
def vi105 : Value := (.int .i64 (.ofNat (nat_lit 105)))
def vi107 : Value := (.int .i64 (.ofNat (nat_lit 107)))
def vi108 : Value := (.int .i64 (.ofNat (nat_lit 108)))
def vi110 : Value := (.int .i64 (.ofNat (nat_lit 110)))
def vi112 : Value := (.int .i64 (.ofNat (nat_lit 112)))
def vi113 : Value := (.int .i64 (.ofNat (nat_lit 113)))
def vi115 : Value := (.int .i64 (.ofNat (nat_lit 115)))
def vi117 : Value := (.int .i64 (.ofNat (nat_lit 117)))
def vi118 : Value := (.int .i64 (.ofNat (nat_lit 118)))
def vi12 : Value := (.int .i64 (.ofNat (nat_lit 12)))
def vi120 : Value := (.int .i64 (.ofNat (nat_lit 120)))
def vi122 : Value := (.int .i64 (.ofNat (nat_lit 122)))
def vi123 : Value := (.int .i64 (.ofNat (nat_lit 123)))
def vi125 : Value := (.int .i64 (.ofNat (nat_lit 125)))
def vi127 : Value := (.int .i64 (.ofNat (nat_lit 127)))
def vi128 : Value := (.int .i64 (.ofNat (nat_lit 128)))
def vi130 : Value := (.int .i64 (.ofNat (nat_lit 130)))
def vi132 : Value := (.int .i64 (.ofNat (nat_lit 132)))
def vi133 : Value := (.int .i64 (.ofNat (nat_lit 133)))
def vi135 : Value := (.int .i64 (.ofNat (nat_lit 135)))
def vi137 : Value := (.int .i64 (.ofNat (nat_lit 137)))
def vi138 : Value := (.int .i64 (.ofNat (nat_lit 138)))
def vi139 : Value := (.int .i64 (.ofNat (nat_lit 139)))
def vi140 : Value := (.int .i64 (.ofNat (nat_lit 140)))
def vi142 : Value := (.int .i64 (.ofNat (nat_lit 142)))
def vi144 : Value := (.int .i64 (.ofNat (nat_lit 144)))
def vi145 : Value := (.int .i64 (.ofNat (nat_lit 145)))
def vi147 : Value := (.int .i64 (.ofNat (nat_lit 147)))
def vi149 : Value := (.int .i64 (.ofNat (nat_lit 149)))
def vi150 : Value := (.int .i64 (.ofNat (nat_lit 150)))
def vi152 : Value := (.int .i64 (.ofNat (nat_lit 152)))
def vi154 : Value := (.int .i64 (.ofNat (nat_lit 154)))
def vi60 : Value := (.int .i64 (.ofNat (nat_lit 60)))
def vm59 : Value := (.int .i64 (.negSucc (nat_lit 59)))
def yy100 : Value := .func (.yield (nat_lit 0)) ⟨[vi100]⟩ ⟨[]⟩
def yy101 : Value := .func (.yield (nat_lit 0)) ⟨[vi101]⟩ ⟨[]⟩
def yy102 : Value := .func (.yield (nat_lit 0)) ⟨[vi102]⟩ ⟨[]⟩
def yy103 : Value := .func (.yield (nat_lit 0)) ⟨[vi103]⟩ ⟨[]⟩
def yy105 : Value := .func (.yield (nat_lit 0)) ⟨[vi105]⟩ ⟨[]⟩
def yy107 : Value := .func (.yield (nat_lit 0)) ⟨[vi107]⟩ ⟨[]⟩
def yy108 : Value := .func (.yield (nat_lit 0)) ⟨[vi108]⟩ ⟨[]⟩
def yy110 : Value := .func (.yield (nat_lit 0)) ⟨[vi110]⟩ ⟨[]⟩
def yy112 : Value := .func (.yield (nat_lit 0)) ⟨[vi112]⟩ ⟨[]⟩
def yy113 : Value := .func (.yield (nat_lit 0)) ⟨[vi113]⟩ ⟨[]⟩
def yy115 : Value := .func (.yield (nat_lit 0)) ⟨[vi115]⟩ ⟨[]⟩
def yy117 : Value := .func (.yield (nat_lit 0)) ⟨[vi117]⟩ ⟨[]⟩
def yy118 : Value := .func (.yield (nat_lit 0)) ⟨[vi118]⟩ ⟨[]⟩
def yy120 : Value := .func (.yield (nat_lit 0)) ⟨[vi120]⟩ ⟨[]⟩
def yy122 : Value := .func (.yield (nat_lit 0)) ⟨[vi122]⟩ ⟨[]⟩
def yy123 : Value := .func (.yield (nat_lit 0)) ⟨[vi123]⟩ ⟨[]⟩
def yy125 : Value := .func (.yield (nat_lit 0)) ⟨[vi125]⟩ ⟨[]⟩
def yy127 : Value := .func (.yield (nat_lit 0)) ⟨[vi127]⟩ ⟨[]⟩
def yy128 : Value := .func (.yield (nat_lit 0)) ⟨[vi128]⟩ ⟨[]⟩
def yy130 : Value := .func (.yield (nat_lit 0)) ⟨[vi130]⟩ ⟨[]⟩
def yy132 : Value := .func (.yield (nat_lit 0)) ⟨[vi132]⟩ ⟨[]⟩
def yy133 : Value := .func (.yield (nat_lit 0)) ⟨[vi133]⟩ ⟨[]⟩
def yy135 : Value := .func (.yield (nat_lit 0)) ⟨[vi135]⟩ ⟨[]⟩
def yy137 : Value := .func (.yield (nat_lit 0)) ⟨[vi137]⟩ ⟨[]⟩
def yy138 : Value := .func (.yield (nat_lit 0)) ⟨[vi138]⟩ ⟨[]⟩
def yy139 : Value := .func (.yield (nat_lit 0)) ⟨[vi139]⟩ ⟨[]⟩
def yy140 : Value := .func (.yield (nat_lit 0)) ⟨[vi140]⟩ ⟨[]⟩
def yy142 : Value := .func (.yield (nat_lit 0)) ⟨[vi142]⟩ ⟨[]⟩
def yy144 : Value := .func (.yield (nat_lit 0)) ⟨[vi144]⟩ ⟨[]⟩
def yy145 : Value := .func (.yield (nat_lit 0)) ⟨[vi145]⟩ ⟨[]⟩
def yy147 : Value := .func (.yield (nat_lit 0)) ⟨[vi147]⟩ ⟨[]⟩
def yy149 : Value := .func (.yield (nat_lit 0)) ⟨[vi149]⟩ ⟨[]⟩
def yy150 : Value := .func (.yield (nat_lit 0)) ⟨[vi150]⟩ ⟨[]⟩
def yy152 : Value := .func (.yield (nat_lit 0)) ⟨[vi152]⟩ ⟨[]⟩
def yy154 : Value := .func (.yield (nat_lit 0)) ⟨[vi154]⟩ ⟨[]⟩
theorem mixed : Go.Proofs.Try.prog.follows .mixedOrders = true := by kernel_rfl
end

end Go.Sim
/- Pots, as known calls, in a job. -/
namespace Go.Sim
set_option linter.all false
open Go Go.RowKit Go.Proofs Go.Proofs.Ytdficjnnlaicpaa
set_option maxRecDepth 1000000
noncomputable section
theorem upK {s : Int} {i r : Nat} {m : Int} [Asm] (hS : @SymOK (jobRho s) _) (hm : 1 ≤ m ∧ m ≤ 1000) (hi : @Rho.ρ (jobRho s) (i + 1) = stepS (@Rho.ρ (jobRho s) i)) (hr : @Rho.ρ (jobRho s) r = uptoF (@Rho.ρ (jobRho s) i) m) : @GWFact (jobRho s) Try.prog (uptoG (nat_lit 0) i (i + 1) r m) :=
  @gwUpto (jobRho s) _ hS _ _ _ _ _ (by kernel_rfl) hm.2 (by rw [hi]; unfold uptoS; rw [if_neg (by omega)]) hr
theorem ofK {s : Int} {i r q : Nat} {a b : Int} [Asm] (hS : @SymOK (jobRho s) _) (hi : @Rho.ρ (jobRho s) (i + 1) = stepS (@Rho.ρ (jobRho s) i)) (hr : @Rho.ρ (jobRho s) r = pick3 a b (@Rho.ρ (jobRho s) q) (uptoF (@Rho.ρ (jobRho s) i) 2)) : @GWFact (jobRho s) Try.prog (ofG (nat_lit 0) i (i + 1) r (.int .i64 a) (.int .i64 b) (sy .i64 q)) :=
  @gwOf (jobRho s) _ hS _ _ _ _ _ _ _ _ _ _ (by kernel_rfl) (@Den.lit (jobRho s) _ _) (@Den.lit (jobRho s) _ _) (@Den.sym (jobRho s) _ _) (by rw [hi]; unfold uptoS; rw [if_neg (by omega)]) hr (fun ι v' k n h u hv => @Den.only (jobRho s) _ hS ι v' u k n h hv)
def pf0 : GenW := uptoG (nat_lit 0) (nat_lit 0) (nat_lit 1) (nat_lit 100) (.ofNat (nat_lit 5))
theorem pf0_ok [Asm] {s : Int} (hS : @SymOK (jobRho s) _) : @GWFact (jobRho s) Try.prog pf0 := upK hS (by decide) rfl rfl
def pf1 : GenW := uptoG (nat_lit 0) (nat_lit 1) (nat_lit 2) (nat_lit 101) (.ofNat (nat_lit 3))
theorem pf1_ok [Asm] {s : Int} (hS : @SymOK (jobRho s) _) : @GWFact (jobRho s) Try.prog pf1 := upK hS (by decide) rfl rfl
def pf2 : GenW := ofG (nat_lit 0) (nat_lit 2) (nat_lit 3) (nat_lit 102) vi0 vi1 (sy .i64 (nat_lit 101))
theorem pf2_ok [Asm] {s : Int} (hS : @SymOK (jobRho s) _) : @GWFact (jobRho s) Try.prog pf2 := ofK hS rfl rfl
def pf3 : GenW := uptoG (nat_lit 0) (nat_lit 3) (nat_lit 4) (nat_lit 103) (.ofNat (nat_lit 32))
theorem pf3_ok [Asm] {s : Int} (hS : @SymOK (jobRho s) _) : @GWFact (jobRho s) Try.prog pf3 := upK hS (by decide) rfl rfl
def pf4 : GenW := uptoG (nat_lit 0) (nat_lit 4) (nat_lit 5) (nat_lit 104) (.ofNat (nat_lit 9))
theorem pf4_ok [Asm] {s : Int} (hS : @SymOK (jobRho s) _) : @GWFact (jobRho s) Try.prog pf4 := upK hS (by decide) rfl rfl
def pf5 : GenW := ofG (nat_lit 0) (nat_lit 5) (nat_lit 6) (nat_lit 105) vi0 vi0 (sy .i64 (nat_lit 104))
theorem pf5_ok [Asm] {s : Int} (hS : @SymOK (jobRho s) _) : @GWFact (jobRho s) Try.prog pf5 := ofK hS rfl rfl
def pf6 : GenW := uptoG (nat_lit 0) (nat_lit 6) (nat_lit 7) (nat_lit 106) (.ofNat (nat_lit 9))
theorem pf6_ok [Asm] {s : Int} (hS : @SymOK (jobRho s) _) : @GWFact (jobRho s) Try.prog pf6 := upK hS (by decide) rfl rfl
def pf7 : GenW := ofG (nat_lit 0) (nat_lit 7) (nat_lit 8) (nat_lit 107) vi0 vi0 (sy .i64 (nat_lit 106))
theorem pf7_ok [Asm] {s : Int} (hS : @SymOK (jobRho s) _) : @GWFact (jobRho s) Try.prog pf7 := ofK hS rfl rfl
def pf8 : GenW := uptoG (nat_lit 0) (nat_lit 8) (nat_lit 9) (nat_lit 108) (.ofNat (nat_lit 20))
theorem pf8_ok [Asm] {s : Int} (hS : @SymOK (jobRho s) _) : @GWFact (jobRho s) Try.prog pf8 := upK hS (by decide) rfl rfl
def pf9 : GenW := uptoG (nat_lit 0) (nat_lit 9) (nat_lit 10) (nat_lit 109) (.ofNat (nat_lit 2))
theorem pf9_ok [Asm] {s : Int} (hS : @SymOK (jobRho s) _) : @GWFact (jobRho s) Try.prog pf9 := upK hS (by decide) rfl rfl
def pf10 : GenW := ofG (nat_lit 0) (nat_lit 10) (nat_lit 11) (nat_lit 110) vi0 vi0 (sy .i64 (nat_lit 109))
theorem pf10_ok [Asm] {s : Int} (hS : @SymOK (jobRho s) _) : @GWFact (jobRho s) Try.prog pf10 := ofK hS rfl rfl
def pf11 : GenW := uptoG (nat_lit 0) (nat_lit 11) (nat_lit 12) (nat_lit 111) (.ofNat (nat_lit 2))
theorem pf11_ok [Asm] {s : Int} (hS : @SymOK (jobRho s) _) : @GWFact (jobRho s) Try.prog pf11 := upK hS (by decide) rfl rfl
def pf12 : GenW := ofG (nat_lit 0) (nat_lit 12) (nat_lit 13) (nat_lit 112) vi0 vi0 (sy .i64 (nat_lit 111))
theorem pf12_ok [Asm] {s : Int} (hS : @SymOK (jobRho s) _) : @GWFact (jobRho s) Try.prog pf12 := ofK hS rfl rfl
def pf13 : GenW := uptoG (nat_lit 0) (nat_lit 13) (nat_lit 14) (nat_lit 113) (.ofNat (nat_lit 20))
theorem pf13_ok [Asm] {s : Int} (hS : @SymOK (jobRho s) _) : @GWFact (jobRho s) Try.prog pf13 := upK hS (by decide) rfl rfl
def pf14 : GenW := uptoG (nat_lit 0) (nat_lit 14) (nat_lit 15) (nat_lit 114) (.ofNat (nat_lit 2))
theorem pf14_ok [Asm] {s : Int} (hS : @SymOK (jobRho s) _) : @GWFact (jobRho s) Try.prog pf14 := upK hS (by decide) rfl rfl
def pf15 : GenW := ofG (nat_lit 0) (nat_lit 15) (nat_lit 16) (nat_lit 115) vi0 vi0 (sy .i64 (nat_lit 114))
theorem pf15_ok [Asm] {s : Int} (hS : @SymOK (jobRho s) _) : @GWFact (jobRho s) Try.prog pf15 := ofK hS rfl rfl
def pf16 : GenW := uptoG (nat_lit 0) (nat_lit 16) (nat_lit 17) (nat_lit 116) (.ofNat (nat_lit 2))
theorem pf16_ok [Asm] {s : Int} (hS : @SymOK (jobRho s) _) : @GWFact (jobRho s) Try.prog pf16 := upK hS (by decide) rfl rfl
def pf17 : GenW := ofG (nat_lit 0) (nat_lit 17) (nat_lit 18) (nat_lit 117) vi0 vi0 (sy .i64 (nat_lit 116))
theorem pf17_ok [Asm] {s : Int} (hS : @SymOK (jobRho s) _) : @GWFact (jobRho s) Try.prog pf17 := ofK hS rfl rfl
def pf18 : GenW := uptoG (nat_lit 0) (nat_lit 18) (nat_lit 19) (nat_lit 118) (.ofNat (nat_lit 5))
theorem pf18_ok [Asm] {s : Int} (hS : @SymOK (jobRho s) _) : @GWFact (jobRho s) Try.prog pf18 := upK hS (by decide) rfl rfl
def pf19 : GenW := uptoG (nat_lit 0) (nat_lit 19) (nat_lit 20) (nat_lit 119) (.ofNat (nat_lit 4))
theorem pf19_ok [Asm] {s : Int} (hS : @SymOK (jobRho s) _) : @GWFact (jobRho s) Try.prog pf19 := upK hS (by decide) rfl rfl
def pf20 : GenW := ofG (nat_lit 0) (nat_lit 20) (nat_lit 21) (nat_lit 120) vi0 vi0 (sy .i64 (nat_lit 119))
theorem pf20_ok [Asm] {s : Int} (hS : @SymOK (jobRho s) _) : @GWFact (jobRho s) Try.prog pf20 := ofK hS rfl rfl
def pf21 : GenW := uptoG (nat_lit 0) (nat_lit 21) (nat_lit 22) (nat_lit 121) (.ofNat (nat_lit 4))
theorem pf21_ok [Asm] {s : Int} (hS : @SymOK (jobRho s) _) : @GWFact (jobRho s) Try.prog pf21 := upK hS (by decide) rfl rfl
def pf22 : GenW := ofG (nat_lit 0) (nat_lit 22) (nat_lit 23) (nat_lit 122) vi0 vi0 (sy .i64 (nat_lit 121))
theorem pf22_ok [Asm] {s : Int} (hS : @SymOK (jobRho s) _) : @GWFact (jobRho s) Try.prog pf22 := ofK hS rfl rfl
def pf23 : GenW := uptoG (nat_lit 0) (nat_lit 23) (nat_lit 24) (nat_lit 123) (.ofNat (nat_lit 5))
theorem pf23_ok [Asm] {s : Int} (hS : @SymOK (jobRho s) _) : @GWFact (jobRho s) Try.prog pf23 := upK hS (by decide) rfl rfl
def pf24 : GenW := uptoG (nat_lit 0) (nat_lit 24) (nat_lit 25) (nat_lit 124) (.ofNat (nat_lit 4))
theorem pf24_ok [Asm] {s : Int} (hS : @SymOK (jobRho s) _) : @GWFact (jobRho s) Try.prog pf24 := upK hS (by decide) rfl rfl
def pf25 : GenW := ofG (nat_lit 0) (nat_lit 25) (nat_lit 26) (nat_lit 125) vi0 vi0 (sy .i64 (nat_lit 124))
theorem pf25_ok [Asm] {s : Int} (hS : @SymOK (jobRho s) _) : @GWFact (jobRho s) Try.prog pf25 := ofK hS rfl rfl
def pf26 : GenW := uptoG (nat_lit 0) (nat_lit 26) (nat_lit 27) (nat_lit 126) (.ofNat (nat_lit 4))
theorem pf26_ok [Asm] {s : Int} (hS : @SymOK (jobRho s) _) : @GWFact (jobRho s) Try.prog pf26 := upK hS (by decide) rfl rfl
def pf27 : GenW := ofG (nat_lit 0) (nat_lit 27) (nat_lit 28) (nat_lit 127) vi0 vi0 (sy .i64 (nat_lit 126))
theorem pf27_ok [Asm] {s : Int} (hS : @SymOK (jobRho s) _) : @GWFact (jobRho s) Try.prog pf27 := ofK hS rfl rfl
def pf28 : GenW := uptoG (nat_lit 0) (nat_lit 28) (nat_lit 29) (nat_lit 128) (.ofNat (nat_lit 4))
theorem pf28_ok [Asm] {s : Int} (hS : @SymOK (jobRho s) _) : @GWFact (jobRho s) Try.prog pf28 := upK hS (by decide) rfl rfl
def pf29 : GenW := uptoG (nat_lit 0) (nat_lit 29) (nat_lit 30) (nat_lit 129) (.ofNat (nat_lit 1))
theorem pf29_ok [Asm] {s : Int} (hS : @SymOK (jobRho s) _) : @GWFact (jobRho s) Try.prog pf29 := upK hS (by decide) rfl rfl
def pf30 : GenW := ofG (nat_lit 0) (nat_lit 30) (nat_lit 31) (nat_lit 130) vi0 vi0 (sy .i64 (nat_lit 129))
theorem pf30_ok [Asm] {s : Int} (hS : @SymOK (jobRho s) _) : @GWFact (jobRho s) Try.prog pf30 := ofK hS rfl rfl
def pf31 : GenW := uptoG (nat_lit 0) (nat_lit 31) (nat_lit 32) (nat_lit 131) (.ofNat (nat_lit 1))
theorem pf31_ok [Asm] {s : Int} (hS : @SymOK (jobRho s) _) : @GWFact (jobRho s) Try.prog pf31 := upK hS (by decide) rfl rfl
def pf32 : GenW := ofG (nat_lit 0) (nat_lit 32) (nat_lit 33) (nat_lit 132) vi0 vi0 (sy .i64 (nat_lit 131))
theorem pf32_ok [Asm] {s : Int} (hS : @SymOK (jobRho s) _) : @GWFact (jobRho s) Try.prog pf32 := ofK hS rfl rfl
def pf33 : GenW := uptoG (nat_lit 0) (nat_lit 33) (nat_lit 34) (nat_lit 133) (.ofNat (nat_lit 4))
theorem pf33_ok [Asm] {s : Int} (hS : @SymOK (jobRho s) _) : @GWFact (jobRho s) Try.prog pf33 := upK hS (by decide) rfl rfl
def pf34 : GenW := uptoG (nat_lit 0) (nat_lit 34) (nat_lit 35) (nat_lit 134) (.ofNat (nat_lit 1))
theorem pf34_ok [Asm] {s : Int} (hS : @SymOK (jobRho s) _) : @GWFact (jobRho s) Try.prog pf34 := upK hS (by decide) rfl rfl
def pf35 : GenW := ofG (nat_lit 0) (nat_lit 35) (nat_lit 36) (nat_lit 135) vi0 vi0 (sy .i64 (nat_lit 134))
theorem pf35_ok [Asm] {s : Int} (hS : @SymOK (jobRho s) _) : @GWFact (jobRho s) Try.prog pf35 := ofK hS rfl rfl
def pf36 : GenW := uptoG (nat_lit 0) (nat_lit 36) (nat_lit 37) (nat_lit 136) (.ofNat (nat_lit 1))
theorem pf36_ok [Asm] {s : Int} (hS : @SymOK (jobRho s) _) : @GWFact (jobRho s) Try.prog pf36 := upK hS (by decide) rfl rfl
def pf37 : GenW := ofG (nat_lit 0) (nat_lit 37) (nat_lit 38) (nat_lit 137) vi0 vi0 (sy .i64 (nat_lit 136))
theorem pf37_ok [Asm] {s : Int} (hS : @SymOK (jobRho s) _) : @GWFact (jobRho s) Try.prog pf37 := ofK hS rfl rfl
def pf38 : GenW := uptoG (nat_lit 0) (nat_lit 38) (nat_lit 39) (nat_lit 138) (.ofNat (nat_lit 20))
theorem pf38_ok [Asm] {s : Int} (hS : @SymOK (jobRho s) _) : @GWFact (jobRho s) Try.prog pf38 := upK hS (by decide) rfl rfl
def pf39 : GenW := uptoG (nat_lit 0) (nat_lit 39) (nat_lit 40) (nat_lit 139) (.ofNat (nat_lit 3))
theorem pf39_ok [Asm] {s : Int} (hS : @SymOK (jobRho s) _) : @GWFact (jobRho s) Try.prog pf39 := upK hS (by decide) rfl rfl
def pf40 : GenW := uptoG (nat_lit 0) (nat_lit 40) (nat_lit 41) (nat_lit 140) (.ofNat (nat_lit 6))
theorem pf40_ok [Asm] {s : Int} (hS : @SymOK (jobRho s) _) : @GWFact (jobRho s) Try.prog pf40 := upK hS (by decide) rfl rfl
def pf41 : GenW := uptoG (nat_lit 0) (nat_lit 41) (nat_lit 42) (nat_lit 141) (.ofNat (nat_lit 2))
theorem pf41_ok [Asm] {s : Int} (hS : @SymOK (jobRho s) _) : @GWFact (jobRho s) Try.prog pf41 := upK hS (by decide) rfl rfl
def pf42 : GenW := ofG (nat_lit 0) (nat_lit 42) (nat_lit 43) (nat_lit 142) vi0 vi0 (sy .i64 (nat_lit 141))
theorem pf42_ok [Asm] {s : Int} (hS : @SymOK (jobRho s) _) : @GWFact (jobRho s) Try.prog pf42 := ofK hS rfl rfl
def pf43 : GenW := uptoG (nat_lit 0) (nat_lit 43) (nat_lit 44) (nat_lit 143) (.ofNat (nat_lit 2))
theorem pf43_ok [Asm] {s : Int} (hS : @SymOK (jobRho s) _) : @GWFact (jobRho s) Try.prog pf43 := upK hS (by decide) rfl rfl
def pf44 : GenW := ofG (nat_lit 0) (nat_lit 44) (nat_lit 45) (nat_lit 144) vi0 vi0 (sy .i64 (nat_lit 143))
theorem pf44_ok [Asm] {s : Int} (hS : @SymOK (jobRho s) _) : @GWFact (jobRho s) Try.prog pf44 := ofK hS rfl rfl
def pf45 : GenW := uptoG (nat_lit 0) (nat_lit 45) (nat_lit 46) (nat_lit 145) (.ofNat (nat_lit 6))
theorem pf45_ok [Asm] {s : Int} (hS : @SymOK (jobRho s) _) : @GWFact (jobRho s) Try.prog pf45 := upK hS (by decide) rfl rfl
def pf46 : GenW := uptoG (nat_lit 0) (nat_lit 46) (nat_lit 47) (nat_lit 146) (.ofNat (nat_lit 2))
theorem pf46_ok [Asm] {s : Int} (hS : @SymOK (jobRho s) _) : @GWFact (jobRho s) Try.prog pf46 := upK hS (by decide) rfl rfl
def pf47 : GenW := ofG (nat_lit 0) (nat_lit 47) (nat_lit 48) (nat_lit 147) vi0 vi0 (sy .i64 (nat_lit 146))
theorem pf47_ok [Asm] {s : Int} (hS : @SymOK (jobRho s) _) : @GWFact (jobRho s) Try.prog pf47 := ofK hS rfl rfl
def pf48 : GenW := uptoG (nat_lit 0) (nat_lit 48) (nat_lit 49) (nat_lit 148) (.ofNat (nat_lit 2))
theorem pf48_ok [Asm] {s : Int} (hS : @SymOK (jobRho s) _) : @GWFact (jobRho s) Try.prog pf48 := upK hS (by decide) rfl rfl
def pf49 : GenW := ofG (nat_lit 0) (nat_lit 49) (nat_lit 50) (nat_lit 149) vi0 vi0 (sy .i64 (nat_lit 148))
theorem pf49_ok [Asm] {s : Int} (hS : @SymOK (jobRho s) _) : @GWFact (jobRho s) Try.prog pf49 := ofK hS rfl rfl
def pf50 : GenW := uptoG (nat_lit 0) (nat_lit 50) (nat_lit 51) (nat_lit 150) (.ofNat (nat_lit 6))
theorem pf50_ok [Asm] {s : Int} (hS : @SymOK (jobRho s) _) : @GWFact (jobRho s) Try.prog pf50 := upK hS (by decide) rfl rfl
def pf51 : GenW := uptoG (nat_lit 0) (nat_lit 51) (nat_lit 52) (nat_lit 151) (.ofNat (nat_lit 2))
theorem pf51_ok [Asm] {s : Int} (hS : @SymOK (jobRho s) _) : @GWFact (jobRho s) Try.prog pf51 := upK hS (by decide) rfl rfl
def pf52 : GenW := ofG (nat_lit 0) (nat_lit 52) (nat_lit 53) (nat_lit 152) vi0 vi0 (sy .i64 (nat_lit 151))
theorem pf52_ok [Asm] {s : Int} (hS : @SymOK (jobRho s) _) : @GWFact (jobRho s) Try.prog pf52 := ofK hS rfl rfl
def pf53 : GenW := uptoG (nat_lit 0) (nat_lit 53) (nat_lit 54) (nat_lit 153) (.ofNat (nat_lit 2))
theorem pf53_ok [Asm] {s : Int} (hS : @SymOK (jobRho s) _) : @GWFact (jobRho s) Try.prog pf53 := upK hS (by decide) rfl rfl
def pf54 : GenW := ofG (nat_lit 0) (nat_lit 54) (nat_lit 55) (nat_lit 154) vi0 vi0 (sy .i64 (nat_lit 153))
theorem pf54_ok [Asm] {s : Int} (hS : @SymOK (jobRho s) _) : @GWFact (jobRho s) Try.prog pf54 := ofK hS rfl rfl
def jobKb_lw : List (Nat × List GenW) := [((nat_lit 38),[pf2,pf5,pf7,pf10,pf12,pf15,pf17,pf20,pf22,pf25,pf27,pf30,pf32,pf35,pf37,pf42,pf44,pf47,pf49,pf52,pf54]),((nat_lit 39),[pf0,pf1,pf3,pf4,pf6,pf8,pf9,pf11,pf13,pf14,pf16,pf18,pf19,pf21,pf23,pf24,pf26,pf28,pf29,pf31,pf33,pf34,pf36,pf38,pf39,pf40,pf41,pf43,pf45,pf46,pf48,pf50,pf51,pf53])]
def jobKb : Kb := { w := (.n (.n (.n (.n .e none (.n (.n .e (some [pf0,pf1,pf3,pf4,pf6,pf8,pf9,pf11,pf13,pf14,pf16,pf18,pf19,pf21,pf23,pf24,pf26,pf28,pf29,pf31,pf33,pf34,pf36,pf38,pf39,pf40,pf41,pf43,pf45,pf46,pf48,pf50,pf51,pf53]) .e) none .e)) none .e) none .e) none (.n .e none (.n .e none (.n (.n (.n .e (some [pf2,pf5,pf7,pf10,pf12,pf15,pf17,pf20,pf22,pf25,pf27,pf30,pf32,pf35,pf37,pf42,pf44,pf47,pf49,pf52,pf54]) .e) none .e) none .e)))), g := .e, c := .e }
theorem kbGen [Rho] [Asm] [SymOK] (h1 : GWL Try.prog [pf2,pf5,pf7,pf10,pf12,pf15,pf17,pf20,pf22,pf25,pf27,pf30,pf32,pf35,pf37,pf42,pf44,pf47,pf49,pf52,pf54]) (h2 : GWL Try.prog [pf0,pf1,pf3,pf4,pf6,pf8,pf9,pf11,pf13,pf14,pf16,pf18,pf19,pf21,pf23,pf24,pf26,pf28,pf29,pf31,pf33,pf34,pf36,pf38,pf39,pf40,pf41,pf43,pf45,pf46,pf48,pf50,pf51,pf53]) : KbOK Try.prog jobKb := kbOK (lw := jobKb_lw) (lg := []) (lc := []) (.cons h1 (by kernel_rfl) (.cons h2 (by kernel_rfl) .nil)) .nil .nil (by kernel_rfl) (by kernel_rfl) (by kernel_rfl)
theorem jobKb_ok [Asm] {s : Int} (hS : @SymOK (jobRho s) _) : @KbOK (jobRho s) Try.prog jobKb := @kbGen (jobRho s) _ hS (@GWL.cons (jobRho s) _ _ _ (pf2_ok hS) (@GWL.cons (jobRho s) _ _ _ (pf5_ok hS) (@GWL.cons (jobRho s) _ _ _ (pf7_ok hS) (@GWL.cons (jobRho s) _ _ _ (pf10_ok hS) (@GWL.cons (jobRho s) _ _ _ (pf12_ok hS) (@GWL.cons (jobRho s) _ _ _ (pf15_ok hS) (@GWL.cons (jobRho s) _ _ _ (pf17_ok hS) (@GWL.cons (jobRho s) _ _ _ (pf20_ok hS) (@GWL.cons (jobRho s) _ _ _ (pf22_ok hS) (@GWL.cons (jobRho s) _ _ _ (pf25_ok hS) (@GWL.cons (jobRho s) _ _ _ (pf27_ok hS) (@GWL.cons (jobRho s) _ _ _ (pf30_ok hS) (@GWL.cons (jobRho s) _ _ _ (pf32_ok hS) (@GWL.cons (jobRho s) _ _ _ (pf35_ok hS) (@GWL.cons (jobRho s) _ _ _ (pf37_ok hS) (@GWL.cons (jobRho s) _ _ _ (pf42_ok hS) (@GWL.cons (jobRho s) _ _ _ (pf44_ok hS) (@GWL.cons (jobRho s) _ _ _ (pf47_ok hS) (@GWL.cons (jobRho s) _ _ _ (pf49_ok hS) (@GWL.cons (jobRho s) _ _ _ (pf52_ok hS) (@GWL.cons (jobRho s) _ _ _ (pf54_ok hS) (@GWL.nil (jobRho s) _)))))))))))))))))))))) (@GWL.cons (jobRho s) _ _ _ (pf0_ok hS) (@GWL.cons (jobRho s) _ _ _ (pf1_ok hS) (@GWL.cons (jobRho s) _ _ _ (pf3_ok hS) (@GWL.cons (jobRho s) _ _ _ (pf4_ok hS) (@GWL.cons (jobRho s) _ _ _ (pf6_ok hS) (@GWL.cons (jobRho s) _ _ _ (pf8_ok hS) (@GWL.cons (jobRho s) _ _ _ (pf9_ok hS) (@GWL.cons (jobRho s) _ _ _ (pf11_ok hS) (@GWL.cons (jobRho s) _ _ _ (pf13_ok hS) (@GWL.cons (jobRho s) _ _ _ (pf14_ok hS) (@GWL.cons (jobRho s) _ _ _ (pf16_ok hS) (@GWL.cons (jobRho s) _ _ _ (pf18_ok hS) (@GWL.cons (jobRho s) _ _ _ (pf19_ok hS) (@GWL.cons (jobRho s) _ _ _ (pf21_ok hS) (@GWL.cons (jobRho s) _ _ _ (pf23_ok hS) (@GWL.cons (jobRho s) _ _ _ (pf24_ok hS) (@GWL.cons (jobRho s) _ _ _ (pf26_ok hS) (@GWL.cons (jobRho s) _ _ _ (pf28_ok hS) (@GWL.cons (jobRho s) _ _ _ (pf29_ok hS) (@GWL.cons (jobRho s) _ _ _ (pf31_ok hS) (@GWL.cons (jobRho s) _ _ _ (pf33_ok hS) (@GWL.cons (jobRho s) _ _ _ (pf34_ok hS) (@GWL.cons (jobRho s) _ _ _ (pf36_ok hS) (@GWL.cons (jobRho s) _ _ _ (pf38_ok hS) (@GWL.cons (jobRho s) _ _ _ (pf39_ok hS) (@GWL.cons (jobRho s) _ _ _ (pf40_ok hS) (@GWL.cons (jobRho s) _ _ _ (pf41_ok hS) (@GWL.cons (jobRho s) _ _ _ (pf43_ok hS) (@GWL.cons (jobRho s) _ _ _ (pf45_ok hS) (@GWL.cons (jobRho s) _ _ _ (pf46_ok hS) (@GWL.cons (jobRho s) _ _ _ (pf48_ok hS) (@GWL.cons (jobRho s) _ _ _ (pf50_ok hS) (@GWL.cons (jobRho s) _ _ _ (pf51_ok hS) (@GWL.cons (jobRho s) _ _ _ (pf53_ok hS) (@GWL.nil (jobRho s) _)))))))))))))))))))))))))))))))))))
end
end Go.Sim
/- A job of a pot: one run. -/
namespace Go.Sim
set_option linter.all false
open Go Go.RowKit Go.Proofs Go.Proofs.Ytdficjnnlaicpaa
set_option maxRecDepth 1000000
noncomputable section
abbrev asm0 : Asm := ⟨[((.func (.yield (nat_lit 21)) ⟨[vi0,yy139]⟩ ⟨[]⟩),false)]⟩
def run0 : Chg := ⟨.func (.func (nat_lit 7)) ⟨[]⟩ ⟨[]⟩, [.pointer (some ⟨(nat_lit 0), (nat_lit 0), none⟩), .int .i64 (.ofNat (nat_lit 9)), .int .i64 (.ofNat (nat_lit 4))], ⟨layB [.cells [sy .u64 (nat_lit 0)]] (nat_lit 0) .e, (nat_lit 1), (nat_lit 1), []⟩, (.agg ⟨[(.func (.yield (nat_lit 6)) ⟨[vi0,vm59,(.func (.yield (nat_lit 2)) ⟨[vi0,(.func (.yield (nat_lit 1)) ⟨[vi0,vm15,yy103]⟩ ⟨[]⟩),yy105]⟩ ⟨[]⟩)]⟩ ⟨[]⟩),(.func (.yield (nat_lit 7)) ⟨[vi0,vi60,(.func (.yield (nat_lit 1)) ⟨[vi0,(.func (.yield (nat_lit 1)) ⟨[vi0,vm15,yy103]⟩ ⟨[]⟩),yy107]⟩ ⟨[]⟩)]⟩ ⟨[]⟩),(.func (.yield (nat_lit 6)) ⟨[vi0,vi0,(.func (.yield (nat_lit 2)) ⟨[vi0,(.func (.yield (nat_lit 1)) ⟨[vi0,vi20,yy108]⟩ ⟨[]⟩),yy110]⟩ ⟨[]⟩)]⟩ ⟨[]⟩),(.func (.yield (nat_lit 7)) ⟨[vi0,vi100,(.func (.yield (nat_lit 1)) ⟨[vi0,(.func (.yield (nat_lit 1)) ⟨[vi0,vi20,yy108]⟩ ⟨[]⟩),yy112]⟩ ⟨[]⟩)]⟩ ⟨[]⟩),(.func (.yield (nat_lit 6)) ⟨[vi0,vi0,(.func (.yield (nat_lit 2)) ⟨[vi0,(.func (.yield (nat_lit 1)) ⟨[vi0,vi20,yy113]⟩ ⟨[]⟩),yy115]⟩ ⟨[]⟩)]⟩ ⟨[]⟩),(.func (.yield (nat_lit 7)) ⟨[vi0,vi100,(.func (.yield (nat_lit 1)) ⟨[vi0,(.func (.yield (nat_lit 1)) ⟨[vi0,vi20,yy113]⟩ ⟨[]⟩),yy117]⟩ ⟨[]⟩)]⟩ ⟨[]⟩),(.func (.yield (nat_lit 6)) ⟨[vi0,vi0,(.func (.yield (nat_lit 2)) ⟨[vi0,(.func (.yield (nat_lit 1)) ⟨[vi0,vi1,yy118]⟩ ⟨[]⟩),yy120]⟩ ⟨[]⟩)]⟩ ⟨[]⟩),(.func (.yield (nat_lit 7)) ⟨[vi0,vi12,(.func (.yield (nat_lit 1)) ⟨[vi0,(.func (.yield (nat_lit 1)) ⟨[vi0,vi1,yy118]⟩ ⟨[]⟩),yy122]⟩ ⟨[]⟩)]⟩ ⟨[]⟩),(.func (.yield (nat_lit 6)) ⟨[vi0,vi0,(.func (.yield (nat_lit 2)) ⟨[vi0,(.func (.yield (nat_lit 1)) ⟨[vi0,vi1,yy123]⟩ ⟨[]⟩),yy125]⟩ ⟨[]⟩)]⟩ ⟨[]⟩),(.func (.yield (nat_lit 7)) ⟨[vi0,vi12,(.func (.yield (nat_lit 1)) ⟨[vi0,(.func (.yield (nat_lit 1)) ⟨[vi0,vi1,yy123]⟩ ⟨[]⟩),yy127]⟩ ⟨[]⟩)]⟩ ⟨[]⟩),(.func (.yield (nat_lit 6)) ⟨[vi0,vi0,(.func (.yield (nat_lit 2)) ⟨[vi0,yy128,yy130]⟩ ⟨[]⟩)]⟩ ⟨[]⟩),(.func (.yield (nat_lit 7)) ⟨[vi0,vi12,(.func (.yield (nat_lit 1)) ⟨[vi0,yy128,yy132]⟩ ⟨[]⟩)]⟩ ⟨[]⟩),(.func (.yield (nat_lit 6)) ⟨[vi0,vi0,(.func (.yield (nat_lit 2)) ⟨[vi0,yy133,yy135]⟩ ⟨[]⟩)]⟩ ⟨[]⟩),(.func (.yield (nat_lit 7)) ⟨[vi0,vi12,(.func (.yield (nat_lit 1)) ⟨[vi0,yy133,yy137]⟩ ⟨[]⟩)]⟩ ⟨[]⟩),(.func (.yield (nat_lit 1)) ⟨[vi0,vi10,yy138]⟩ ⟨[]⟩),(.slice none (nat_lit 0) (nat_lit 0)),(.func (.yield (nat_lit 1)) ⟨[vi0,vi1,yy100]⟩ ⟨[]⟩),yy102]⟩), (nat_lit 1), [(nat_lit 0)], [((nat_lit 0), (some (.cells [(.func (.yield (nat_lit 0)) ⟨[(.int .u64 (.ofNat (nat_lit 40)))]⟩ ⟨[]⟩)])))]⟩
theorem run0_ok {s : Int} (hS : @SymOK (jobRho s) asm0) : @CFact (jobRho s) Try.prog run0 := @cfact (jobRho s) asm0 hS Try.prog (@mixed (jobRho s) asm0 hS) tab (@tab_ok (jobRho s) asm0 hS) jobKb (@jobKb_ok asm0 s hS) run0 10000 (by kernel_rfl) (by kernel_rfl)
end
end Go.Sim
/- A job of a pot: one run. -/
namespace Go.Sim
set_option linter.all false
open Go Go.RowKit Go.Proofs Go.Proofs.Ytdficjnnlaicpaa
set_option maxRecDepth 1000000
noncomputable section
abbrev asm1 : Asm := ⟨[((.func (.yield (nat_lit 21)) ⟨[vi0,yy139]⟩ ⟨[]⟩),true),((.func (.yield (nat_lit 21)) ⟨[vi0,(.func (.yield (nat_lit 2)) ⟨[vi0,yy139,vi1]⟩ ⟨[]⟩)]⟩ ⟨[]⟩),false)]⟩
def run1 : Chg := ⟨.func (.func (nat_lit 7)) ⟨[]⟩ ⟨[]⟩, [.pointer (some ⟨(nat_lit 0), (nat_lit 0), none⟩), .int .i64 (.ofNat (nat_lit 9)), .int .i64 (.ofNat (nat_lit 4))], ⟨layB [.cells [sy .u64 (nat_lit 0)]] (nat_lit 0) .e, (nat_lit 1), (nat_lit 1), []⟩, (.agg ⟨[(.func (.yield (nat_lit 6)) ⟨[vi0,vm59,(.func (.yield (nat_lit 2)) ⟨[vi0,(.func (.yield (nat_lit 1)) ⟨[vi0,vm15,yy103]⟩ ⟨[]⟩),yy105]⟩ ⟨[]⟩)]⟩ ⟨[]⟩),(.func (.yield (nat_lit 7)) ⟨[vi0,vi60,(.func (.yield (nat_lit 1)) ⟨[vi0,(.func (.yield (nat_lit 1)) ⟨[vi0,vm15,yy103]⟩ ⟨[]⟩),yy107]⟩ ⟨[]⟩)]⟩ ⟨[]⟩),(.func (.yield (nat_lit 6)) ⟨[vi0,vi0,(.func (.yield (nat_lit 2)) ⟨[vi0,(.func (.yield (nat_lit 1)) ⟨[vi0,vi20,yy108]⟩ ⟨[]⟩),yy110]⟩ ⟨[]⟩)]⟩ ⟨[]⟩),(.func (.yield (nat_lit 7)) ⟨[vi0,vi100,(.func (.yield (nat_lit 1)) ⟨[vi0,(.func (.yield (nat_lit 1)) ⟨[vi0,vi20,yy108]⟩ ⟨[]⟩),yy112]⟩ ⟨[]⟩)]⟩ ⟨[]⟩),(.func (.yield (nat_lit 6)) ⟨[vi0,vi0,(.func (.yield (nat_lit 2)) ⟨[vi0,(.func (.yield (nat_lit 1)) ⟨[vi0,vi20,yy113]⟩ ⟨[]⟩),yy115]⟩ ⟨[]⟩)]⟩ ⟨[]⟩),(.func (.yield (nat_lit 7)) ⟨[vi0,vi100,(.func (.yield (nat_lit 1)) ⟨[vi0,(.func (.yield (nat_lit 1)) ⟨[vi0,vi20,yy113]⟩ ⟨[]⟩),yy117]⟩ ⟨[]⟩)]⟩ ⟨[]⟩),(.func (.yield (nat_lit 6)) ⟨[vi0,vi0,(.func (.yield (nat_lit 2)) ⟨[vi0,(.func (.yield (nat_lit 1)) ⟨[vi0,vi1,yy118]⟩ ⟨[]⟩),yy120]⟩ ⟨[]⟩)]⟩ ⟨[]⟩),(.func (.yield (nat_lit 7)) ⟨[vi0,vi12,(.func (.yield (nat_lit 1)) ⟨[vi0,(.func (.yield (nat_lit 1)) ⟨[vi0,vi1,yy118]⟩ ⟨[]⟩),yy122]⟩ ⟨[]⟩)]⟩ ⟨[]⟩),(.func (.yield (nat_lit 6)) ⟨[vi0,vi0,(.func (.yield (nat_lit 2)) ⟨[vi0,(.func (.yield (nat_lit 1)) ⟨[vi0,vi1,yy123]⟩ ⟨[]⟩),yy125]⟩ ⟨[]⟩)]⟩ ⟨[]⟩),(.func (.yield (nat_lit 7)) ⟨[vi0,vi12,(.func (.yield (nat_lit 1)) ⟨[vi0,(.func (.yield (nat_lit 1)) ⟨[vi0,vi1,yy123]⟩ ⟨[]⟩),yy127]⟩ ⟨[]⟩)]⟩ ⟨[]⟩),(.func (.yield (nat_lit 6)) ⟨[vi0,vi0,(.func (.yield (nat_lit 2)) ⟨[vi0,yy128,yy130]⟩ ⟨[]⟩)]⟩ ⟨[]⟩),(.func (.yield (nat_lit 7)) ⟨[vi0,vi12,(.func (.yield (nat_lit 1)) ⟨[vi0,yy128,yy132]⟩ ⟨[]⟩)]⟩ ⟨[]⟩),(.func (.yield (nat_lit 6)) ⟨[vi0,vi0,(.func (.yield (nat_lit 2)) ⟨[vi0,yy133,yy135]⟩ ⟨[]⟩)]⟩ ⟨[]⟩),(.func (.yield (nat_lit 7)) ⟨[vi0,vi12,(.func (.yield (nat_lit 1)) ⟨[vi0,yy133,yy137]⟩ ⟨[]⟩)]⟩ ⟨[]⟩),(.func (.yield (nat_lit 1)) ⟨[vi0,vi10,yy138]⟩ ⟨[]⟩),(.slice (some ⟨(nat_lit 14),(nat_lit 0),none⟩) (nat_lit 1) (nat_lit 18446744073709551618)),(.func (.yield (nat_lit 1)) ⟨[vi0,vi1,yy100]⟩ ⟨[]⟩),yy102]⟩), (nat_lit 15), [(nat_lit 0)], [((nat_lit 0), (some (.cells [(.func (.yield (nat_lit 0)) ⟨[(.int .u64 (.ofNat (nat_lit 45)))]⟩ ⟨[]⟩)]))),((nat_lit 1), (some (.cells [(.func (.yield (nat_lit 6)) ⟨[vi0,vm59,(.func (.yield (nat_lit 2)) ⟨[vi0,(.func (.yield (nat_lit 1)) ⟨[vi0,vm15,yy103]⟩ ⟨[]⟩),yy105]⟩ ⟨[]⟩)]⟩ ⟨[]⟩),(.func (.yield (nat_lit 7)) ⟨[vi0,vi60,(.func (.yield (nat_lit 1)) ⟨[vi0,(.func (.yield (nat_lit 1)) ⟨[vi0,vm15,yy103]⟩ ⟨[]⟩),yy107]⟩ ⟨[]⟩)]⟩ ⟨[]⟩),(.func (.yield (nat_lit 6)) ⟨[vi0,vi0,(.func (.yield (nat_lit 2)) ⟨[vi0,(.func (.yield (nat_lit 1)) ⟨[vi0,vi20,yy108]⟩ ⟨[]⟩),yy110]⟩ ⟨[]⟩)]⟩ ⟨[]⟩),(.func (.yield (nat_lit 7)) ⟨[vi0,vi100,(.func (.yield (nat_lit 1)) ⟨[vi0,(.func (.yield (nat_lit 1)) ⟨[vi0,vi20,yy108]⟩ ⟨[]⟩),yy112]⟩ ⟨[]⟩)]⟩ ⟨[]⟩),(.func (.yield (nat_lit 6)) ⟨[vi0,vi0,(.func (.yield (nat_lit 2)) ⟨[vi0,(.func (.yield (nat_lit 1)) ⟨[vi0,vi20,yy113]⟩ ⟨[]⟩),yy115]⟩ ⟨[]⟩)]⟩ ⟨[]⟩),(.func (.yield (nat_lit 7)) ⟨[vi0,vi100,(.func (.yield (nat_lit 1)) ⟨[vi0,(.func (.yield (nat_lit 1)) ⟨[vi0,vi20,yy113]⟩ ⟨[]⟩),yy117]⟩ ⟨[]⟩)]⟩ ⟨[]⟩),(.func (.yield (nat_lit 6)) ⟨[vi0,vi0,(.func (.yield (nat_lit 2)) ⟨[vi0,(.func (.yield (nat_lit 1)) ⟨[vi0,vi1,yy118]⟩ ⟨[]⟩),yy120]⟩ ⟨[]⟩)]⟩ ⟨[]⟩),(.func (.yield (nat_lit 7)) ⟨[vi0,vi12,(.func (.yield (nat_lit 1)) ⟨[vi0,(.func (.yield (nat_lit 1)) ⟨[vi0,vi1,yy118]⟩ ⟨[]⟩),yy122]⟩ ⟨[]⟩)]⟩ ⟨[]⟩),(.func (.yield (nat_lit 6)) ⟨[vi0,vi0,(.func (.yield (nat_lit 2)) ⟨[vi0,(.func (.yield (nat_lit 1)) ⟨[vi0,vi1,yy123]⟩ ⟨[]⟩),yy125]⟩ ⟨[]⟩)]⟩ ⟨[]⟩),(.func (.yield (nat_lit 7)) ⟨[vi0,vi12,(.func (.yield (nat_lit 1)) ⟨[vi0,(.func (.yield (nat_lit 1)) ⟨[vi0,vi1,yy123]⟩ ⟨[]⟩),yy127]⟩ ⟨[]⟩)]⟩ ⟨[]⟩),(.func (.yield (nat_lit 6)) ⟨[vi0,vi0,(.func (.yield (nat_lit 2)) ⟨[vi0,yy128,yy130]⟩ ⟨[]⟩)]⟩ ⟨[]⟩),(.func (.yield (nat_lit 7)) ⟨[vi0,vi12,(.func (.yield (nat_lit 1)) ⟨[vi0,yy128,yy132]⟩ ⟨[]⟩)]⟩ ⟨[]⟩),(.func (.yield (nat_lit 6)) ⟨[vi0,vi0,(.func (.yield (nat_lit 2)) ⟨[vi0,yy133,yy135]⟩ ⟨[]⟩)]⟩ ⟨[]⟩),(.func (.yield (nat_lit 7)) ⟨[vi0,vi12,(.func (.yield (nat_lit 1)) ⟨[vi0,yy133,yy137]⟩ ⟨[]⟩)]⟩ ⟨[]⟩),(.func (.yield (nat_lit 1)) ⟨[vi0,vi10,yy138]⟩ ⟨[]⟩),(.slice (some ⟨(nat_lit 14),(nat_lit 0),none⟩) (nat_lit 1) (nat_lit 18446744073709551618)),(.func (.yield (nat_lit 1)) ⟨[vi0,vi1,yy100]⟩ ⟨[]⟩),yy102]))),((nat_lit 3), (some (.cells [(.func (.yield (nat_lit 6)) ⟨[vi0,vm59,(.func (.yield (nat_lit 2)) ⟨[vi0,(.func (.yield (nat_lit 1)) ⟨[vi0,vm15,yy103]⟩ ⟨[]⟩),yy105]⟩ ⟨[]⟩)]⟩ ⟨[]⟩),(.func (.yield (nat_lit 7)) ⟨[vi0,vi60,(.func (.yield (nat_lit 1)) ⟨[vi0,(.func (.yield (nat_lit 1)) ⟨[vi0,vm15,yy103]⟩ ⟨[]⟩),yy107]⟩ ⟨[]⟩)]⟩ ⟨[]⟩),(.func (.yield (nat_lit 6)) ⟨[vi0,vi0,(.func (.yield (nat_lit 2)) ⟨[vi0,(.func (.yield (nat_lit 1)) ⟨[vi0,vi20,yy108]⟩ ⟨[]⟩),yy110]⟩ ⟨[]⟩)]⟩ ⟨[]⟩),(.func (.yield (nat_lit 7)) ⟨[vi0,vi100,(.func (.yield (nat_lit 1)) ⟨[vi0,(.func (.yield (nat_lit 1)) ⟨[vi0,vi20,yy108]⟩ ⟨[]⟩),yy112]⟩ ⟨[]⟩)]⟩ ⟨[]⟩),(.func (.yield (nat_lit 6)) ⟨[vi0,vi0,(.func (.yield (nat_lit 2)) ⟨[vi0,(.func (.yield (nat_lit 1)) ⟨[vi0,vi20,yy113]⟩ ⟨[]⟩),yy115]⟩ ⟨[]⟩)]⟩ ⟨[]⟩),(.func (.yield (nat_lit 7)) ⟨[vi0,vi100,(.func (.yield (nat_lit 1)) ⟨[vi0,(.func (.yield (nat_lit 1)) ⟨[vi0,vi20,yy113]⟩ ⟨[]⟩),yy117]⟩ ⟨[]⟩)]⟩ ⟨[]⟩),(.func (.yield (nat_lit 6)) ⟨[vi0,vi0,(.func (.yield (nat_lit 2)) ⟨[vi0,(.func (.yield (nat_lit 1)) ⟨[vi0,vi1,yy118]⟩ ⟨[]⟩),yy120]⟩ ⟨[]⟩)]⟩ ⟨[]⟩),(.func (.yield (nat_lit 7)) ⟨[vi0,vi12,(.func (.yield (nat_lit 1)) ⟨[vi0,(.func (.yield (nat_lit 1)) ⟨[vi0,vi1,yy118]⟩ ⟨[]⟩),yy122]⟩ ⟨[]⟩)]⟩ ⟨[]⟩),(.func (.yield (nat_lit 6)) ⟨[vi0,vi0,(.func (.yield (nat_lit 2)) ⟨[vi0,(.func (.yield (nat_lit 1)) ⟨[vi0,vi1,yy123]⟩ ⟨[]⟩),yy125]⟩ ⟨[]⟩)]⟩ ⟨[]⟩),(.func (.yield (nat_lit 7)) ⟨[vi0,vi12,(.func (.yield (nat_lit 1)) ⟨[vi0,(.func (.yield (nat_lit 1)) ⟨[vi0,vi1,yy123]⟩ ⟨[]⟩),yy127]⟩ ⟨[]⟩)]⟩ ⟨[]⟩),(.func (.yield (nat_lit 6)) ⟨[vi0,vi0,(.func (.yield (nat_lit 2)) ⟨[vi0,yy128,yy130]⟩ ⟨[]⟩)]⟩ ⟨[]⟩),(.func (.yield (nat_lit 7)) ⟨[vi0,vi12,(.func (.yield (nat_lit 1)) ⟨[vi0,yy128,yy132]⟩ ⟨[]⟩)]⟩ ⟨[]⟩),(.func (.yield (nat_lit 6)) ⟨[vi0,vi0,(.func (.yield (nat_lit 2)) ⟨[vi0,yy133,yy135]⟩ ⟨[]⟩)]⟩ ⟨[]⟩),(.func (.yield (nat_lit 7)) ⟨[vi0,vi12,(.func (.yield (nat_lit 1)) ⟨[vi0,yy133,yy137]⟩ ⟨[]⟩)]⟩ ⟨[]⟩),(.func (.yield (nat_lit 1)) ⟨[vi0,vi10,yy138]⟩ ⟨[]⟩),(.slice (some ⟨(nat_lit 14),(nat_lit 0),none⟩) (nat_lit 1) (nat_lit 18446744073709551618)),(.func (.yield (nat_lit 1)) ⟨[vi0,vi1,yy100]⟩ ⟨[]⟩),yy102]))),((nat_lit 2), (some (.cells [vi0,vi1,yy101]))),((nat_lit 6), none),((nat_lit 10), (some (.cells [(.func (.yield (nat_lit 6)) ⟨[vi0,vm59,(.func (.yield (nat_lit 2)) ⟨[vi0,(.func (.yield (nat_lit 1)) ⟨[vi0,vm2,yy140]⟩ ⟨[]⟩),yy142]⟩ ⟨[]⟩)]⟩ ⟨[]⟩),(.func (.yield (nat_lit 7)) ⟨[vi0,vi60,(.func (.yield (nat_lit 1)) ⟨[vi0,(.func (.yield (nat_lit 1)) ⟨[vi0,vm2,yy140]⟩ ⟨[]⟩),yy144]⟩ ⟨[]⟩)]⟩ ⟨[]⟩)]))),((nat_lit 14), (some (.cells [(.func (.yield (nat_lit 6)) ⟨[vi0,vm59,(.func (.yield (nat_lit 2)) ⟨[vi0,(.func (.yield (nat_lit 1)) ⟨[vi0,vm2,yy140]⟩ ⟨[]⟩),yy142]⟩ ⟨[]⟩)]⟩ ⟨[]⟩),(.func (.yield (nat_lit 7)) ⟨[vi0,vi60,(.func (.yield (nat_lit 1)) ⟨[vi0,(.func (.yield (nat_lit 1)) ⟨[vi0,vm2,yy140]⟩ ⟨[]⟩),yy144]⟩ ⟨[]⟩)]⟩ ⟨[]⟩)])))]⟩
theorem run1_ok {s : Int} (hS : @SymOK (jobRho s) asm1) : @CFact (jobRho s) Try.prog run1 := @cfact (jobRho s) asm1 hS Try.prog (@mixed (jobRho s) asm1 hS) tab (@tab_ok (jobRho s) asm1 hS) jobKb (@jobKb_ok asm1 s hS) run1 10000 (by kernel_rfl) (by kernel_rfl)
end
end Go.Sim
/- A job of a pot: one run. -/
namespace Go.Sim
set_option linter.all false
open Go Go.RowKit Go.Proofs Go.Proofs.Ytdficjnnlaicpaa
set_option maxRecDepth 1000000
noncomputable section
abbrev asm2 : Asm := ⟨[((.func (.yield (nat_lit 21)) ⟨[vi0,yy139]⟩ ⟨[]⟩),true),((.func (.yield (nat_lit 21)) ⟨[vi0,(.func (.yield (nat_lit 2)) ⟨[vi0,yy139,vi1]⟩ ⟨[]⟩)]⟩ ⟨[]⟩),true),((.func (.yield (nat_lit 21)) ⟨[vi0,(.func (.yield (nat_lit 2)) ⟨[vi0,(.func (.yield (nat_lit 2)) ⟨[vi0,yy139,vi1]⟩ ⟨[]⟩),vi1]⟩ ⟨[]⟩)]⟩ ⟨[]⟩),false)]⟩
def run2 : Chg := ⟨.func (.func (nat_lit 7)) ⟨[]⟩ ⟨[]⟩, [.pointer (some ⟨(nat_lit 0), (nat_lit 0), none⟩), .int .i64 (.ofNat (nat_lit 9)), .int .i64 (.ofNat (nat_lit 4))], ⟨layB [.cells [sy .u64 (nat_lit 0)]] (nat_lit 0) .e, (nat_lit 1), (nat_lit 1), []⟩, (.agg ⟨[(.func (.yield (nat_lit 6)) ⟨[vi0,vm59,(.func (.yield (nat_lit 2)) ⟨[vi0,(.func (.yield (nat_lit 1)) ⟨[vi0,vm15,yy103]⟩ ⟨[]⟩),yy105]⟩ ⟨[]⟩)]⟩ ⟨[]⟩),(.func (.yield (nat_lit 7)) ⟨[vi0,vi60,(.func (.yield (nat_lit 1)) ⟨[vi0,(.func (.yield (nat_lit 1)) ⟨[vi0,vm15,yy103]⟩ ⟨[]⟩),yy107]⟩ ⟨[]⟩)]⟩ ⟨[]⟩),(.func (.yield (nat_lit 6)) ⟨[vi0,vi0,(.func (.yield (nat_lit 2)) ⟨[vi0,(.func (.yield (nat_lit 1)) ⟨[vi0,vi20,yy108]⟩ ⟨[]⟩),yy110]⟩ ⟨[]⟩)]⟩ ⟨[]⟩),(.func (.yield (nat_lit 7)) ⟨[vi0,vi100,(.func (.yield (nat_lit 1)) ⟨[vi0,(.func (.yield (nat_lit 1)) ⟨[vi0,vi20,yy108]⟩ ⟨[]⟩),yy112]⟩ ⟨[]⟩)]⟩ ⟨[]⟩),(.func (.yield (nat_lit 6)) ⟨[vi0,vi0,(.func (.yield (nat_lit 2)) ⟨[vi0,(.func (.yield (nat_lit 1)) ⟨[vi0,vi20,yy113]⟩ ⟨[]⟩),yy115]⟩ ⟨[]⟩)]⟩ ⟨[]⟩),(.func (.yield (nat_lit 7)) ⟨[vi0,vi100,(.func (.yield (nat_lit 1)) ⟨[vi0,(.func (.yield (nat_lit 1)) ⟨[vi0,vi20,yy113]⟩ ⟨[]⟩),yy117]⟩ ⟨[]⟩)]⟩ ⟨[]⟩),(.func (.yield (nat_lit 6)) ⟨[vi0,vi0,(.func (.yield (nat_lit 2)) ⟨[vi0,(.func (.yield (nat_lit 1)) ⟨[vi0,vi1,yy118]⟩ ⟨[]⟩),yy120]⟩ ⟨[]⟩)]⟩ ⟨[]⟩),(.func (.yield (nat_lit 7)) ⟨[vi0,vi12,(.func (.yield (nat_lit 1)) ⟨[vi0,(.func (.yield (nat_lit 1)) ⟨[vi0,vi1,yy118]⟩ ⟨[]⟩),yy122]⟩ ⟨[]⟩)]⟩ ⟨[]⟩),(.func (.yield (nat_lit 6)) ⟨[vi0,vi0,(.func (.yield (nat_lit 2)) ⟨[vi0,(.func (.yield (nat_lit 1)) ⟨[vi0,vi1,yy123]⟩ ⟨[]⟩),yy125]⟩ ⟨[]⟩)]⟩ ⟨[]⟩),(.func (.yield (nat_lit 7)) ⟨[vi0,vi12,(.func (.yield (nat_lit 1)) ⟨[vi0,(.func (.yield (nat_lit 1)) ⟨[vi0,vi1,yy123]⟩ ⟨[]⟩),yy127]⟩ ⟨[]⟩)]⟩ ⟨[]⟩),(.func (.yield (nat_lit 6)) ⟨[vi0,vi0,(.func (.yield (nat_lit 2)) ⟨[vi0,yy128,yy130]⟩ ⟨[]⟩)]⟩ ⟨[]⟩),(.func (.yield (nat_lit 7)) ⟨[vi0,vi12,(.func (.yield (nat_lit 1)) ⟨[vi0,yy128,yy132]⟩ ⟨[]⟩)]⟩ ⟨[]⟩),(.func (.yield (nat_lit 6)) ⟨[vi0,vi0,(.func (.yield (nat_lit 2)) ⟨[vi0,yy133,yy135]⟩ ⟨[]⟩)]⟩ ⟨[]⟩),(.func (.yield (nat_lit 7)) ⟨[vi0,vi12,(.func (.yield (nat_lit 1)) ⟨[vi0,yy133,yy137]⟩ ⟨[]⟩)]⟩ ⟨[]⟩),(.func (.yield (nat_lit 1)) ⟨[vi0,vi10,yy138]⟩ ⟨[]⟩),(.slice (some ⟨(nat_lit 25),(nat_lit 0),none⟩) (nat_lit 2) (nat_lit 18446744073709551618)),(.func (.yield (nat_lit 1)) ⟨[vi0,vi1,yy100]⟩ ⟨[]⟩),yy102]⟩), (nat_lit 26), [(nat_lit 0)], [((nat_lit 0), (some (.cells [(.func (.yield (nat_lit 0)) ⟨[(.int .u64 (.ofNat (nat_lit 50)))]⟩ ⟨[]⟩)]))),((nat_lit 1), (some (.cells [(.func (.yield (nat_lit 6)) ⟨[vi0,vm59,(.func (.yield (nat_lit 2)) ⟨[vi0,(.func (.yield (nat_lit 1)) ⟨[vi0,vm15,yy103]⟩ ⟨[]⟩),yy105]⟩ ⟨[]⟩)]⟩ ⟨[]⟩),(.func (.yield (nat_lit 7)) ⟨[vi0,vi60,(.func (.yield (nat_lit 1)) ⟨[vi0,(.func (.yield (nat_lit 1)) ⟨[vi0,vm15,yy103]⟩ ⟨[]⟩),yy107]⟩ ⟨[]⟩)]⟩ ⟨[]⟩),(.func (.yield (nat_lit 6)) ⟨[vi0,vi0,(.func (.yield (nat_lit 2)) ⟨[vi0,(.func (.yield (nat_lit 1)) ⟨[vi0,vi20,yy108]⟩ ⟨[]⟩),yy110]⟩ ⟨[]⟩)]⟩ ⟨[]⟩),(.func (.yield (nat_lit 7)) ⟨[vi0,vi100,(.func (.yield (nat_lit 1)) ⟨[vi0,(.func (.yield (nat_lit 1)) ⟨[vi0,vi20,yy108]⟩ ⟨[]⟩),yy112]⟩ ⟨[]⟩)]⟩ ⟨[]⟩),(.func (.yield (nat_lit 6)) ⟨[vi0,vi0,(.func (.yield (nat_lit 2)) ⟨[vi0,(.func (.yield (nat_lit 1)) ⟨[vi0,vi20,yy113]⟩ ⟨[]⟩),yy115]⟩ ⟨[]⟩)]⟩ ⟨[]⟩),(.func (.yield (nat_lit 7)) ⟨[vi0,vi100,(.func (.yield (nat_lit 1)) ⟨[vi0,(.func (.yield (nat_lit 1)) ⟨[vi0,vi20,yy113]⟩ ⟨[]⟩),yy117]⟩ ⟨[]⟩)]⟩ ⟨[]⟩),(.func (.yield (nat_lit 6)) ⟨[vi0,vi0,(.func (.yield (nat_lit 2)) ⟨[vi0,(.func (.yield (nat_lit 1)) ⟨[vi0,vi1,yy118]⟩ ⟨[]⟩),yy120]⟩ ⟨[]⟩)]⟩ ⟨[]⟩),(.func (.yield (nat_lit 7)) ⟨[vi0,vi12,(.func (.yield (nat_lit 1)) ⟨[vi0,(.func (.yield (nat_lit 1)) ⟨[vi0,vi1,yy118]⟩ ⟨[]⟩),yy122]⟩ ⟨[]⟩)]⟩ ⟨[]⟩),(.func (.yield (nat_lit 6)) ⟨[vi0,vi0,(.func (.yield (nat_lit 2)) ⟨[vi0,(.func (.yield (nat_lit 1)) ⟨[vi0,vi1,yy123]⟩ ⟨[]⟩),yy125]⟩ ⟨[]⟩)]⟩ ⟨[]⟩),(.func (.yield (nat_lit 7)) ⟨[vi0,vi12,(.func (.yield (nat_lit 1)) ⟨[vi0,(.func (.yield (nat_lit 1)) ⟨[vi0,vi1,yy123]⟩ ⟨[]⟩),yy127]⟩ ⟨[]⟩)]⟩ ⟨[]⟩),(.func (.yield (nat_lit 6)) ⟨[vi0,vi0,(.func (.yield (nat_lit 2)) ⟨[vi0,yy128,yy130]⟩ ⟨[]⟩)]⟩ ⟨[]⟩),(.func (.yield (nat_lit 7)) ⟨[vi0,vi12,(.func (.yield (nat_lit 1)) ⟨[vi0,yy128,yy132]⟩ ⟨[]⟩)]⟩ ⟨[]⟩),(.func (.yield (nat_lit 6)) ⟨[vi0,vi0,(.func (.yield (nat_lit 2)) ⟨[vi0,yy133,yy135]⟩ ⟨[]⟩)]⟩ ⟨[]⟩),(.func (.yield (nat_lit 7)) ⟨[vi0,vi12,(.func (.yield (nat_lit 1)) ⟨[vi0,yy133,yy137]⟩ ⟨[]⟩)]⟩ ⟨[]⟩),(.func (.yield (nat_lit 1)) ⟨[vi0,vi10,yy138]⟩ ⟨[]⟩),(.slice (some ⟨(nat_lit 25),(nat_lit 0),none⟩) (nat_lit 2) (nat_lit 18446744073709551618)),(.func (.yield (nat_lit 1)) ⟨[vi0,vi1,yy100]⟩ ⟨[]⟩),yy102]))),((nat_lit 3), (some (.cells [(.func (.yield (nat_lit 6)) ⟨[vi0,vm59,(.func (.yield (nat_lit 2)) ⟨[vi0,(.func (.yield (nat_lit 1)) ⟨[vi0,vm15,yy103]⟩ ⟨[]⟩),yy105]⟩ ⟨[]⟩)]⟩ ⟨[]⟩),(.func (.yield (nat_lit 7)) ⟨[vi0,vi60,(.func (.yield (nat_lit 1)) ⟨[vi0,(.func (.yield (nat_lit 1)) ⟨[vi0,vm15,yy103]⟩ ⟨[]⟩),yy107]⟩ ⟨[]⟩)]⟩ ⟨[]⟩),(.func (.yield (nat_lit 6)) ⟨[vi0,vi0,(.func (.yield (nat_lit 2)) ⟨[vi0,(.func (.yield (nat_lit 1)) ⟨[vi0,vi20,yy108]⟩ ⟨[]⟩),yy110]⟩ ⟨[]⟩)]⟩ ⟨[]⟩),(.func (.yield (nat_lit 7)) ⟨[vi0,vi100,(.func (.yield (nat_lit 1)) ⟨[vi0,(.func (.yield (nat_lit 1)) ⟨[vi0,vi20,yy108]⟩ ⟨[]⟩),yy112]⟩ ⟨[]⟩)]⟩ ⟨[]⟩),(.func (.yield (nat_lit 6)) ⟨[vi0,vi0,(.func (.yield (nat_lit 2)) ⟨[vi0,(.func (.yield (nat_lit 1)) ⟨[vi0,vi20,yy113]⟩ ⟨[]⟩),yy115]⟩ ⟨[]⟩)]⟩ ⟨[]⟩),(.func (.yield (nat_lit 7)) ⟨[vi0,vi100,(.func (.yield (nat_lit 1)) ⟨[vi0,(.func (.yield (nat_lit 1)) ⟨[vi0,vi20,yy113]⟩ ⟨[]⟩),yy117]⟩ ⟨[]⟩)]⟩ ⟨[]⟩),(.func (.yield (nat_lit 6)) ⟨[vi0,vi0,(.func (.yield (nat_lit 2)) ⟨[vi0,(.func (.yield (nat_lit 1)) ⟨[vi0,vi1,yy118]⟩ ⟨[]⟩),yy120]⟩ ⟨[]⟩)]⟩ ⟨[]⟩),(.func (.yield (nat_lit 7)) ⟨[vi0,vi12,(.func (.yield (nat_lit 1)) ⟨[vi0,(.func (.yield (nat_lit 1)) ⟨[vi0,vi1,yy118]⟩ ⟨[]⟩),yy122]⟩ ⟨[]⟩)]⟩ ⟨[]⟩),(.func (.yield (nat_lit 6)) ⟨[vi0,vi0,(.func (.yield (nat_lit 2)) ⟨[vi0,(.func (.yield (nat_lit 1)) ⟨[vi0,vi1,yy123]⟩ ⟨[]⟩),yy125]⟩ ⟨[]⟩)]⟩ ⟨[]⟩),(.func (.yield (nat_lit 7)) ⟨[vi0,vi12,(.func (.yield (nat_lit 1)) ⟨[vi0,(.func (.yield (nat_lit 1)) ⟨[vi0,vi1,yy123]⟩ ⟨[]⟩),yy127]⟩ ⟨[]⟩)]⟩ ⟨[]⟩),(.func (.yield (nat_lit 6)) ⟨[vi0,vi0,(.func (.yield (nat_lit 2)) ⟨[vi0,yy128,yy130]⟩ ⟨[]⟩)]⟩ ⟨[]⟩),(.func (.yield (nat_lit 7)) ⟨[vi0,vi12,(.func (.yield (nat_lit 1)) ⟨[vi0,yy128,yy132]⟩ ⟨[]⟩)]⟩ ⟨[]⟩),(.func (.yield (nat_lit 6)) ⟨[vi0,vi0,(.func (.yield (nat_lit 2)) ⟨[vi0,yy133,yy135]⟩ ⟨[]⟩)]⟩ ⟨[]⟩),(.func (.yield (nat_lit 7)) ⟨[vi0,vi12,(.func (.yield (nat_lit 1)) ⟨[vi0,yy133,yy137]⟩ ⟨[]⟩)]⟩ ⟨[]⟩),(.func (.yield (nat_lit 1)) ⟨[vi0,vi10,yy138]⟩ ⟨[]⟩),(.slice (some ⟨(nat_lit 25),(nat_lit 0),none⟩) (nat_lit 2) (nat_lit 18446744073709551618)),(.func (.yield (nat_lit 1)) ⟨[vi0,vi1,yy100]⟩ ⟨[]⟩),yy102]))),((nat_lit 5), none),((nat_lit 9), none),((nat_lit 25), (some (.cells [(.func (.yield (nat_lit 6)) ⟨[vi0,vm59,(.func (.yield (nat_lit 2)) ⟨[vi0,(.func (.yield (nat_lit 1)) ⟨[vi0,vm2,yy140]⟩ ⟨[]⟩),yy142]⟩ ⟨[]⟩)]⟩ ⟨[]⟩),(.func (.yield (nat_lit 7)) ⟨[vi0,vi60,(.func (.yield (nat_lit 1)) ⟨[vi0,(.func (.yield (nat_lit 1)) ⟨[vi0,vm2,yy140]⟩ ⟨[]⟩),yy144]⟩ ⟨[]⟩)]⟩ ⟨[]⟩),(.func (.yield (nat_lit 6)) ⟨[vi0,vm59,(.func (.yield (nat_lit 2)) ⟨[vi0,(.func (.yield (nat_lit 1)) ⟨[vi0,vm2,yy145]⟩ ⟨[]⟩),yy147]⟩ ⟨[]⟩)]⟩ ⟨[]⟩),(.func (.yield (nat_lit 7)) ⟨[vi0,vi60,(.func (.yield (nat_lit 1)) ⟨[vi0,(.func (.yield (nat_lit 1)) ⟨[vi0,vm2,yy145]⟩ ⟨[]⟩),yy149]⟩ ⟨[]⟩)]⟩ ⟨[]⟩)]))),((nat_lit 13), none),((nat_lit 21), (some (.cells [(.func (.yield (nat_lit 6)) ⟨[vi0,vm59,(.func (.yield (nat_lit 2)) ⟨[vi0,(.func (.yield (nat_lit 1)) ⟨[vi0,vm2,yy145]⟩ ⟨[]⟩),yy147]⟩ ⟨[]⟩)]⟩ ⟨[]⟩),(.func (.yield (nat_lit 7)) ⟨[vi0,vi60,(.func (.yield (nat_lit 1)) ⟨[vi0,(.func (.yield (nat_lit 1)) ⟨[vi0,vm2,yy145]⟩ ⟨[]⟩),yy149]⟩ ⟨[]⟩)]⟩ ⟨[]⟩)]))),((nat_lit 2), (some (.cells [vi0,vi1,yy101]))),((nat_lit 6), none),((nat_lit 10), (some (.cells [(.func (.yield (nat_lit 6)) ⟨[vi0,vm59,(.func (.yield (nat_lit 2)) ⟨[vi0,(.func (.yield (nat_lit 1)) ⟨[vi0,vm2,yy140]⟩ ⟨[]⟩),yy142]⟩ ⟨[]⟩)]⟩ ⟨[]⟩),(.func (.yield (nat_lit 7)) ⟨[vi0,vi60,(.func (.yield (nat_lit 1)) ⟨[vi0,(.func (.yield (nat_lit 1)) ⟨[vi0,vm2,yy140]⟩ ⟨[]⟩),yy144]⟩ ⟨[]⟩)]⟩ ⟨[]⟩)]))),((nat_lit 14), none)]⟩
theorem run2_ok {s : Int} (hS : @SymOK (jobRho s) asm2) : @CFact (jobRho s) Try.prog run2 := @cfact (jobRho s) asm2 hS Try.prog (@mixed (jobRho s) asm2 hS) tab (@tab_ok (jobRho s) asm2 hS) jobKb (@jobKb_ok asm2 s hS) run2 10000 (by kernel_rfl) (by kernel_rfl)
end
end Go.Sim
