/- Part 10 of the proof: TabB, FactL, FactC, FactH0, FactH1, FactM, FactR, TxA. -/
import Derived.Lib.SplitLaws
import Derived.Lib.AtoiAllCases
import Derived.Lib.ItoaNum
import Derived.Lib.Join
import Derived.Test.YtljefjngmembkaaGreatDoorT09
import Derived.Test.YtljefjngmembkaaGreatDoorT08
namespace Go.Sim
set_option linter.all false
open Go
set_option maxRecDepth 1000000
variable [Rho] [Asm] [SymOK]
theorem t5_ok : compF Go.Proofs.Tryz.prog (nat_lit 5) = some t5 := by kernel_rfl
theorem t14_ok : compF Go.Proofs.Tryz.prog (nat_lit 14) = some t14 := by kernel_rfl
theorem t15_ok : compF Go.Proofs.Tryz.prog (nat_lit 15) = some t15 := by kernel_rfl
theorem t16_ok : compF Go.Proofs.Tryz.prog (nat_lit 16) = some t16 := by kernel_rfl
theorem t17_ok : compF Go.Proofs.Tryz.prog (nat_lit 17) = some t17 := by kernel_rfl
theorem t18_ok : compF Go.Proofs.Tryz.prog (nat_lit 18) = some t18 := by kernel_rfl
theorem t19_ok : compF Go.Proofs.Tryz.prog (nat_lit 19) = some t19 := by kernel_rfl
theorem t20_ok : compF Go.Proofs.Tryz.prog (nat_lit 20) = some t20 := by kernel_rfl
theorem t21_ok : compF Go.Proofs.Tryz.prog (nat_lit 21) = some t21 := by kernel_rfl
theorem t22_ok : compF Go.Proofs.Tryz.prog (nat_lit 22) = some t22 := by kernel_rfl
theorem t23_ok : compF Go.Proofs.Tryz.prog (nat_lit 23) = some t23 := by kernel_rfl
theorem t28_ok : compF Go.Proofs.Tryz.prog (nat_lit 28) = some t28 := by kernel_rfl
theorem t40_ok : compF Go.Proofs.Tryz.prog (nat_lit 40) = some t40 := by kernel_rfl
theorem t41_ok : compF Go.Proofs.Tryz.prog (nat_lit 41) = some t41 := by kernel_rfl
theorem t42_ok : compF Go.Proofs.Tryz.prog (nat_lit 42) = some t42 := by kernel_rfl
theorem t43_ok : compF Go.Proofs.Tryz.prog (nat_lit 43) = some t43 := by kernel_rfl
theorem t44_ok : compF Go.Proofs.Tryz.prog (nat_lit 44) = some t44 := by kernel_rfl
theorem t45_ok : compF Go.Proofs.Tryz.prog (nat_lit 45) = some t45 := by kernel_rfl
theorem t46_ok : compF Go.Proofs.Tryz.prog (nat_lit 46) = some t46 := by kernel_rfl
theorem t47_ok : compF Go.Proofs.Tryz.prog (nat_lit 47) = some t47 := by kernel_rfl
theorem t49_ok : compF Go.Proofs.Tryz.prog (nat_lit 49) = some t49 := by kernel_rfl
theorem t50_ok : compF Go.Proofs.Tryz.prog (nat_lit 50) = some t50 := by kernel_rfl
theorem t51_ok : compF Go.Proofs.Tryz.prog (nat_lit 51) = some t51 := by kernel_rfl
theorem t62_ok : compF Go.Proofs.Tryz.prog (nat_lit 62) = some t62 := by kernel_rfl
theorem t63_ok : compF Go.Proofs.Tryz.prog (nat_lit 63) = some t63 := by kernel_rfl
theorem t64_ok : compF Go.Proofs.Tryz.prog (nat_lit 64) = some t64 := by kernel_rfl
theorem t65_ok : compF Go.Proofs.Tryz.prog (nat_lit 65) = some t65 := by kernel_rfl
theorem t66_ok : compF Go.Proofs.Tryz.prog (nat_lit 66) = some t66 := by kernel_rfl
theorem t67_ok : compF Go.Proofs.Tryz.prog (nat_lit 67) = some t67 := by kernel_rfl
theorem t68_ok : compF Go.Proofs.Tryz.prog (nat_lit 68) = some t68 := by kernel_rfl
theorem t69_ok : compF Go.Proofs.Tryz.prog (nat_lit 69) = some t69 := by kernel_rfl
theorem t70_ok : compF Go.Proofs.Tryz.prog (nat_lit 70) = some t70 := by kernel_rfl
theorem t71_ok : compF Go.Proofs.Tryz.prog (nat_lit 71) = some t71 := by kernel_rfl
theorem t72_ok : compF Go.Proofs.Tryz.prog (nat_lit 72) = some t72 := by kernel_rfl
theorem t85_ok : compF Go.Proofs.Tryz.prog (nat_lit 85) = some t85 := by kernel_rfl
theorem t86_ok : compF Go.Proofs.Tryz.prog (nat_lit 86) = some t86 := by kernel_rfl
theorem all_ok : AllC Go.Proofs.Tryz.prog tabL := (.cons t5_ok rfl (.cons t14_ok rfl (.cons t15_ok rfl (.cons t16_ok rfl (.cons t17_ok rfl (.cons t18_ok rfl (.cons t19_ok rfl (.cons t20_ok rfl (.cons t21_ok rfl (.cons t22_ok rfl (.cons t23_ok rfl (.cons t28_ok rfl (.cons t40_ok rfl (.cons t41_ok rfl (.cons t42_ok rfl (.cons t43_ok rfl (.cons t44_ok rfl (.cons t45_ok rfl (.cons t46_ok rfl (.cons t47_ok rfl (.cons t49_ok rfl (.cons t50_ok rfl (.cons t51_ok rfl (.cons t62_ok rfl (.cons t63_ok rfl (.cons t64_ok rfl (.cons t65_ok rfl (.cons t66_ok rfl (.cons t67_ok rfl (.cons t68_ok rfl (.cons t69_ok rfl (.cons t70_ok rfl (.cons t71_ok rfl (.cons t72_ok rfl (.cons t85_ok rfl (.cons t86_ok rfl .nil))))))))))))))))))))))))))))))))))))
theorem tab_eq : tab = layT tabL := by kernel_rfl
theorem tab_ok : TabOK Go.Proofs.Tryz.prog tab := tabOK all_ok tab_eq
end Go.Sim
namespace Go.Sim
set_option linter.all false
open Go
set_option maxRecDepth 1000000
variable [Rho] [Asm] [SymOK]
open Go.Proofs Go.RowKit
noncomputable section
def vi0 : Value := (.int .i64 (.ofNat (nat_lit 0)))
def vi1 : Value := (.int .i64 (.ofNat (nat_lit 1)))
def vi10 : Value := (.int .i64 (.ofNat (nat_lit 10)))
def vi13 : Value := (.int .i64 (.ofNat (nat_lit 13)))
def vi2 : Value := (.int .i64 (.ofNat (nat_lit 2)))
def vi20 : Value := (.int .i64 (.ofNat (nat_lit 20)))
def vi24 : Value := (.int .i64 (.ofNat (nat_lit 24)))
def vi26 : Value := (.int .i64 (.ofNat (nat_lit 26)))
def vi28 : Value := (.int .i64 (.ofNat (nat_lit 28)))
def vi29 : Value := (.int .i64 (.ofNat (nat_lit 29)))
def vi3 : Value := (.int .i64 (.ofNat (nat_lit 3)))
def vi30 : Value := (.int .i64 (.ofNat (nat_lit 30)))
def vi31 : Value := (.int .i64 (.ofNat (nat_lit 31)))
def vi32 : Value := (.int .i64 (.ofNat (nat_lit 32)))
def vi37 : Value := (.int .i64 (.ofNat (nat_lit 37)))
def vi38 : Value := (.int .i64 (.ofNat (nat_lit 38)))
def vi39 : Value := (.int .i64 (.ofNat (nat_lit 39)))
def vi4 : Value := (.int .i64 (.ofNat (nat_lit 4)))
def vi40 : Value := (.int .i64 (.ofNat (nat_lit 40)))
def vi41 : Value := (.int .i64 (.ofNat (nat_lit 41)))
def vi5 : Value := (.int .i64 (.ofNat (nat_lit 5)))
def vi6 : Value := (.int .i64 (.ofNat (nat_lit 6)))
def vi7 : Value := (.int .i64 (.ofNat (nat_lit 7)))
def vi8 : Value := (.int .i64 (.ofNat (nat_lit 8)))
def vi9 : Value := (.int .i64 (.ofNat (nat_lit 9)))
def vm1 : Value := (.int .i64 (.negSucc (nat_lit 1)))
def vm10 : Value := (.int .i64 (.negSucc (nat_lit 10)))
def vm11 : Value := (.int .i64 (.negSucc (nat_lit 11)))
def vm12 : Value := (.int .i64 (.negSucc (nat_lit 12)))
def vm13 : Value := (.int .i64 (.negSucc (nat_lit 13)))
def vm14 : Value := (.int .i64 (.negSucc (nat_lit 14)))
def vm15 : Value := (.int .i64 (.negSucc (nat_lit 15)))
def vm16 : Value := (.int .i64 (.negSucc (nat_lit 16)))
def vm17 : Value := (.int .i64 (.negSucc (nat_lit 17)))
def vm18 : Value := (.int .i64 (.negSucc (nat_lit 18)))
def vm19 : Value := (.int .i64 (.negSucc (nat_lit 19)))
def vm2 : Value := (.int .i64 (.negSucc (nat_lit 2)))
def vm20 : Value := (.int .i64 (.negSucc (nat_lit 20)))
def vm3 : Value := (.int .i64 (.negSucc (nat_lit 3)))
def vm4 : Value := (.int .i64 (.negSucc (nat_lit 4)))
def vm5 : Value := (.int .i64 (.negSucc (nat_lit 5)))
def vm6 : Value := (.int .i64 (.negSucc (nat_lit 6)))
def vm7 : Value := (.int .i64 (.negSucc (nat_lit 7)))
def vm8 : Value := (.int .i64 (.negSucc (nat_lit 8)))
def vm9 : Value := (.int .i64 (.negSucc (nat_lit 9)))
theorem mixed : Go.Proofs.Tryz.prog.follows .mixedOrders = true := by kernel_rfl
end

end Go.Sim
namespace Go.Sim
set_option linter.all false
open Go
set_option maxRecDepth 1000000
variable [Rho] [Asm] [SymOK]
noncomputable section
def kb1_lg : List (Nat × List Gen) := []
def kb1_lc : List (Nat × List Chg) := []
def kb1 : Kb := { w := .e,g := .e,c := .e }
theorem kb1_ok : KbOK Go.Proofs.Tryz.prog kb1 := kbOK (lw := []) (lg := kb1_lg) (lc := kb1_lc) .nil .nil .nil (by kernel_rfl) (by kernel_rfl) (by kernel_rfl)
end

end Go.Sim
namespace Go.Sim
set_option linter.all false
open Go
set_option maxRecDepth 1000000
variable [Rho] [Asm] [SymOK]
noncomputable section
def hp0 : Value := .pointer (some ⟨(nat_lit 13),(nat_lit 0),none⟩)
def hp1 : Value := .pointer (some ⟨(nat_lit 16),(nat_lit 0),none⟩)
def hp2 : Value := .pointer (some ⟨(nat_lit 12),(nat_lit 0),none⟩)
def hp3 : Value := .pointer (some ⟨(nat_lit 17),(nat_lit 0),none⟩)
def ha0 : Value := .agg ⟨[vm11,vm11,vi30,vi32,vi40,vi41,vi4]⟩
def ha1 : Value := .agg ⟨[vi1,vi3]⟩
def ha2 : Value := .agg ⟨[vm8,vm8,vi26,vi30,vi39,vi40,vi1]⟩
def ha3 : Value := .agg ⟨[vi0,vi5]⟩
def ha4 : Value := .agg ⟨[vm5,vm5,vi26,vi30,vi40,vi41,vi2]⟩
def ha5 : Value := .agg ⟨[vi1,vi1]⟩
def ha6 : Value := .agg ⟨[vm5,vm4,vi26,vi30,vi40,vi41,vi2]⟩
def ha7 : Value := .agg ⟨[vm7,vm7,vi26,vi30,vi39,vi40,vi1]⟩
def ha8 : Value := .agg ⟨[vm4,vm4,vi26,vi30,vi40,vi41,vi2]⟩
def ha9 : Value := .agg ⟨[vm14,vm14,vi28,vi31,vi38,vi39,vi1]⟩
def ha10 : Value := .agg ⟨[vm11,vm11,vi28,vi31,vi39,vi40,vi2]⟩
def ha11 : Value := .agg ⟨[vm8,vm8,vi28,vi31,vi40,vi41,vi3]⟩
def ha12 : Value := .agg ⟨[vi1,vi2]⟩
def ha13 : Value := .agg ⟨[vm5,vm3,vi26,vi30,vi40,vi41,vi2]⟩
def ha14 : Value := .agg ⟨[vm4,vm3,vi26,vi30,vi40,vi41,vi2]⟩
def ha15 : Value := .agg ⟨[vm6,vm6,vi26,vi30,vi39,vi40,vi1]⟩
def ha16 : Value := .agg ⟨[vm3,vm3,vi26,vi30,vi40,vi41,vi2]⟩
def ha17 : Value := .agg ⟨[vm8,vm7,vi28,vi31,vi40,vi41,vi3]⟩
def ha18 : Value := .agg ⟨[vm13,vm13,vi28,vi31,vi38,vi39,vi1]⟩
def ha19 : Value := .agg ⟨[vm10,vm10,vi28,vi31,vi39,vi40,vi2]⟩
def ha20 : Value := .agg ⟨[vm7,vm7,vi28,vi31,vi40,vi41,vi3]⟩
def ha21 : Value := .agg ⟨[vm20,vm20,vi30,vi32,vi37,vi38,vi1]⟩
def ha22 : Value := .agg ⟨[vm17,vm17,vi30,vi32,vi38,vi39,vi2]⟩
def ha23 : Value := .agg ⟨[vm14,vm14,vi30,vi32,vi39,vi40,vi3]⟩
def ha24 : Value := .agg ⟨[vm11,vm10,vi30,vi32,vi40,vi41,vi4]⟩
def ha25 : Value := .agg ⟨[vm4,vm2,vi26,vi30,vi40,vi41,vi2]⟩
def ha26 : Value := .agg ⟨[vm3,vm2,vi26,vi30,vi40,vi41,vi2]⟩
def ha27 : Value := .agg ⟨[vm8,vm6,vi28,vi31,vi40,vi41,vi3]⟩
def ha28 : Value := .agg ⟨[vm7,vm6,vi28,vi31,vi40,vi41,vi3]⟩
def ha29 : Value := .agg ⟨[vm12,vm12,vi28,vi31,vi38,vi39,vi1]⟩
def ha30 : Value := .agg ⟨[vm9,vm9,vi28,vi31,vi39,vi40,vi2]⟩
def ha31 : Value := .agg ⟨[vm6,vm6,vi28,vi31,vi40,vi41,vi3]⟩
def ha32 : Value := .agg ⟨[vm11,vm9,vi30,vi32,vi40,vi41,vi4]⟩
def ha33 : Value := .agg ⟨[vm3,vm1,vi26,vi30,vi40,vi41,vi2]⟩
def ha34 : Value := .agg ⟨[vm7,vm5,vi28,vi31,vi40,vi41,vi3]⟩
def ha35 : Value := .agg ⟨[vm6,vm5,vi28,vi31,vi40,vi41,vi3]⟩
def ha36 : Value := .agg ⟨[vm5,vm5,vi26,vi30,vi39,vi40,vi1]⟩
def ha37 : Value := .agg ⟨[vm5,vm4,vi26,vi30,vi39,vi40,vi1]⟩
def ha38 : Value := .agg ⟨[vm4,vm4,vi26,vi30,vi39,vi40,vi1]⟩
def ha39 : Value := .agg ⟨[vm11,vm11,vi28,vi31,vi38,vi39,vi1]⟩
def ha40 : Value := .agg ⟨[vm8,vm8,vi28,vi31,vi39,vi40,vi2]⟩
def ha41 : Value := .agg ⟨[vm5,vm5,vi28,vi31,vi40,vi41,vi3]⟩
def ha42 : Value := .agg ⟨[vm10,vm8,vi30,vi32,vi40,vi41,vi4]⟩
def ha43 : Value := .agg ⟨[vm6,vm4,vi28,vi31,vi40,vi41,vi3]⟩
def ha44 : Value := .agg ⟨[vm5,vm4,vi28,vi31,vi40,vi41,vi3]⟩
def ha45 : Value := .agg ⟨[vm4,vm3,vi26,vi30,vi39,vi40,vi1]⟩
def ha46 : Value := .agg ⟨[vm3,vm3,vi26,vi30,vi39,vi40,vi1]⟩
def ha47 : Value := .agg ⟨[vm10,vm10,vi28,vi31,vi38,vi39,vi1]⟩
def ha48 : Value := .agg ⟨[vm7,vm7,vi28,vi31,vi39,vi40,vi2]⟩
def ha49 : Value := .agg ⟨[vm4,vm4,vi28,vi31,vi40,vi41,vi3]⟩
def ha50 : Value := .agg ⟨[vm19,vm19,vi30,vi32,vi37,vi38,vi1]⟩
def ha51 : Value := .agg ⟨[vm16,vm16,vi30,vi32,vi38,vi39,vi2]⟩
def ha52 : Value := .agg ⟨[vm13,vm13,vi30,vi32,vi39,vi40,vi3]⟩
def ha53 : Value := .agg ⟨[vm9,vm7,vi30,vi32,vi40,vi41,vi4]⟩
def ha54 : Value := .agg ⟨[vm5,vm3,vi28,vi31,vi40,vi41,vi3]⟩
def ha55 : Value := .agg ⟨[vm4,vm3,vi28,vi31,vi40,vi41,vi3]⟩
def ha56 : Value := .agg ⟨[vm3,vm2,vi26,vi30,vi39,vi40,vi1]⟩
def ha57 : Value := .agg ⟨[vm9,vm9,vi28,vi31,vi38,vi39,vi1]⟩
def ha58 : Value := .agg ⟨[vm6,vm6,vi28,vi31,vi39,vi40,vi2]⟩
def ha59 : Value := .agg ⟨[vm3,vm3,vi28,vi31,vi40,vi41,vi3]⟩
def ha60 : Value := .agg ⟨[vm18,vm18,vi30,vi32,vi37,vi38,vi1]⟩
def ha61 : Value := .agg ⟨[vm15,vm15,vi30,vi32,vi38,vi39,vi2]⟩
def ha62 : Value := .agg ⟨[vm12,vm12,vi30,vi32,vi39,vi40,vi3]⟩
def ha63 : Value := .agg ⟨[vm8,vm7,vi30,vi32,vi40,vi41,vi4]⟩
def ha64 : Value := .agg ⟨[vm5,vm3,vi26,vi30,vi39,vi40,vi1]⟩
def ha65 : Value := .agg ⟨[vm8,vm7,vi28,vi31,vi39,vi40,vi2]⟩
def ha66 : Value := .agg ⟨[vm17,vm17,vi30,vi32,vi37,vi38,vi1]⟩
def ha67 : Value := .agg ⟨[vm14,vm14,vi30,vi32,vi38,vi39,vi2]⟩
def ha68 : Value := .agg ⟨[vm11,vm11,vi30,vi32,vi39,vi40,vi3]⟩
def ha69 : Value := .agg ⟨[vm7,vm7,vi30,vi32,vi40,vi41,vi4]⟩
def ha70 : Value := .agg ⟨[vm4,vm2,vi26,vi30,vi39,vi40,vi1]⟩
def ha71 : Value := .agg ⟨[vm7,vm6,vi28,vi31,vi39,vi40,vi2]⟩
def ha72 : Value := .agg ⟨[vm16,vm16,vi30,vi32,vi37,vi38,vi1]⟩
def ha73 : Value := .agg ⟨[vm13,vm13,vi30,vi32,vi38,vi39,vi2]⟩
def ha74 : Value := .agg ⟨[vm10,vm10,vi30,vi32,vi39,vi40,vi3]⟩
def hc0 : Option LO := some (.cells [vi0])
def hc1 : Option LO := some (.cells [vm11,vm11,vi30,vi32,vi40,vi41])
def hc2 : Option LO := some (.cells [vi1])
def hc3 : Option LO := some (.cells [vm2,vi2])
def hc4 : Option LO := some (.cells [vm1,vi1,vi0,vi3])
def hc5 : Option LO := some (.cells [vm11,vm11])
def hc6 : Option LO := some (.cells [vm11,vm7])
def hc7 : Option LO := some (.cells [vm5,vi5])
def hc8 : Option LO := some (.cells [vm11,vm10,vi30,vi32,vi40,vi41])
def hc9 : Option LO := some (.cells [vi3])
def hc10 : Option LO := some (.cells [vm11,vm10])
def hc11 : Option LO := some (.cells [vm11,vm9,vi30,vi32,vi40,vi41])
def hc12 : Option LO := some (.cells [vm11,vm9])
def hc13 : Option LO := some (.cells [vm10,vm8,vi30,vi32,vi40,vi41])
def hc14 : Option LO := some (.cells [vm10,vm8])
def hc15 : Option LO := some (.cells [vm9,vm7,vi30,vi32,vi40,vi41])
def hc16 : Option LO := some (.cells [vm9,vm7])
def hc17 : Option LO := some (.cells [vm8,vm7,vi30,vi32,vi40,vi41])
def hc18 : Option LO := some (.cells [vm8,vm7])
def hc19 : Option LO := some (.cells [vm7,vm7,vi30,vi32,vi40,vi41])
def hc20 : Option LO := some (.cells [vm7,vm7])
def c0_0 : Chg := ⟨(.func (.func (nat_lit 69)) ⟨[]⟩ ⟨[hp0,hp1,hp2,hp3]⟩),[ha0],⟨(.n (.n (.n (.n (.n .e (some (.map (nat_lit 7) .true [])) .e) none .e) none (.n (.n .e hc0 .e) hc0 .e)) none (.n (.n (.n .e (some (.cells [(.func (.func (nat_lit 69)) ⟨[]⟩ ⟨[hp0,hp1,hp2,hp3]⟩)])) .e) (some (.cells [vm11,vm7,vi30,vi32,vi40,vi41,vi3,vi4,vi2,vi3,vi1,vi2,vi1,vi1,vi20,(.slice (some ⟨(nat_lit 8),(nat_lit 0),none⟩) (nat_lit 2) (nat_lit 2)),vi5,vi1])) (.n .e hc1 .e)) none (.n (.n .e hc2 .e) hc3 .e))) none (.n (.n (.n (.n .e (some (.cells [(.map (some (nat_lit 15)))])) .e) hc4 (.n .e hc5 .e)) none (.n (.n .e hc6 .e) (some (.cells [vm11,vm7,vi30,vi32,vi40,vi41,vi3,vi4,vi2,vi3,vi1,vi2,vi1,vi1,vi20,(.slice (some ⟨(nat_lit 8),(nat_lit 0),none⟩) (nat_lit 2) (nat_lit 2)),vi5,vi1])) .e)) none (.n (.n (.n .e (some (.cells [(.func (.func (nat_lit 69)) ⟨[]⟩ ⟨[hp0,hp1,hp2,hp3]⟩)])) .e) hc0 .e) none (.n .e hc7 .e)))),(nat_lit 34),(nat_lit 24),[(nat_lit 23)]⟩,ha1,(nat_lit 34),[(nat_lit 15),(nat_lit 23)],[((nat_lit 15),(some (.map (nat_lit 7) .true [(ha2,ha3),(ha4,ha5),(ha6,ha5),(ha7,ha3),(ha8,ha5),(ha9,ha3),(ha10,ha3),(ha11,ha12),(ha13,ha5),(ha14,ha5),(ha15,ha3),(ha16,ha5),(ha17,ha12),(ha18,ha3),(ha19,ha3),(ha20,ha12),(ha21,ha3),(ha22,ha3),(ha23,ha3),(ha0,ha1)])))]⟩
theorem c0_0_ok : CFact Go.Proofs.Tryz.prog c0_0 := cfact mixed tab_ok kb1_ok (n := 10000) (by kernel_rfl) (by kernel_rfl)
def c0_1 : Chg := ⟨(.func (.func (nat_lit 69)) ⟨[]⟩ ⟨[hp0,hp1,hp2,hp3]⟩),[ha24],⟨(.n (.n (.n (.n (.n .e (some (.map (nat_lit 7) .true [(ha2,ha3),(ha4,ha5),(ha6,ha5),(ha7,ha3),(ha8,ha5),(ha9,ha3),(ha10,ha3),(ha11,ha12),(ha13,ha5),(ha14,ha5),(ha15,ha3),(ha16,ha5),(ha17,ha12),(ha18,ha3),(ha19,ha3),(ha20,ha12),(ha21,ha3),(ha22,ha3),(ha23,ha3),(ha0,ha1)])) .e) none .e) none (.n (.n (.n .e hc8 .e) hc9 .e) hc0 .e)) none (.n (.n (.n .e (some (.cells [(.func (.func (nat_lit 69)) ⟨[]⟩ ⟨[hp0,hp1,hp2,hp3]⟩)])) .e) (some (.cells [vm11,vm7,vi30,vi32,vi40,vi41,vi3,vi4,vi2,vi3,vi1,vi2,vi1,vi1,vi20,(.slice (some ⟨(nat_lit 8),(nat_lit 0),none⟩) (nat_lit 2) (nat_lit 2)),vi5,vi1])) (.n .e hc1 .e)) none (.n (.n .e hc2 .e) hc3 .e))) none (.n (.n (.n (.n .e (some (.cells [(.map (some (nat_lit 15)))])) .e) hc4 (.n .e hc5 .e)) none (.n (.n .e hc6 .e) (some (.cells [vm11,vm7,vi30,vi32,vi40,vi41,vi3,vi4,vi2,vi3,vi1,vi2,vi1,vi1,vi20,(.slice (some ⟨(nat_lit 8),(nat_lit 0),none⟩) (nat_lit 2) (nat_lit 2)),vi5,vi1])) .e)) none (.n (.n (.n (.n .e hc10 .e) (some (.cells [(.func (.func (nat_lit 69)) ⟨[]⟩ ⟨[hp0,hp1,hp2,hp3]⟩)])) .e) hc0 .e) none (.n .e hc7 .e)))),(nat_lit 44),(nat_lit 24),[(nat_lit 19),(nat_lit 15),(nat_lit 23)]⟩,ha1,(nat_lit 44),[(nat_lit 19),(nat_lit 15),(nat_lit 23)],[((nat_lit 15),(some (.map (nat_lit 7) .true [(ha2,ha3),(ha4,ha5),(ha6,ha5),(ha7,ha3),(ha8,ha5),(ha9,ha3),(ha10,ha3),(ha11,ha12),(ha13,ha5),(ha14,ha5),(ha15,ha3),(ha16,ha5),(ha17,ha12),(ha18,ha3),(ha19,ha3),(ha20,ha12),(ha21,ha3),(ha22,ha3),(ha23,ha3),(ha0,ha1),(ha25,ha5),(ha26,ha5),(ha27,ha12),(ha28,ha12),(ha29,ha3),(ha30,ha3),(ha31,ha12),(ha24,ha1)])))]⟩
theorem c0_1_ok : CFact Go.Proofs.Tryz.prog c0_1 := cfact mixed tab_ok kb1_ok (n := 10000) (by kernel_rfl) (by kernel_rfl)
def c0_2 : Chg := ⟨(.func (.func (nat_lit 69)) ⟨[]⟩ ⟨[hp0,hp1,hp2,hp3]⟩),[ha32],⟨(.n (.n (.n (.n (.n .e (some (.map (nat_lit 7) .true [(ha2,ha3),(ha4,ha5),(ha6,ha5),(ha7,ha3),(ha8,ha5),(ha9,ha3),(ha10,ha3),(ha11,ha12),(ha13,ha5),(ha14,ha5),(ha15,ha3),(ha16,ha5),(ha17,ha12),(ha18,ha3),(ha19,ha3),(ha20,ha12),(ha21,ha3),(ha22,ha3),(ha23,ha3),(ha0,ha1),(ha25,ha5),(ha26,ha5),(ha27,ha12),(ha28,ha12),(ha29,ha3),(ha30,ha3),(ha31,ha12),(ha24,ha1)])) .e) none .e) none (.n (.n (.n .e hc8 .e) hc9 .e) hc0 .e)) none (.n (.n (.n .e (some (.cells [(.func (.func (nat_lit 69)) ⟨[]⟩ ⟨[hp0,hp1,hp2,hp3]⟩)])) .e) (some (.cells [vm11,vm7,vi30,vi32,vi40,vi41,vi3,vi4,vi2,vi3,vi1,vi2,vi1,vi1,vi20,(.slice (some ⟨(nat_lit 8),(nat_lit 0),none⟩) (nat_lit 2) (nat_lit 2)),vi5,vi1])) (.n .e hc1 .e)) none (.n (.n .e hc2 .e) hc3 (.n (.n .e hc11 .e) none .e)))) none (.n (.n (.n (.n .e (some (.cells [(.map (some (nat_lit 15)))])) .e) hc4 (.n .e hc5 .e)) none (.n (.n .e hc6 .e) (some (.cells [vm11,vm7,vi30,vi32,vi40,vi41,vi3,vi4,vi2,vi3,vi1,vi2,vi1,vi1,vi20,(.slice (some ⟨(nat_lit 8),(nat_lit 0),none⟩) (nat_lit 2) (nat_lit 2)),vi5,vi1])) (.n (.n .e hc12 .e) none .e))) none (.n (.n (.n (.n .e hc10 .e) (some (.cells [(.func (.func (nat_lit 69)) ⟨[]⟩ ⟨[hp0,hp1,hp2,hp3]⟩)])) .e) hc0 .e) none (.n .e hc7 .e)))),(nat_lit 54),(nat_lit 24),[(nat_lit 19),(nat_lit 15),(nat_lit 23)]⟩,ha1,(nat_lit 54),[(nat_lit 19),(nat_lit 15),(nat_lit 23)],[((nat_lit 15),(some (.map (nat_lit 7) .true [(ha2,ha3),(ha4,ha5),(ha6,ha5),(ha7,ha3),(ha8,ha5),(ha9,ha3),(ha10,ha3),(ha11,ha12),(ha13,ha5),(ha14,ha5),(ha15,ha3),(ha16,ha5),(ha17,ha12),(ha18,ha3),(ha19,ha3),(ha20,ha12),(ha21,ha3),(ha22,ha3),(ha23,ha3),(ha0,ha1),(ha25,ha5),(ha26,ha5),(ha27,ha12),(ha28,ha12),(ha29,ha3),(ha30,ha3),(ha31,ha12),(ha24,ha1),(ha33,ha5),(ha34,ha12),(ha35,ha12),(ha36,ha5),(ha37,ha5),(ha38,ha5),(ha39,ha3),(ha40,ha12),(ha41,ha5),(ha32,ha1)])))]⟩
theorem c0_2_ok : CFact Go.Proofs.Tryz.prog c0_2 := cfact mixed tab_ok kb1_ok (n := 10000) (by kernel_rfl) (by kernel_rfl)
def c0_3 : Chg := ⟨(.func (.func (nat_lit 69)) ⟨[]⟩ ⟨[hp0,hp1,hp2,hp3]⟩),[ha42],⟨(.n (.n (.n (.n (.n .e (some (.map (nat_lit 7) .true [(ha2,ha3),(ha4,ha5),(ha6,ha5),(ha7,ha3),(ha8,ha5),(ha9,ha3),(ha10,ha3),(ha11,ha12),(ha13,ha5),(ha14,ha5),(ha15,ha3),(ha16,ha5),(ha17,ha12),(ha18,ha3),(ha19,ha3),(ha20,ha12),(ha21,ha3),(ha22,ha3),(ha23,ha3),(ha0,ha1),(ha25,ha5),(ha26,ha5),(ha27,ha12),(ha28,ha12),(ha29,ha3),(ha30,ha3),(ha31,ha12),(ha24,ha1),(ha33,ha5),(ha34,ha12),(ha35,ha12),(ha36,ha5),(ha37,ha5),(ha38,ha5),(ha39,ha3),(ha40,ha12),(ha41,ha5),(ha32,ha1)])) .e) none (.n .e none (.n .e hc13 .e))) none (.n (.n (.n .e hc8 .e) hc9 .e) hc0 .e)) none (.n (.n (.n .e (some (.cells [(.func (.func (nat_lit 69)) ⟨[]⟩ ⟨[hp0,hp1,hp2,hp3]⟩)])) .e) (some (.cells [vm11,vm7,vi30,vi32,vi40,vi41,vi3,vi4,vi2,vi3,vi1,vi2,vi1,vi1,vi20,(.slice (some ⟨(nat_lit 8),(nat_lit 0),none⟩) (nat_lit 2) (nat_lit 2)),vi5,vi1])) (.n .e hc1 .e)) none (.n (.n .e hc2 .e) hc3 (.n (.n .e hc11 .e) none .e)))) none (.n (.n (.n (.n .e (some (.cells [(.map (some (nat_lit 15)))])) .e) hc4 (.n .e hc5 .e)) none (.n (.n .e hc6 .e) (some (.cells [vm11,vm7,vi30,vi32,vi40,vi41,vi3,vi4,vi2,vi3,vi1,vi2,vi1,vi1,vi20,(.slice (some ⟨(nat_lit 8),(nat_lit 0),none⟩) (nat_lit 2) (nat_lit 2)),vi5,vi1])) (.n (.n .e hc12 .e) none .e))) none (.n (.n (.n (.n .e hc10 .e) (some (.cells [(.func (.func (nat_lit 69)) ⟨[]⟩ ⟨[hp0,hp1,hp2,hp3]⟩)])) .e) hc0 .e) none (.n (.n .e none (.n .e hc14 .e)) hc7 .e)))),(nat_lit 64),(nat_lit 24),[(nat_lit 19),(nat_lit 15),(nat_lit 23)]⟩,ha1,(nat_lit 64),[(nat_lit 19),(nat_lit 15),(nat_lit 23)],[((nat_lit 15),(some (.map (nat_lit 7) .true [(ha2,ha3),(ha4,ha5),(ha6,ha5),(ha7,ha3),(ha8,ha5),(ha9,ha3),(ha10,ha3),(ha11,ha12),(ha13,ha5),(ha14,ha5),(ha15,ha3),(ha16,ha5),(ha17,ha12),(ha18,ha3),(ha19,ha3),(ha20,ha12),(ha21,ha3),(ha22,ha3),(ha23,ha3),(ha0,ha1),(ha25,ha5),(ha26,ha5),(ha27,ha12),(ha28,ha12),(ha29,ha3),(ha30,ha3),(ha31,ha12),(ha24,ha1),(ha33,ha5),(ha34,ha12),(ha35,ha12),(ha36,ha5),(ha37,ha5),(ha38,ha5),(ha39,ha3),(ha40,ha12),(ha41,ha5),(ha32,ha1),(ha43,ha12),(ha44,ha5),(ha45,ha5),(ha46,ha5),(ha47,ha3),(ha48,ha12),(ha49,ha5),(ha50,ha3),(ha51,ha3),(ha52,ha3),(ha42,ha1)])))]⟩
theorem c0_3_ok : CFact Go.Proofs.Tryz.prog c0_3 := cfact mixed tab_ok kb1_ok (n := 10000) (by kernel_rfl) (by kernel_rfl)
def c0_4 : Chg := ⟨(.func (.func (nat_lit 69)) ⟨[]⟩ ⟨[hp0,hp1,hp2,hp3]⟩),[ha53],⟨(.n (.n (.n (.n (.n .e (some (.map (nat_lit 7) .true [(ha2,ha3),(ha4,ha5),(ha6,ha5),(ha7,ha3),(ha8,ha5),(ha9,ha3),(ha10,ha3),(ha11,ha12),(ha13,ha5),(ha14,ha5),(ha15,ha3),(ha16,ha5),(ha17,ha12),(ha18,ha3),(ha19,ha3),(ha20,ha12),(ha21,ha3),(ha22,ha3),(ha23,ha3),(ha0,ha1),(ha25,ha5),(ha26,ha5),(ha27,ha12),(ha28,ha12),(ha29,ha3),(ha30,ha3),(ha31,ha12),(ha24,ha1),(ha33,ha5),(ha34,ha12),(ha35,ha12),(ha36,ha5),(ha37,ha5),(ha38,ha5),(ha39,ha3),(ha40,ha12),(ha41,ha5),(ha32,ha1),(ha43,ha12),(ha44,ha5),(ha45,ha5),(ha46,ha5),(ha47,ha3),(ha48,ha12),(ha49,ha5),(ha50,ha3),(ha51,ha3),(ha52,ha3),(ha42,ha1)])) .e) none (.n .e none (.n .e hc13 .e))) none (.n (.n (.n .e hc8 .e) hc9 .e) hc0 .e)) none (.n (.n (.n (.n (.n .e hc15 .e) none .e) (some (.cells [(.func (.func (nat_lit 69)) ⟨[]⟩ ⟨[hp0,hp1,hp2,hp3]⟩)])) .e) (some (.cells [vm11,vm7,vi30,vi32,vi40,vi41,vi3,vi4,vi2,vi3,vi1,vi2,vi1,vi1,vi20,(.slice (some ⟨(nat_lit 8),(nat_lit 0),none⟩) (nat_lit 2) (nat_lit 2)),vi5,vi1])) (.n .e hc1 .e)) none (.n (.n .e hc2 .e) hc3 (.n (.n .e hc11 .e) none .e)))) none (.n (.n (.n (.n (.n (.n .e hc16 .e) none .e) (some (.cells [(.map (some (nat_lit 15)))])) .e) hc4 (.n .e hc5 .e)) none (.n (.n .e hc6 .e) (some (.cells [vm11,vm7,vi30,vi32,vi40,vi41,vi3,vi4,vi2,vi3,vi1,vi2,vi1,vi1,vi20,(.slice (some ⟨(nat_lit 8),(nat_lit 0),none⟩) (nat_lit 2) (nat_lit 2)),vi5,vi1])) (.n (.n .e hc12 .e) none .e))) none (.n (.n (.n (.n .e hc10 .e) (some (.cells [(.func (.func (nat_lit 69)) ⟨[]⟩ ⟨[hp0,hp1,hp2,hp3]⟩)])) .e) hc0 .e) none (.n (.n .e none (.n .e hc14 .e)) hc7 .e)))),(nat_lit 74),(nat_lit 24),[(nat_lit 19),(nat_lit 15),(nat_lit 23)]⟩,ha1,(nat_lit 74),[(nat_lit 19),(nat_lit 15),(nat_lit 23)],[((nat_lit 15),(some (.map (nat_lit 7) .true [(ha2,ha3),(ha4,ha5),(ha6,ha5),(ha7,ha3),(ha8,ha5),(ha9,ha3),(ha10,ha3),(ha11,ha12),(ha13,ha5),(ha14,ha5),(ha15,ha3),(ha16,ha5),(ha17,ha12),(ha18,ha3),(ha19,ha3),(ha20,ha12),(ha21,ha3),(ha22,ha3),(ha23,ha3),(ha0,ha1),(ha25,ha5),(ha26,ha5),(ha27,ha12),(ha28,ha12),(ha29,ha3),(ha30,ha3),(ha31,ha12),(ha24,ha1),(ha33,ha5),(ha34,ha12),(ha35,ha12),(ha36,ha5),(ha37,ha5),(ha38,ha5),(ha39,ha3),(ha40,ha12),(ha41,ha5),(ha32,ha1),(ha43,ha12),(ha44,ha5),(ha45,ha5),(ha46,ha5),(ha47,ha3),(ha48,ha12),(ha49,ha5),(ha50,ha3),(ha51,ha3),(ha52,ha3),(ha42,ha1),(ha54,ha5),(ha55,ha5),(ha56,ha5),(ha57,ha3),(ha58,ha12),(ha59,ha5),(ha60,ha3),(ha61,ha3),(ha62,ha3),(ha53,ha1)])))]⟩
theorem c0_4_ok : CFact Go.Proofs.Tryz.prog c0_4 := cfact mixed tab_ok kb1_ok (n := 10000) (by kernel_rfl) (by kernel_rfl)
def c0_5 : Chg := ⟨(.func (.func (nat_lit 69)) ⟨[]⟩ ⟨[hp0,hp1,hp2,hp3]⟩),[ha63],⟨(.n (.n (.n (.n (.n .e (some (.map (nat_lit 7) .true [(ha2,ha3),(ha4,ha5),(ha6,ha5),(ha7,ha3),(ha8,ha5),(ha9,ha3),(ha10,ha3),(ha11,ha12),(ha13,ha5),(ha14,ha5),(ha15,ha3),(ha16,ha5),(ha17,ha12),(ha18,ha3),(ha19,ha3),(ha20,ha12),(ha21,ha3),(ha22,ha3),(ha23,ha3),(ha0,ha1),(ha25,ha5),(ha26,ha5),(ha27,ha12),(ha28,ha12),(ha29,ha3),(ha30,ha3),(ha31,ha12),(ha24,ha1),(ha33,ha5),(ha34,ha12),(ha35,ha12),(ha36,ha5),(ha37,ha5),(ha38,ha5),(ha39,ha3),(ha40,ha12),(ha41,ha5),(ha32,ha1),(ha43,ha12),(ha44,ha5),(ha45,ha5),(ha46,ha5),(ha47,ha3),(ha48,ha12),(ha49,ha5),(ha50,ha3),(ha51,ha3),(ha52,ha3),(ha42,ha1),(ha54,ha5),(ha55,ha5),(ha56,ha5),(ha57,ha3),(ha58,ha12),(ha59,ha5),(ha60,ha3),(ha61,ha3),(ha62,ha3),(ha53,ha1)])) .e) none (.n .e none (.n .e hc13 .e))) none (.n (.n (.n .e hc8 .e) hc9 .e) hc0 (.n (.n (.n .e hc17 .e) none .e) none .e))) none (.n (.n (.n (.n (.n .e hc15 .e) none .e) (some (.cells [(.func (.func (nat_lit 69)) ⟨[]⟩ ⟨[hp0,hp1,hp2,hp3]⟩)])) .e) (some (.cells [vm11,vm7,vi30,vi32,vi40,vi41,vi3,vi4,vi2,vi3,vi1,vi2,vi1,vi1,vi20,(.slice (some ⟨(nat_lit 8),(nat_lit 0),none⟩) (nat_lit 2) (nat_lit 2)),vi5,vi1])) (.n .e hc1 .e)) none (.n (.n .e hc2 .e) hc3 (.n (.n .e hc11 .e) none .e)))) none (.n (.n (.n (.n (.n (.n .e hc16 .e) none .e) (some (.cells [(.map (some (nat_lit 15)))])) .e) hc4 (.n .e hc5 .e)) none (.n (.n .e hc6 .e) (some (.cells [vm11,vm7,vi30,vi32,vi40,vi41,vi3,vi4,vi2,vi3,vi1,vi2,vi1,vi1,vi20,(.slice (some ⟨(nat_lit 8),(nat_lit 0),none⟩) (nat_lit 2) (nat_lit 2)),vi5,vi1])) (.n (.n .e hc12 .e) none .e))) none (.n (.n (.n (.n .e hc10 .e) (some (.cells [(.func (.func (nat_lit 69)) ⟨[]⟩ ⟨[hp0,hp1,hp2,hp3]⟩)])) .e) hc0 (.n (.n (.n .e hc18 .e) none .e) none .e)) none (.n (.n .e none (.n .e hc14 .e)) hc7 .e)))),(nat_lit 84),(nat_lit 24),[(nat_lit 19),(nat_lit 15),(nat_lit 23)]⟩,ha12,(nat_lit 84),[(nat_lit 19),(nat_lit 15),(nat_lit 23)],[((nat_lit 15),(some (.map (nat_lit 7) .true [(ha2,ha3),(ha4,ha5),(ha6,ha5),(ha7,ha3),(ha8,ha5),(ha9,ha3),(ha10,ha3),(ha11,ha12),(ha13,ha5),(ha14,ha5),(ha15,ha3),(ha16,ha5),(ha17,ha12),(ha18,ha3),(ha19,ha3),(ha20,ha12),(ha21,ha3),(ha22,ha3),(ha23,ha3),(ha0,ha1),(ha25,ha5),(ha26,ha5),(ha27,ha12),(ha28,ha12),(ha29,ha3),(ha30,ha3),(ha31,ha12),(ha24,ha1),(ha33,ha5),(ha34,ha12),(ha35,ha12),(ha36,ha5),(ha37,ha5),(ha38,ha5),(ha39,ha3),(ha40,ha12),(ha41,ha5),(ha32,ha1),(ha43,ha12),(ha44,ha5),(ha45,ha5),(ha46,ha5),(ha47,ha3),(ha48,ha12),(ha49,ha5),(ha50,ha3),(ha51,ha3),(ha52,ha3),(ha42,ha1),(ha54,ha5),(ha55,ha5),(ha56,ha5),(ha57,ha3),(ha58,ha12),(ha59,ha5),(ha60,ha3),(ha61,ha3),(ha62,ha3),(ha53,ha1),(ha64,ha5),(ha65,ha12),(ha66,ha3),(ha67,ha3),(ha68,ha1),(ha63,ha12)])))]⟩
theorem c0_5_ok : CFact Go.Proofs.Tryz.prog c0_5 := cfact mixed tab_ok kb1_ok (n := 10000) (by kernel_rfl) (by kernel_rfl)
def c0_6 : Chg := ⟨(.func (.func (nat_lit 69)) ⟨[]⟩ ⟨[hp0,hp1,hp2,hp3]⟩),[ha69],⟨(.n (.n (.n (.n (.n .e (some (.map (nat_lit 7) .true [(ha2,ha3),(ha4,ha5),(ha6,ha5),(ha7,ha3),(ha8,ha5),(ha9,ha3),(ha10,ha3),(ha11,ha12),(ha13,ha5),(ha14,ha5),(ha15,ha3),(ha16,ha5),(ha17,ha12),(ha18,ha3),(ha19,ha3),(ha20,ha12),(ha21,ha3),(ha22,ha3),(ha23,ha3),(ha0,ha1),(ha25,ha5),(ha26,ha5),(ha27,ha12),(ha28,ha12),(ha29,ha3),(ha30,ha3),(ha31,ha12),(ha24,ha1),(ha33,ha5),(ha34,ha12),(ha35,ha12),(ha36,ha5),(ha37,ha5),(ha38,ha5),(ha39,ha3),(ha40,ha12),(ha41,ha5),(ha32,ha1),(ha43,ha12),(ha44,ha5),(ha45,ha5),(ha46,ha5),(ha47,ha3),(ha48,ha12),(ha49,ha5),(ha50,ha3),(ha51,ha3),(ha52,ha3),(ha42,ha1),(ha54,ha5),(ha55,ha5),(ha56,ha5),(ha57,ha3),(ha58,ha12),(ha59,ha5),(ha60,ha3),(ha61,ha3),(ha62,ha3),(ha53,ha1),(ha64,ha5),(ha65,ha12),(ha66,ha3),(ha67,ha3),(ha68,ha1),(ha63,ha12)])) .e) none (.n .e none (.n .e hc13 .e))) none (.n (.n (.n .e hc8 .e) hc9 .e) hc0 (.n (.n (.n .e hc17 .e) none .e) none .e))) none (.n (.n (.n (.n (.n .e hc15 .e) none .e) (some (.cells [(.func (.func (nat_lit 69)) ⟨[]⟩ ⟨[hp0,hp1,hp2,hp3]⟩)])) .e) (some (.cells [vm11,vm7,vi30,vi32,vi40,vi41,vi3,vi4,vi2,vi3,vi1,vi2,vi1,vi1,vi20,(.slice (some ⟨(nat_lit 8),(nat_lit 0),none⟩) (nat_lit 2) (nat_lit 2)),vi5,vi1])) (.n .e hc1 .e)) none (.n (.n .e hc2 (.n (.n .e hc19 .e) none .e)) hc3 (.n (.n .e hc11 .e) none .e)))) none (.n (.n (.n (.n (.n (.n .e hc16 .e) none .e) (some (.cells [(.map (some (nat_lit 15)))])) .e) hc4 (.n .e hc5 .e)) none (.n (.n .e hc6 (.n (.n .e hc20 .e) none .e)) (some (.cells [vm11,vm7,vi30,vi32,vi40,vi41,vi3,vi4,vi2,vi3,vi1,vi2,vi1,vi1,vi20,(.slice (some ⟨(nat_lit 8),(nat_lit 0),none⟩) (nat_lit 2) (nat_lit 2)),vi5,vi1])) (.n (.n .e hc12 .e) none .e))) none (.n (.n (.n (.n .e hc10 .e) (some (.cells [(.func (.func (nat_lit 69)) ⟨[]⟩ ⟨[hp0,hp1,hp2,hp3]⟩)])) .e) hc0 (.n (.n (.n .e hc18 .e) none .e) none .e)) none (.n (.n .e none (.n .e hc14 .e)) hc7 .e)))),(nat_lit 94),(nat_lit 24),[(nat_lit 19),(nat_lit 15),(nat_lit 23)]⟩,ha12,(nat_lit 94),[(nat_lit 19),(nat_lit 15),(nat_lit 23)],[((nat_lit 15),(some (.map (nat_lit 7) .true [(ha2,ha3),(ha4,ha5),(ha6,ha5),(ha7,ha3),(ha8,ha5),(ha9,ha3),(ha10,ha3),(ha11,ha12),(ha13,ha5),(ha14,ha5),(ha15,ha3),(ha16,ha5),(ha17,ha12),(ha18,ha3),(ha19,ha3),(ha20,ha12),(ha21,ha3),(ha22,ha3),(ha23,ha3),(ha0,ha1),(ha25,ha5),(ha26,ha5),(ha27,ha12),(ha28,ha12),(ha29,ha3),(ha30,ha3),(ha31,ha12),(ha24,ha1),(ha33,ha5),(ha34,ha12),(ha35,ha12),(ha36,ha5),(ha37,ha5),(ha38,ha5),(ha39,ha3),(ha40,ha12),(ha41,ha5),(ha32,ha1),(ha43,ha12),(ha44,ha5),(ha45,ha5),(ha46,ha5),(ha47,ha3),(ha48,ha12),(ha49,ha5),(ha50,ha3),(ha51,ha3),(ha52,ha3),(ha42,ha1),(ha54,ha5),(ha55,ha5),(ha56,ha5),(ha57,ha3),(ha58,ha12),(ha59,ha5),(ha60,ha3),(ha61,ha3),(ha62,ha3),(ha53,ha1),(ha64,ha5),(ha65,ha12),(ha66,ha3),(ha67,ha3),(ha68,ha1),(ha63,ha12),(ha70,ha5),(ha71,ha12),(ha72,ha3),(ha73,ha3),(ha74,ha1),(ha69,ha12)])))]⟩
theorem c0_6_ok : CFact Go.Proofs.Tryz.prog c0_6 := cfact mixed tab_ok kb1_ok (n := 10000) (by kernel_rfl) (by kernel_rfl)
def kbh0_lg : List (Nat × List Gen) := []
def kbh0_lc : List (Nat × List Chg) := [((nat_lit 69),[c0_0,c0_1,c0_2,c0_3,c0_4,c0_5,c0_6])]
def kbh0 : Kb := { w := .e,g := .e,c := (.n (.n .e none (.n .e none (.n (.n (.n (.n .e (some [c0_0,c0_1,c0_2,c0_3,c0_4,c0_5,c0_6]) .e) none .e) none .e) none .e))) none .e) }
theorem kbh0_ok : KbOK Go.Proofs.Tryz.prog kbh0 := kbOK (lw := []) (lg := kbh0_lg) (lc := kbh0_lc) .nil .nil (.cons (.cons c0_0_ok (.cons c0_1_ok (.cons c0_2_ok (.cons c0_3_ok (.cons c0_4_ok (.cons c0_5_ok (.cons c0_6_ok .nil))))))) rfl .nil) (by kernel_rfl) (by kernel_rfl) (by kernel_rfl)
def gh0 : Gen := ⟨(nat_lit 19),[(.agg ⟨[vm11,vm7,vi30,vi32,vi40,vi41,vi3,vi4,vi2,vi3,vi1,vi2,vi1,vi1,vi20,(.slice (some ⟨(nat_lit 8),(nat_lit 0),none⟩) (nat_lit 2) (nat_lit 2)),vi5,vi1]⟩)],none,(nat_lit 8),[(.cells [vm1,vi1,vi0,vi3])],(.tuple ⟨[vi3,vi0]⟩)⟩
theorem gh0_ok : GFact Go.Proofs.Tryz.prog gh0 := gfact mixed tab_ok kbh0_ok (n := 10000) (by kernel_rfl) (by kernel_rfl)
end

end Go.Sim
namespace Go.Sim
set_option linter.all false
open Go
set_option maxRecDepth 1000000
variable [Rho] [Asm] [SymOK]
noncomputable section
def gp0 : Value := .pointer (some ⟨(nat_lit 19),(nat_lit 0),none⟩)
def gp1 : Value := .pointer (some ⟨(nat_lit 22),(nat_lit 0),none⟩)
def gp2 : Value := .pointer (some ⟨(nat_lit 18),(nat_lit 0),none⟩)
def gp3 : Value := .pointer (some ⟨(nat_lit 23),(nat_lit 0),none⟩)
def ga0 : Value := .agg ⟨[vi7,vi7,vi28,vi31,vi40,vi41,vi3]⟩
def ga1 : Value := .agg ⟨[vi2,vi3]⟩
def ga2 : Value := .agg ⟨[vi13,vi13,vi24,vi29,vi40,vi41,vi1]⟩
def ga3 : Value := .agg ⟨[vi0,vi5]⟩
def ga4 : Value := .agg ⟨[vi7,vi7,vi26,vi30,vi39,vi40,vi1]⟩
def ga5 : Value := .agg ⟨[vi10,vi10,vi26,vi30,vi40,vi41,vi2]⟩
def ga6 : Value := .agg ⟨[vi4,vi4,vi28,vi31,vi39,vi40,vi2]⟩
def ga7 : Value := .agg ⟨[vi2,vi1]⟩
def ga8 : Value := .agg ⟨[vi1,vi3,vi28,vi31,vi38,vi39,vi1]⟩
def ga9 : Value := .agg ⟨[vi2,vi3,vi28,vi31,vi38,vi39,vi1]⟩
def ga10 : Value := .agg ⟨[vi3,vi3,vi28,vi31,vi38,vi39,vi1]⟩
def ga11 : Value := .agg ⟨[vi4,vi5,vi28,vi31,vi39,vi40,vi2]⟩
def ga12 : Value := .agg ⟨[vi2,vi2]⟩
def ga13 : Value := .agg ⟨[vi8,vi8,vi26,vi30,vi39,vi40,vi1]⟩
def ga14 : Value := .agg ⟨[vi5,vi5,vi28,vi31,vi39,vi40,vi2]⟩
def ga15 : Value := .agg ⟨[vi7,vi8,vi28,vi31,vi40,vi41,vi3]⟩
def ga16 : Value := .agg ⟨[vi2,vi4,vi28,vi31,vi38,vi39,vi1]⟩
def ga17 : Value := .agg ⟨[vi3,vi4,vi28,vi31,vi38,vi39,vi1]⟩
def ga18 : Value := .agg ⟨[vi4,vi4,vi28,vi31,vi38,vi39,vi1]⟩
def ga19 : Value := .agg ⟨[vi4,vi6,vi28,vi31,vi39,vi40,vi2]⟩
def ga20 : Value := .agg ⟨[vi5,vi6,vi28,vi31,vi39,vi40,vi2]⟩
def ga21 : Value := .agg ⟨[vi9,vi9,vi26,vi30,vi39,vi40,vi1]⟩
def ga22 : Value := .agg ⟨[vi6,vi6,vi28,vi31,vi39,vi40,vi2]⟩
def ga23 : Value := .agg ⟨[vi7,vi9,vi28,vi31,vi40,vi41,vi3]⟩
def ga24 : Value := .agg ⟨[vi3,vi5,vi28,vi31,vi38,vi39,vi1]⟩
def ga25 : Value := .agg ⟨[vi5,vi7,vi28,vi31,vi39,vi40,vi2]⟩
def ga26 : Value := .agg ⟨[vi1,vi3,vi30,vi32,vi39,vi40,vi3]⟩
def ga27 : Value := .agg ⟨[vi3,vi4,vi30,vi32,vi39,vi40,vi3]⟩
def ga28 : Value := .agg ⟨[vi2,vi4,vi30,vi32,vi39,vi40,vi3]⟩
def ga29 : Value := .agg ⟨[vi6,vi7,vi28,vi31,vi39,vi40,vi2]⟩
def ga30 : Value := .agg ⟨[vi4,vi4,vi30,vi32,vi39,vi40,vi3]⟩
def ga31 : Value := .agg ⟨[vi10,vi10,vi26,vi30,vi39,vi40,vi1]⟩
def ga32 : Value := .agg ⟨[vi4,vi5,vi28,vi31,vi38,vi39,vi1]⟩
def ga33 : Value := .agg ⟨[vi7,vi7,vi28,vi31,vi39,vi40,vi2]⟩
def gc0 : Option LO := some (.cells [vi7,vi10])
def gc1 : Option LO := some (.cells [vi7,vi7])
def gc2 : Option LO := some (.cells [vm2,vi2])
def gc3 : Option LO := some (.cells [vi0,vi0])
def gc4 : Option LO := some (.cells [vi1])
def gc5 : Option LO := some (.cells [vm1,vi1,vi0,vi3])
def gc6 : Option LO := some (.cells [vi4,vi6,vi30,vi32,vi40,vi41,vi4])
def gc7 : Option LO := some (.cells [vm5,vi5])
def gc8 : Option LO := some (.cells [vi0,vi5])
def gc9 : Option LO := some (.cells [vi0])
def gc10 : Option LO := some (.cells [vi7,vi8])
def gc11 : Option LO := some (.cells [vi4])
def gc12 : Option LO := some (.cells [vi7,vi9])
def gc13 : Option LO := some (.cells [vi1,vi1])
def gc14 : Option LO := some (.cells [vi1,vi4])
def gc15 : Option LO := some (.cells [vi1,vi3])
def gc16 : Option LO := some (.cells [vi2])
def gc17 : Option LO := some (.cells [vi1,vi2])
def gc18 : Option LO := some (.cells [vi6])
def gc19 : Option LO := some (.cells [vi3,vi4])
def gc20 : Option LO := some (.cells [vi2,vi4])
def gc21 : Option LO := some (.cells [vi4,vi4])
def c1_0 : Chg := ⟨(.func (.func (nat_lit 69)) ⟨[]⟩ ⟨[gp0,gp1,gp2,gp3]⟩),[ga0],⟨(.n (.n (.n (.n (.n (.n .e gc0 .e) none .e) none (.n .e (some (.cells [(.func (.func (nat_lit 69)) ⟨[]⟩ ⟨[gp0,gp1,gp2,gp3]⟩)])) .e)) none (.n (.n (.n .e gc1 .e) gc2 .e) none (.n .e (some (.cells [vi4,vi6,vi30,vi32,vi40,vi41,vi3,vi4,vi2,vi3,vi1,vi2,vi1,vi1,vi20,(.slice (some ⟨(nat_lit 8),(nat_lit 0),none⟩) (nat_lit 2) (nat_lit 2)),vi5,vi1])) .e))) none (.n (.n .e (some (.cells [vi4,vi6,vi30,vi32,vi40,vi41,vi3,vi4,vi2,vi3,vi1,vi2,vi1,vi1,vi20,(.slice (some ⟨(nat_lit 8),(nat_lit 0),none⟩) (nat_lit 2) (nat_lit 2)),vi5,vi1])) (.n .e gc3 .e)) none (.n (.n .e (some (.map (nat_lit 7) .true [])) .e) none (.n .e (some (.cells [vi7,vi7,vi28,vi31,vi40,vi41,vi3,vi4,vi2,vi3,vi1,vi2,vi1,vi1,vi20,(.slice (some ⟨(nat_lit 8),(nat_lit 0),none⟩) (nat_lit 2) (nat_lit 2)),vi5,vi1])) .e)))) none (.n (.n (.n (.n (.n .e gc4 .e) none .e) gc5 (.n .e gc6 .e)) none (.n (.n .e gc7 .e) none (.n .e gc4 .e))) none (.n (.n (.n .e (some (.cells [vi4,vi6,vi30,vi32,vi40,vi41,vi3,vi4,vi2,vi3,vi1,vi2,vi1,vi1,vi20,(.slice (some ⟨(nat_lit 8),(nat_lit 0),none⟩) (nat_lit 2) (nat_lit 2)),vi5,vi1])) .e) none (.n .e gc8 .e)) none (.n (.n .e (some (.cells [(.map (some (nat_lit 21)))])) .e) none (.n .e gc9 .e))))),(nat_lit 50),(nat_lit 35),[(nat_lit 29),(nat_lit 34)]⟩,ga1,(nat_lit 50),[(nat_lit 21),(nat_lit 29),(nat_lit 34)],[((nat_lit 21),(some (.map (nat_lit 7) .true [(ga2,ga3),(ga4,ga3),(ga5,ga3),(ga6,ga7),(ga8,ga7),(ga9,ga7),(ga10,ga7),(ga11,ga12),(ga13,ga3),(ga14,ga12),(ga0,ga1)])))]⟩
theorem c1_0_ok : CFact Go.Proofs.Tryz.prog c1_0 := cfact mixed tab_ok kb1_ok (n := 10000) (by kernel_rfl) (by kernel_rfl)
def c1_1 : Chg := ⟨(.func (.func (nat_lit 69)) ⟨[]⟩ ⟨[gp0,gp1,gp2,gp3]⟩),[ga15],⟨(.n (.n (.n (.n (.n (.n .e gc0 .e) none .e) none (.n .e (some (.cells [(.func (.func (nat_lit 69)) ⟨[]⟩ ⟨[gp0,gp1,gp2,gp3]⟩)])) .e)) none (.n (.n (.n .e gc1 .e) gc2 .e) none (.n .e (some (.cells [vi4,vi6,vi30,vi32,vi40,vi41,vi3,vi4,vi2,vi3,vi1,vi2,vi1,vi1,vi20,(.slice (some ⟨(nat_lit 8),(nat_lit 0),none⟩) (nat_lit 2) (nat_lit 2)),vi5,vi1])) .e))) none (.n (.n .e (some (.cells [vi4,vi6,vi30,vi32,vi40,vi41,vi3,vi4,vi2,vi3,vi1,vi2,vi1,vi1,vi20,(.slice (some ⟨(nat_lit 8),(nat_lit 0),none⟩) (nat_lit 2) (nat_lit 2)),vi5,vi1])) (.n .e gc3 .e)) none (.n (.n .e (some (.map (nat_lit 7) .true [(ga2,ga3),(ga4,ga3),(ga5,ga3),(ga6,ga7),(ga8,ga7),(ga9,ga7),(ga10,ga7),(ga11,ga12),(ga13,ga3),(ga14,ga12),(ga0,ga1)])) .e) none (.n .e (some (.cells [vi7,vi8,vi28,vi31,vi40,vi41,vi3,vi4,vi2,vi3,vi1,vi2,vi1,vi1,vi20,(.slice (some ⟨(nat_lit 8),(nat_lit 0),none⟩) (nat_lit 2) (nat_lit 2)),vi5,vi1])) .e)))) none (.n (.n (.n (.n (.n .e gc4 .e) none .e) gc5 (.n .e gc6 .e)) none (.n (.n .e gc7 .e) none (.n .e gc4 .e))) none (.n (.n (.n .e (some (.cells [vi4,vi6,vi30,vi32,vi40,vi41,vi3,vi4,vi2,vi3,vi1,vi2,vi1,vi1,vi20,(.slice (some ⟨(nat_lit 8),(nat_lit 0),none⟩) (nat_lit 2) (nat_lit 2)),vi5,vi1])) (.n .e gc10 .e)) none (.n .e gc8 .e)) none (.n (.n .e (some (.cells [(.map (some (nat_lit 21)))])) .e) none (.n .e gc11 .e))))),(nat_lit 65),(nat_lit 35),[(nat_lit 30),(nat_lit 21),(nat_lit 29),(nat_lit 34)]⟩,ga1,(nat_lit 65),[(nat_lit 30),(nat_lit 21),(nat_lit 29),(nat_lit 34)],[((nat_lit 21),(some (.map (nat_lit 7) .true [(ga2,ga3),(ga4,ga3),(ga5,ga3),(ga6,ga7),(ga8,ga7),(ga9,ga7),(ga10,ga7),(ga11,ga12),(ga13,ga3),(ga14,ga12),(ga0,ga1),(ga16,ga7),(ga17,ga7),(ga18,ga7),(ga19,ga12),(ga20,ga12),(ga21,ga3),(ga22,ga12),(ga15,ga1)])))]⟩
theorem c1_1_ok : CFact Go.Proofs.Tryz.prog c1_1 := cfact mixed tab_ok kb1_ok (n := 10000) (by kernel_rfl) (by kernel_rfl)
def c1_2 : Chg := ⟨(.func (.func (nat_lit 69)) ⟨[]⟩ ⟨[gp0,gp1,gp2,gp3]⟩),[ga23],⟨(.n (.n (.n (.n (.n (.n .e gc0 .e) none .e) none (.n .e (some (.cells [(.func (.func (nat_lit 69)) ⟨[]⟩ ⟨[gp0,gp1,gp2,gp3]⟩)])) .e)) none (.n (.n (.n .e gc1 .e) gc2 .e) none (.n .e (some (.cells [vi4,vi6,vi30,vi32,vi40,vi41,vi3,vi4,vi2,vi3,vi1,vi2,vi1,vi1,vi20,(.slice (some ⟨(nat_lit 8),(nat_lit 0),none⟩) (nat_lit 2) (nat_lit 2)),vi5,vi1])) .e))) none (.n (.n (.n (.n (.n .e gc12 .e) none .e) none .e) (some (.cells [vi4,vi6,vi30,vi32,vi40,vi41,vi3,vi4,vi2,vi3,vi1,vi2,vi1,vi1,vi20,(.slice (some ⟨(nat_lit 8),(nat_lit 0),none⟩) (nat_lit 2) (nat_lit 2)),vi5,vi1])) (.n .e gc3 .e)) none (.n (.n .e (some (.map (nat_lit 7) .true [(ga2,ga3),(ga4,ga3),(ga5,ga3),(ga6,ga7),(ga8,ga7),(ga9,ga7),(ga10,ga7),(ga11,ga12),(ga13,ga3),(ga14,ga12),(ga0,ga1),(ga16,ga7),(ga17,ga7),(ga18,ga7),(ga19,ga12),(ga20,ga12),(ga21,ga3),(ga22,ga12),(ga15,ga1)])) .e) none (.n .e (some (.cells [vi7,vi9,vi28,vi31,vi40,vi41,vi3,vi4,vi2,vi3,vi1,vi2,vi1,vi1,vi20,(.slice (some ⟨(nat_lit 8),(nat_lit 0),none⟩) (nat_lit 2) (nat_lit 2)),vi5,vi1])) .e)))) none (.n (.n (.n (.n (.n .e gc4 .e) none .e) gc5 (.n .e gc6 .e)) none (.n (.n .e gc7 .e) none (.n .e gc4 .e))) none (.n (.n (.n .e (some (.cells [vi4,vi6,vi30,vi32,vi40,vi41,vi3,vi4,vi2,vi3,vi1,vi2,vi1,vi1,vi20,(.slice (some ⟨(nat_lit 8),(nat_lit 0),none⟩) (nat_lit 2) (nat_lit 2)),vi5,vi1])) (.n .e gc10 .e)) none (.n .e gc8 .e)) none (.n (.n .e (some (.cells [(.map (some (nat_lit 21)))])) .e) none (.n .e gc11 .e))))),(nat_lit 80),(nat_lit 35),[(nat_lit 30),(nat_lit 21),(nat_lit 29),(nat_lit 34)]⟩,ga3,(nat_lit 80),[(nat_lit 30),(nat_lit 21),(nat_lit 29),(nat_lit 34)],[((nat_lit 21),(some (.map (nat_lit 7) .true [(ga2,ga3),(ga4,ga3),(ga5,ga3),(ga6,ga7),(ga8,ga7),(ga9,ga7),(ga10,ga7),(ga11,ga12),(ga13,ga3),(ga14,ga12),(ga0,ga1),(ga16,ga7),(ga17,ga7),(ga18,ga7),(ga19,ga12),(ga20,ga12),(ga21,ga3),(ga22,ga12),(ga15,ga1),(ga24,ga3),(ga25,ga3),(ga23,ga3)])))]⟩
theorem c1_2_ok : CFact Go.Proofs.Tryz.prog c1_2 := cfact mixed tab_ok kb1_ok (n := 10000) (by kernel_rfl) (by kernel_rfl)
def c1_3 : Chg := ⟨(.func (.func (nat_lit 69)) ⟨[]⟩ ⟨[gp0,gp1,gp2,gp3]⟩),[ga26],⟨(.n (.n (.n (.n (.n (.n .e gc0 .e) none .e) none (.n .e (some (.cells [(.func (.func (nat_lit 69)) ⟨[]⟩ ⟨[gp0,gp1,gp2,gp3]⟩)])) (.n (.n .e gc13 .e) none .e))) none (.n (.n (.n .e gc1 .e) gc2 (.n (.n .e gc14 .e) none .e)) none (.n .e (some (.cells [vi4,vi6,vi30,vi32,vi40,vi41,vi3,vi4,vi2,vi3,vi1,vi2,vi1,vi1,vi20,(.slice (some ⟨(nat_lit 8),(nat_lit 0),none⟩) (nat_lit 2) (nat_lit 2)),vi5,vi1])) .e))) none (.n (.n (.n (.n (.n .e gc12 .e) none .e) none (.n (.n .e (some (.cells [vi1,vi3,vi30,vi32,vi39,vi40,vi3,vi4,vi2,vi3,vi1,vi2,vi1,vi1,vi20,(.slice (some ⟨(nat_lit 8),(nat_lit 0),none⟩) (nat_lit 2) (nat_lit 2)),vi5,vi1])) .e) none .e)) (some (.cells [vi4,vi6,vi30,vi32,vi40,vi41,vi3,vi4,vi2,vi3,vi1,vi2,vi1,vi1,vi20,(.slice (some ⟨(nat_lit 8),(nat_lit 0),none⟩) (nat_lit 2) (nat_lit 2)),vi5,vi1])) (.n .e gc3 .e)) none (.n (.n .e (some (.map (nat_lit 7) .true [(ga2,ga3),(ga4,ga3),(ga5,ga3),(ga6,ga7),(ga8,ga7),(ga9,ga7),(ga10,ga7),(ga11,ga12),(ga13,ga3),(ga14,ga12),(ga0,ga1),(ga16,ga7),(ga17,ga7),(ga18,ga7),(ga19,ga12),(ga20,ga12),(ga21,ga3),(ga22,ga12),(ga15,ga1),(ga24,ga3),(ga25,ga3),(ga23,ga3)])) (.n .e none (.n .e gc15 .e))) none (.n .e (some (.cells [vi7,vi9,vi28,vi31,vi40,vi41,vi3,vi4,vi2,vi3,vi1,vi2,vi1,vi1,vi20,(.slice (some ⟨(nat_lit 8),(nat_lit 0),none⟩) (nat_lit 2) (nat_lit 2)),vi5,vi1])) .e)))) none (.n (.n (.n (.n (.n .e gc4 .e) none (.n (.n .e gc16 .e) none .e)) gc5 (.n .e gc6 .e)) none (.n (.n .e gc7 (.n (.n .e gc4 .e) none .e)) none (.n .e gc4 .e))) none (.n (.n (.n .e (some (.cells [vi4,vi6,vi30,vi32,vi40,vi41,vi3,vi4,vi2,vi3,vi1,vi2,vi1,vi1,vi20,(.slice (some ⟨(nat_lit 8),(nat_lit 0),none⟩) (nat_lit 2) (nat_lit 2)),vi5,vi1])) (.n (.n .e gc4 .e) gc10 .e)) none (.n .e gc8 .e)) none (.n (.n (.n .e none (.n .e gc17 .e)) (some (.cells [(.map (some (nat_lit 21)))])) .e) none (.n .e gc18 .e))))),(nat_lit 132),(nat_lit 87),[(nat_lit 82),(nat_lit 81),(nat_lit 86)]⟩,ga7,(nat_lit 132),[(nat_lit 21),(nat_lit 82),(nat_lit 81),(nat_lit 86)],[((nat_lit 21),(some (.map (nat_lit 7) .true [(ga2,ga3),(ga4,ga3),(ga5,ga3),(ga6,ga7),(ga8,ga7),(ga9,ga7),(ga10,ga7),(ga11,ga12),(ga13,ga3),(ga14,ga12),(ga0,ga1),(ga16,ga7),(ga17,ga7),(ga18,ga7),(ga19,ga12),(ga20,ga12),(ga21,ga3),(ga22,ga12),(ga15,ga1),(ga24,ga3),(ga25,ga3),(ga23,ga3),(ga26,ga7)])))]⟩
theorem c1_3_ok : CFact Go.Proofs.Tryz.prog c1_3 := cfact mixed tab_ok kb1_ok (n := 10000) (by kernel_rfl) (by kernel_rfl)
def c1_4 : Chg := ⟨(.func (.func (nat_lit 69)) ⟨[]⟩ ⟨[gp0,gp1,gp2,gp3]⟩),[ga27],⟨(.n (.n (.n (.n (.n (.n .e gc0 .e) none .e) none (.n .e (some (.cells [(.func (.func (nat_lit 69)) ⟨[]⟩ ⟨[gp0,gp1,gp2,gp3]⟩)])) (.n (.n .e gc13 .e) none .e))) none (.n (.n (.n .e gc1 .e) gc2 (.n (.n (.n .e gc19 .e) gc14 .e) none .e)) none (.n .e (some (.cells [vi4,vi6,vi30,vi32,vi40,vi41,vi3,vi4,vi2,vi3,vi1,vi2,vi1,vi1,vi20,(.slice (some ⟨(nat_lit 8),(nat_lit 0),none⟩) (nat_lit 2) (nat_lit 2)),vi5,vi1])) .e))) none (.n (.n (.n (.n (.n .e gc12 .e) none .e) none (.n (.n .e (some (.cells [vi3,vi4,vi30,vi32,vi39,vi40,vi3,vi4,vi2,vi3,vi1,vi2,vi1,vi1,vi20,(.slice (some ⟨(nat_lit 8),(nat_lit 0),none⟩) (nat_lit 2) (nat_lit 2)),vi5,vi1])) .e) none .e)) (some (.cells [vi4,vi6,vi30,vi32,vi40,vi41,vi3,vi4,vi2,vi3,vi1,vi2,vi1,vi1,vi20,(.slice (some ⟨(nat_lit 8),(nat_lit 0),none⟩) (nat_lit 2) (nat_lit 2)),vi5,vi1])) (.n .e gc3 .e)) none (.n (.n .e (some (.map (nat_lit 7) .true [(ga2,ga3),(ga4,ga3),(ga5,ga3),(ga6,ga7),(ga8,ga7),(ga9,ga7),(ga10,ga7),(ga11,ga12),(ga13,ga3),(ga14,ga12),(ga0,ga1),(ga16,ga7),(ga17,ga7),(ga18,ga7),(ga19,ga12),(ga20,ga12),(ga21,ga3),(ga22,ga12),(ga15,ga1),(ga24,ga3),(ga25,ga3),(ga23,ga3),(ga26,ga7),(ga28,ga7)])) (.n .e none (.n .e gc15 .e))) none (.n .e (some (.cells [vi7,vi9,vi28,vi31,vi40,vi41,vi3,vi4,vi2,vi3,vi1,vi2,vi1,vi1,vi20,(.slice (some ⟨(nat_lit 8),(nat_lit 0),none⟩) (nat_lit 2) (nat_lit 2)),vi5,vi1])) .e)))) none (.n (.n (.n (.n (.n .e gc4 .e) none (.n (.n .e gc16 .e) none .e)) gc5 (.n .e gc6 .e)) none (.n (.n (.n (.n (.n .e gc20 .e) none .e) none .e) gc7 (.n (.n .e gc4 .e) none .e)) none (.n .e gc4 .e))) none (.n (.n (.n .e (some (.cells [vi4,vi6,vi30,vi32,vi40,vi41,vi3,vi4,vi2,vi3,vi1,vi2,vi1,vi1,vi20,(.slice (some ⟨(nat_lit 8),(nat_lit 0),none⟩) (nat_lit 2) (nat_lit 2)),vi5,vi1])) (.n (.n .e gc16 .e) gc10 .e)) none (.n .e gc8 .e)) none (.n (.n (.n .e none (.n .e gc17 .e)) (some (.cells [(.map (some (nat_lit 21)))])) .e) none (.n .e gc18 .e))))),(nat_lit 162),(nat_lit 87),[(nat_lit 21),(nat_lit 82),(nat_lit 81),(nat_lit 86)]⟩,ga7,(nat_lit 162),[(nat_lit 21),(nat_lit 82),(nat_lit 81),(nat_lit 86)],[((nat_lit 21),(some (.map (nat_lit 7) .true [(ga2,ga3),(ga4,ga3),(ga5,ga3),(ga6,ga7),(ga8,ga7),(ga9,ga7),(ga10,ga7),(ga11,ga12),(ga13,ga3),(ga14,ga12),(ga0,ga1),(ga16,ga7),(ga17,ga7),(ga18,ga7),(ga19,ga12),(ga20,ga12),(ga21,ga3),(ga22,ga12),(ga15,ga1),(ga24,ga3),(ga25,ga3),(ga23,ga3),(ga26,ga7),(ga28,ga7),(ga29,ga3),(ga27,ga7)])))]⟩
theorem c1_4_ok : CFact Go.Proofs.Tryz.prog c1_4 := cfact mixed tab_ok kb1_ok (n := 10000) (by kernel_rfl) (by kernel_rfl)
def c1_5 : Chg := ⟨(.func (.func (nat_lit 69)) ⟨[]⟩ ⟨[gp0,gp1,gp2,gp3]⟩),[ga30],⟨(.n (.n (.n (.n (.n (.n .e gc0 .e) none .e) none (.n .e (some (.cells [(.func (.func (nat_lit 69)) ⟨[]⟩ ⟨[gp0,gp1,gp2,gp3]⟩)])) (.n (.n .e gc13 .e) none .e))) none (.n (.n (.n .e gc1 .e) gc2 (.n (.n (.n .e gc19 .e) gc14 .e) none .e)) none (.n .e (some (.cells [vi4,vi6,vi30,vi32,vi40,vi41,vi3,vi4,vi2,vi3,vi1,vi2,vi1,vi1,vi20,(.slice (some ⟨(nat_lit 8),(nat_lit 0),none⟩) (nat_lit 2) (nat_lit 2)),vi5,vi1])) .e))) none (.n (.n (.n (.n (.n .e gc12 .e) none .e) none (.n (.n .e (some (.cells [vi4,vi4,vi30,vi32,vi39,vi40,vi3,vi4,vi2,vi3,vi1,vi2,vi1,vi1,vi20,(.slice (some ⟨(nat_lit 8),(nat_lit 0),none⟩) (nat_lit 2) (nat_lit 2)),vi5,vi1])) .e) none .e)) (some (.cells [vi4,vi6,vi30,vi32,vi40,vi41,vi3,vi4,vi2,vi3,vi1,vi2,vi1,vi1,vi20,(.slice (some ⟨(nat_lit 8),(nat_lit 0),none⟩) (nat_lit 2) (nat_lit 2)),vi5,vi1])) (.n .e gc3 .e)) none (.n (.n .e (some (.map (nat_lit 7) .true [(ga2,ga3),(ga4,ga3),(ga5,ga3),(ga6,ga7),(ga8,ga7),(ga9,ga7),(ga10,ga7),(ga11,ga12),(ga13,ga3),(ga14,ga12),(ga0,ga1),(ga16,ga7),(ga17,ga7),(ga18,ga7),(ga19,ga12),(ga20,ga12),(ga21,ga3),(ga22,ga12),(ga15,ga1),(ga24,ga3),(ga25,ga3),(ga23,ga3),(ga26,ga7),(ga28,ga7),(ga29,ga3),(ga27,ga7)])) (.n .e none (.n .e gc15 .e))) none (.n .e (some (.cells [vi7,vi9,vi28,vi31,vi40,vi41,vi3,vi4,vi2,vi3,vi1,vi2,vi1,vi1,vi20,(.slice (some ⟨(nat_lit 8),(nat_lit 0),none⟩) (nat_lit 2) (nat_lit 2)),vi5,vi1])) .e)))) none (.n (.n (.n (.n (.n .e gc4 .e) none (.n (.n .e gc16 .e) none .e)) gc5 (.n .e gc6 .e)) none (.n (.n (.n (.n (.n .e gc20 .e) none .e) none .e) gc7 (.n (.n .e gc4 .e) none .e)) none (.n .e gc4 .e))) none (.n (.n (.n (.n .e none (.n (.n .e gc21 .e) none .e)) (some (.cells [vi4,vi6,vi30,vi32,vi40,vi41,vi3,vi4,vi2,vi3,vi1,vi2,vi1,vi1,vi20,(.slice (some ⟨(nat_lit 8),(nat_lit 0),none⟩) (nat_lit 2) (nat_lit 2)),vi5,vi1])) (.n (.n .e gc16 .e) gc10 .e)) none (.n .e gc8 .e)) none (.n (.n (.n .e none (.n .e gc17 .e)) (some (.cells [(.map (some (nat_lit 21)))])) .e) none (.n .e gc18 .e))))),(nat_lit 177),(nat_lit 87),[(nat_lit 21),(nat_lit 82),(nat_lit 81),(nat_lit 86)]⟩,ga7,(nat_lit 177),[(nat_lit 21),(nat_lit 82),(nat_lit 81),(nat_lit 86)],[((nat_lit 21),(some (.map (nat_lit 7) .true [(ga2,ga3),(ga4,ga3),(ga5,ga3),(ga6,ga7),(ga8,ga7),(ga9,ga7),(ga10,ga7),(ga11,ga12),(ga13,ga3),(ga14,ga12),(ga0,ga1),(ga16,ga7),(ga17,ga7),(ga18,ga7),(ga19,ga12),(ga20,ga12),(ga21,ga3),(ga22,ga12),(ga15,ga1),(ga24,ga3),(ga25,ga3),(ga23,ga3),(ga26,ga7),(ga28,ga7),(ga29,ga3),(ga27,ga7),(ga31,ga3),(ga32,ga3),(ga33,ga3),(ga30,ga7)])))]⟩
theorem c1_5_ok : CFact Go.Proofs.Tryz.prog c1_5 := cfact mixed tab_ok kb1_ok (n := 10000) (by kernel_rfl) (by kernel_rfl)
def kbh1_lg : List (Nat × List Gen) := []
def kbh1_lc : List (Nat × List Chg) := [((nat_lit 69),[c1_0,c1_1,c1_2,c1_3,c1_4,c1_5])]
def kbh1 : Kb := { w := .e,g := .e,c := (.n (.n .e none (.n .e none (.n (.n (.n (.n .e (some [c1_0,c1_1,c1_2,c1_3,c1_4,c1_5]) .e) none .e) none .e) none .e))) none .e) }
theorem kbh1_ok : KbOK Go.Proofs.Tryz.prog kbh1 := kbOK (lw := []) (lg := kbh1_lg) (lc := kbh1_lc) .nil .nil (.cons (.cons c1_0_ok (.cons c1_1_ok (.cons c1_2_ok (.cons c1_3_ok (.cons c1_4_ok (.cons c1_5_ok .nil)))))) rfl .nil) (by kernel_rfl) (by kernel_rfl) (by kernel_rfl)
def gh1 : Gen := ⟨(nat_lit 20),[(.agg ⟨[vi4,vi6,vi30,vi32,vi40,vi41,vi3,vi4,vi2,vi3,vi1,vi2,vi1,vi1,vi20,(.slice (some ⟨(nat_lit 8),(nat_lit 0),none⟩) (nat_lit 2) (nat_lit 2)),vi5,vi1]⟩)],none,(nat_lit 8),[(.cells [vm1,vi1,vi0,vi3])],(.tuple ⟨[vi2,vi2,vi0]⟩)⟩
theorem gh1_ok : GFact Go.Proofs.Tryz.prog gh1 := gfact mixed tab_ok kbh1_ok (n := 10000) (by kernel_rfl) (by kernel_rfl)
end

end Go.Sim
namespace Go.Sim
set_option linter.all false
open Go
set_option maxRecDepth 1000000
variable [Rho] [Asm] [SymOK]
noncomputable section
def kbm_lg : List (Nat × List Gen) := [((nat_lit 19),[gh0]),((nat_lit 20),[gh1])]
def kbm_lc : List (Nat × List Chg) := []
def kbm : Kb := { w := .e,g := (.n (.n (.n .e none (.n (.n .e (some [gh0]) .e) none .e)) none .e) none (.n (.n .e none (.n (.n .e (some [gh1]) .e) none .e)) none .e)),c := .e }
theorem kbm_ok : KbOK Go.Proofs.Tryz.prog kbm := kbOK (lw := []) (lg := kbm_lg) (lc := kbm_lc) .nil (.cons (.cons gh0_ok .nil) rfl (.cons (.cons gh1_ok .nil) rfl .nil)) .nil (by kernel_rfl) (by kernel_rfl) (by kernel_rfl)
end

end Go.Sim
namespace Go.Sim
set_option linter.all false
open Go
set_option maxRecDepth 1000000
variable [Rho] [Asm] [SymOK]
noncomputable section
def h0 : Tr LO := .e
def root : Chg := ⟨.func (.func (nat_lit 5)) ⟨[]⟩ ⟨[]⟩,[],S1 h0 (nat_lit 8),(.bool .true),(nat_lit 8),[],[]⟩
theorem root_ok : CFact Go.Proofs.Tryz.prog root := cfact mixed tab_ok kbm_ok (n := 10000) (by kernel_rfl) (by kernel_rfl)
end

end Go.Sim
namespace Go.Tx
set_option linter.all false
open Go Go.Lib

theorem first_at {c : UInt8} {s : List UInt8} (h : c ∈ s) : ∃ a b,s = a ++ c :: b ∧ c ∉ a := by
  induction s with
  | nil => cases h
  | cons x l ih =>
    by_cases hx : x = c
    · exact ⟨[],l,by rw [hx]; rfl,by simp⟩
    · have hl : c ∈ l := by
        rcases List.mem_cons.1 h with h | h
        · exact absurd h.symm hx
        · exact h
      obtain ⟨a,b,e,ha⟩ := ih hl
      refine ⟨x :: a,b,by rw [e]; rfl,?_⟩
      simp only [List.mem_cons,not_or]
      exact ⟨fun e => hx e.symm,ha⟩
theorem index_no {c : UInt8} : ∀ {s : List UInt8},c ∉ s → index s [c] = -1
  | [],_ => rfl
  | x :: l,h => by
    simp only [List.mem_cons,not_or] at h
    have hx : (c == x) = false := beq_eq_false_iff_ne.2 h.1
    have ih := index_no h.2
    unfold index
    simp [List.isPrefixOf,hx,ih]
theorem index_at {c : UInt8} {b : List UInt8} : ∀ {a : List UInt8},c ∉ a → index (a ++ c :: b) [c] = a.length
  | [],_ => by
    show index (c :: b) [c] = _
    unfold index
    simp [List.isPrefixOf]
  | x :: a,h => by
    simp only [List.mem_cons,not_or] at h
    have hx : (c == x) = false := beq_eq_false_iff_ne.2 h.1
    have ih := index_at (b := b) h.2
    show index (x :: (a ++ c :: b)) [c] = _
    unfold index
    have h1 : (index (a ++ c :: b) [c] == -1) = false := by rw [ih]; simp
    simp [List.isPrefixOf,hx,h1,ih]
theorem cut_no {c : UInt8} {s : List UInt8} (h : c ∉ s) : cut s [c] = (s,[],false) := by
  unfold cut
  rw [index_no h,if_neg (by omega)]
theorem cut_at {c : UInt8} {a b : List UInt8} (h : c ∉ a) : cut (a ++ c :: b) [c] = (a,b,true) := by
  unfold cut
  rw [index_at h,if_pos (by omega)]
  have e : ((a.length : Int)).toNat = a.length := rfl
  rw [e]
  simp
theorem cut_some {c : UInt8} {s a b : List UInt8} (h : cut s [c] = (a,b,true)) : s = a ++ c :: b ∧ c ∉ a := by
  by_cases hc : c ∈ s
  · obtain ⟨x,y,rfl,hx⟩ := first_at hc
    rw [cut_at hx] at h
    cases h
    exact ⟨rfl,hx⟩
  · rw [cut_no hc] at h
    cases h
theorem split_no {c : UInt8} {s : List UInt8} (h : c ∉ s) : split s [c] = [s] := by
  unfold split
  rw [count_one,List.count_eq_zero.2 h]
  rfl
theorem split_at {c : UInt8} {a b : List UInt8} (h : c ∉ a) : split (a ++ c :: b) [c] = a :: split b [c] := by
  unfold split
  rw [count_one,count_one,List.count_append,List.count_eq_zero.2 h,List.count_cons_self,Nat.zero_add]
  have e : ((a.length : Int)).toNat = a.length := rfl
  have h1 : (index (a ++ c :: b) [c] == -1) = false := by rw [index_at h]; simp
  rw [splitK,h1,index_at h,e]
  simp
theorem join_two (x y : List UInt8) (r : List (List UInt8)) (c : UInt8) : join (x :: y :: r) [c] = x ++ c :: join (y :: r) [c] := by
  rw [join_cons,join_cons]
  rfl
theorem split_ne (s : List UInt8) (c : UInt8) : split s [c] ≠ [] := by
  by_cases hc : c ∈ s
  · obtain ⟨a,b,rfl,ha⟩ := first_at hc
    rw [split_at ha]
    exact List.cons_ne_nil _ _
  · rw [split_no hc]
    exact List.cons_ne_nil _ _
theorem join_split (c : UInt8) : ∀ (n : Nat) (s : List UInt8),s.length ≤ n → join (split s [c]) [c] = s ∧ ∀ p ∈ split s [c],c ∉ p
  | 0,s,h => by
    obtain rfl : s = [] := List.length_eq_zero_iff.1 (by omega)
    rw [split_no (by simp)]
    exact ⟨join_one _ _,by simp⟩
  | n + 1,s,h => by
    by_cases hc : c ∈ s
    · obtain ⟨a,b,rfl,ha⟩ := first_at hc
      have hb : b.length ≤ n := by simp at h; omega
      obtain ⟨h1,h2⟩ := join_split c n b hb
      rw [split_at ha]
      obtain ⟨y,r,e⟩ : ∃ y r,split b [c] = y :: r := by
        cases hq : split b [c] with
        | nil => exact absurd hq (split_ne b c)
        | cons y r => exact ⟨y,r,rfl⟩
      refine ⟨?_,?_⟩
      · rw [e] at h1 ⊢
        rw [join_two,h1]
      · intro p hp
        rcases List.mem_cons.1 hp with rfl | hp
        · exact ha
        · exact h2 p hp
    · rw [split_no hc]
      refine ⟨join_one _ _,fun p hp => ?_⟩
      rw [List.mem_singleton.1 hp]
      exact hc
theorem join_split' (s : List UInt8) (c : UInt8) : join (split s [c]) [c] = s := (join_split c s.length s (Nat.le_refl _)).1
def Dig (c : UInt8) : Prop := 48 ≤ c.toNat ∧ c.toNat ≤ 57
theorem dig_of {d : Nat} (h : d < 10) : (UInt8.ofNat (48 + d)).toNat = 48 + d := by
  rw [UInt8.toNat_ofNat']
  omega
theorem dec_dig (u : Nat) : ∀ c ∈ decDigits u,Dig c := by
  induction u using Nat.strongRecOn with
  | _ u ih =>
    rw [decDigits]
    split
    · rename_i h
      intro c hc
      rw [List.mem_singleton.1 hc]
      unfold Dig
      rw [dig_of h]
      omega
    · rename_i h
      intro c hc
      rcases List.mem_append.1 hc with hc | hc
      · exact ih (u / 10) (by omega) c hc
      · rw [List.mem_singleton.1 hc]
        unfold Dig
        rw [dig_of (Nat.mod_lt _ (by decide))]
        omega
theorem dec_ne (u : Nat) : decDigits u ≠ [] := by
  rw [decDigits]
  split <;> simp
theorem p10_app (d : UInt8) : ∀ (l : List UInt8) (acc v : Nat),parseUint10 acc l = .ok v → parseUint10 acc (l ++ [d]) = parseUint10 v [d]
  | [],acc,v,h => by
    simp only [parseUint10] at h
    injection h with h
    rw [h]
    rfl
  | c :: r,acc,v,h => by
    rw [List.cons_append]
    rw [parseUint10] at h ⊢
    split at h
    · rename_i h1
      rw [if_pos h1]
      split at h
      · cases h
      · rename_i h2
        rw [if_neg h2]
        split at h
        · cases h
        · rename_i h3
          rw [if_neg h3]
          exact p10_app d r _ v h
    · cases h
theorem p10_one {v d : Nat} (hv : v < 100000000000000000) (hd : d < 10) : parseUint10 v [UInt8.ofNat (48 + d)] = .ok (v * 10 + d) := by
  have e := dig_of hd
  rw [parseUint10,e,if_pos (by omega),if_neg (by omega),if_neg (by omega),parseUint10]
  have : v * 10 + (48 + d - 48) = v * 10 + d := by omega
  rw [this]
theorem p10_dec (u : Nat) : u < 1000000000000000000 → parseUint10 0 (decDigits u) = .ok u := by
  induction u using Nat.strongRecOn with
  | _ u ih =>
    intro hu
    rw [decDigits]
    split
    · rename_i h
      have := p10_one (v := 0) (d := u) (by decide) h
      rw [this]
      congr 1
      omega
    · rename_i h
      rw [p10_app _ _ 0 (u / 10) (ih (u / 10) (by omega) (by omega)),p10_one (by omega) (Nat.mod_lt _ (by decide))]
      congr 1
      omega
theorem mag_dec {u : Nat} (h : u < 1000000000000000000) : parseMag (decDigits u) = .ok u := by
  unfold parseMag
  rw [if_neg (dec_ne u),p10_dec u h]
theorem atoi_itoa {n : Int} (h : -1000000000000000000 < n ∧ n < 1000000000000000000) : atoiAll (itoa n) = .ok n := by
  unfold itoa
  by_cases hn : n < 0
  · rw [if_pos hn,atoiAll_minus,mag_dec (by omega)]
    unfold signed
    simp only
    rw [if_neg (by omega)]
    congr 1
    omega
  · rw [if_neg hn]
    obtain ⟨c,r,e⟩ : ∃ c r,decDigits n.toNat = c :: r := by
      cases hq : decDigits n.toNat with
      | nil => exact absurd hq (dec_ne _)
      | cons c r => exact ⟨c,r,rfl⟩
    have hd := dec_dig n.toNat c (by rw [e]; exact List.mem_cons_self)
    unfold Dig at hd
    have hm := mag_dec (u := n.toNat) (by omega)
    rw [e] at hm ⊢
    rw [atoiAll_plain c r (by omega) (by omega),hm]
    unfold signless
    simp only
    rw [if_neg (by omega)]
    congr 1
    omega
theorem itoa_bytes {n : Int} {c : UInt8} (h : c ∈ itoa n) : c = 45 ∨ Dig c := by
  unfold itoa at h
  split at h
  · rcases List.mem_cons.1 h with h | h
    · exact .inl h
    · exact .inr (dec_dig _ c h)
  · exact .inr (dec_dig _ c h)
theorem itoa_no {c : UInt8} (n : Int) (h1 : c ≠ 45) (h2 : ¬ (48 ≤ c.toNat ∧ c.toNat ≤ 57)) : c ∉ itoa n := fun h => by
  rcases itoa_bytes h with h | h
  · exact h1 h
  · exact h2 h
def rdN (lo hi : Int) (l : List UInt8) : Option Int := match atoiAll l with
  | .ok n => if itoa n = l ∧ lo ≤ n ∧ n ≤ hi then some n else none
  | _ => none
theorem rdN_itoa {lo hi n : Int} (h : lo ≤ n ∧ n ≤ hi) (hb : -1000000000000000000 < n ∧ n < 1000000000000000000) : rdN lo hi (itoa n) = some n := by
  unfold rdN
  rw [atoi_itoa hb]
  simp only
  rw [if_pos ⟨trivial,h⟩]
theorem rdN_some {lo hi n : Int} {l : List UInt8} (h : rdN lo hi l = some n) : l = itoa n ∧ lo ≤ n ∧ n ≤ hi := by
  unfold rdN at h
  split at h
  · split at h
    · rename_i hq
      cases h
      exact ⟨hq.1.symm,hq.2⟩
    · cases h
  · cases h
def spanT (c : UInt8) (r : Int × Int) : List UInt8 := itoa r.1 ++ c :: itoa r.2
def rdS (c : UInt8) (lo hi : Int) (l : List UInt8) : Option (Int × Int) :=
  match rdN lo hi (cut l [c]).1,rdN lo hi (cut l [c]).2.1 with
  | some a,some b => if (cut l [c]).2.2 then some (a,b) else none
  | _,_ => none
theorem rdS_some {c : UInt8} {lo hi : Int} {l : List UInt8} {r : Int × Int} (h : rdS c lo hi l = some r) : l = spanT c r ∧ (lo ≤ r.1 ∧ r.1 ≤ hi) ∧ lo ≤ r.2 ∧ r.2 ≤ hi := by
  unfold rdS at h
  split at h
  · rename_i a b e1 e2
    split at h
    · rename_i h3
      cases h
      obtain ⟨q1,q2⟩ := rdN_some e1
      obtain ⟨q3,q4⟩ := rdN_some e2
      have hc : cut l [c] = (itoa a,itoa b,true) := by rw [← q1,← q3,← h3]
      exact ⟨(cut_some hc).1,q2,q4⟩
    · cases h
  · cases h
end Go.Tx
