/- Part 32 of the proof: FactH0. -/
import Derived.Test.YtadmcafbffjjbaaE31
namespace Go.Sim
set_option linter.all false
open Go
set_option maxRecDepth 1000000
variable [Rho] [Asm] [SymOK]
noncomputable section
def hp0 : Value := .pointer (some ⟨(nat_lit 5),(nat_lit 0),none⟩)
def hp1 : Value := .pointer (some ⟨(nat_lit 8),(nat_lit 0),none⟩)
def hp2 : Value := .pointer (some ⟨(nat_lit 4),(nat_lit 0),none⟩)
def hp3 : Value := .pointer (some ⟨(nat_lit 9),(nat_lit 0),none⟩)
def ha0 : Value := .agg ⟨[vm11,vm11,vi30,vi32,vi40,vi41,vi4]⟩
def ha1 : Value := .agg ⟨[vi1,vi3]⟩
def ha2 : Value := .agg ⟨[vm8,vm8,vi26,vi30,vi39,vi40,vi1]⟩
def ha3 : Value := .agg ⟨[vi0,vi5]⟩
def ha4 : Value := .agg ⟨[vm5,vm5,vi26,vi30,vi40,vi41,vi2]⟩
def ha5 : Value := .agg ⟨[vi1,vi1]⟩
def ha6 : Value := .agg ⟨[vm5,vm4,vi26,vi30,vi40,vi41,vi2]⟩
def ha7 : Value := .agg ⟨[vm7,vm7,vi26,vi30,vi39,vi40,vi1]⟩
def ha8 : Value := .agg ⟨[vm4,vm4,vi26,vi30,vi40,vi41,vi2]⟩
def ha9 : Value := .agg ⟨[vm14,vm14,vi28,vi31,vi38,vi39,vi1]⟩
def ha10 : Value := .agg ⟨[vm11,vm11,vi28,vi31,vi39,vi40,vi2]⟩
def ha11 : Value := .agg ⟨[vm8,vm8,vi28,vi31,vi40,vi41,vi3]⟩
def ha12 : Value := .agg ⟨[vi1,vi2]⟩
def ha13 : Value := .agg ⟨[vm5,vm3,vi26,vi30,vi40,vi41,vi2]⟩
def ha14 : Value := .agg ⟨[vm4,vm3,vi26,vi30,vi40,vi41,vi2]⟩
def ha15 : Value := .agg ⟨[vm6,vm6,vi26,vi30,vi39,vi40,vi1]⟩
def ha16 : Value := .agg ⟨[vm3,vm3,vi26,vi30,vi40,vi41,vi2]⟩
def ha17 : Value := .agg ⟨[vm8,vm7,vi28,vi31,vi40,vi41,vi3]⟩
def ha18 : Value := .agg ⟨[vm13,vm13,vi28,vi31,vi38,vi39,vi1]⟩
def ha19 : Value := .agg ⟨[vm10,vm10,vi28,vi31,vi39,vi40,vi2]⟩
def ha20 : Value := .agg ⟨[vm7,vm7,vi28,vi31,vi40,vi41,vi3]⟩
def ha21 : Value := .agg ⟨[vm20,vm20,vi30,vi32,vi37,vi38,vi1]⟩
def ha22 : Value := .agg ⟨[vm17,vm17,vi30,vi32,vi38,vi39,vi2]⟩
def ha23 : Value := .agg ⟨[vm14,vm14,vi30,vi32,vi39,vi40,vi3]⟩
def ha24 : Value := .agg ⟨[vm11,vm10,vi30,vi32,vi40,vi41,vi4]⟩
def ha25 : Value := .agg ⟨[vm4,vm2,vi26,vi30,vi40,vi41,vi2]⟩
def ha26 : Value := .agg ⟨[vm3,vm2,vi26,vi30,vi40,vi41,vi2]⟩
def ha27 : Value := .agg ⟨[vm8,vm6,vi28,vi31,vi40,vi41,vi3]⟩
def ha28 : Value := .agg ⟨[vm7,vm6,vi28,vi31,vi40,vi41,vi3]⟩
def ha29 : Value := .agg ⟨[vm12,vm12,vi28,vi31,vi38,vi39,vi1]⟩
def ha30 : Value := .agg ⟨[vm9,vm9,vi28,vi31,vi39,vi40,vi2]⟩
def ha31 : Value := .agg ⟨[vm6,vm6,vi28,vi31,vi40,vi41,vi3]⟩
def ha32 : Value := .agg ⟨[vm11,vm9,vi30,vi32,vi40,vi41,vi4]⟩
def ha33 : Value := .agg ⟨[vm3,vm1,vi26,vi30,vi40,vi41,vi2]⟩
def ha34 : Value := .agg ⟨[vm7,vm5,vi28,vi31,vi40,vi41,vi3]⟩
def ha35 : Value := .agg ⟨[vm6,vm5,vi28,vi31,vi40,vi41,vi3]⟩
def ha36 : Value := .agg ⟨[vm5,vm5,vi26,vi30,vi39,vi40,vi1]⟩
def ha37 : Value := .agg ⟨[vm5,vm4,vi26,vi30,vi39,vi40,vi1]⟩
def ha38 : Value := .agg ⟨[vm4,vm4,vi26,vi30,vi39,vi40,vi1]⟩
def ha39 : Value := .agg ⟨[vm11,vm11,vi28,vi31,vi38,vi39,vi1]⟩
def ha40 : Value := .agg ⟨[vm8,vm8,vi28,vi31,vi39,vi40,vi2]⟩
def ha41 : Value := .agg ⟨[vm5,vm5,vi28,vi31,vi40,vi41,vi3]⟩
def ha42 : Value := .agg ⟨[vm10,vm8,vi30,vi32,vi40,vi41,vi4]⟩
def ha43 : Value := .agg ⟨[vm6,vm4,vi28,vi31,vi40,vi41,vi3]⟩
def ha44 : Value := .agg ⟨[vm5,vm4,vi28,vi31,vi40,vi41,vi3]⟩
def ha45 : Value := .agg ⟨[vm4,vm3,vi26,vi30,vi39,vi40,vi1]⟩
def ha46 : Value := .agg ⟨[vm3,vm3,vi26,vi30,vi39,vi40,vi1]⟩
def ha47 : Value := .agg ⟨[vm10,vm10,vi28,vi31,vi38,vi39,vi1]⟩
def ha48 : Value := .agg ⟨[vm7,vm7,vi28,vi31,vi39,vi40,vi2]⟩
def ha49 : Value := .agg ⟨[vm4,vm4,vi28,vi31,vi40,vi41,vi3]⟩
def ha50 : Value := .agg ⟨[vm19,vm19,vi30,vi32,vi37,vi38,vi1]⟩
def ha51 : Value := .agg ⟨[vm16,vm16,vi30,vi32,vi38,vi39,vi2]⟩
def ha52 : Value := .agg ⟨[vm13,vm13,vi30,vi32,vi39,vi40,vi3]⟩
def ha53 : Value := .agg ⟨[vm9,vm7,vi30,vi32,vi40,vi41,vi4]⟩
def ha54 : Value := .agg ⟨[vm5,vm3,vi28,vi31,vi40,vi41,vi3]⟩
def ha55 : Value := .agg ⟨[vm4,vm3,vi28,vi31,vi40,vi41,vi3]⟩
def ha56 : Value := .agg ⟨[vm3,vm2,vi26,vi30,vi39,vi40,vi1]⟩
def ha57 : Value := .agg ⟨[vm9,vm9,vi28,vi31,vi38,vi39,vi1]⟩
def ha58 : Value := .agg ⟨[vm6,vm6,vi28,vi31,vi39,vi40,vi2]⟩
def ha59 : Value := .agg ⟨[vm3,vm3,vi28,vi31,vi40,vi41,vi3]⟩
def ha60 : Value := .agg ⟨[vm18,vm18,vi30,vi32,vi37,vi38,vi1]⟩
def ha61 : Value := .agg ⟨[vm15,vm15,vi30,vi32,vi38,vi39,vi2]⟩
def ha62 : Value := .agg ⟨[vm12,vm12,vi30,vi32,vi39,vi40,vi3]⟩
def ha63 : Value := .agg ⟨[vm8,vm7,vi30,vi32,vi40,vi41,vi4]⟩
def ha64 : Value := .agg ⟨[vm5,vm3,vi26,vi30,vi39,vi40,vi1]⟩
def ha65 : Value := .agg ⟨[vm8,vm7,vi28,vi31,vi39,vi40,vi2]⟩
def ha66 : Value := .agg ⟨[vm17,vm17,vi30,vi32,vi37,vi38,vi1]⟩
def ha67 : Value := .agg ⟨[vm14,vm14,vi30,vi32,vi38,vi39,vi2]⟩
def ha68 : Value := .agg ⟨[vm11,vm11,vi30,vi32,vi39,vi40,vi3]⟩
def ha69 : Value := .agg ⟨[vm7,vm7,vi30,vi32,vi40,vi41,vi4]⟩
def ha70 : Value := .agg ⟨[vm4,vm2,vi26,vi30,vi39,vi40,vi1]⟩
def ha71 : Value := .agg ⟨[vm7,vm6,vi28,vi31,vi39,vi40,vi2]⟩
def ha72 : Value := .agg ⟨[vm16,vm16,vi30,vi32,vi37,vi38,vi1]⟩
def ha73 : Value := .agg ⟨[vm13,vm13,vi30,vi32,vi38,vi39,vi2]⟩
def ha74 : Value := .agg ⟨[vm10,vm10,vi30,vi32,vi39,vi40,vi3]⟩
def hc0 : Option LO := some (.cells [vi0])
def hc1 : Option LO := some (.cells [vm11,vm11,vi30,vi32,vi40,vi41])
def hc2 : Option LO := some (.cells [vm2,vi2])
def hc3 : Option LO := some (.cells [vi1])
def hc4 : Option LO := some (.cells [vm1,vi1,vi0,vi3])
def hc5 : Option LO := some (.cells [vm11,vm11])
def hc6 : Option LO := some (.cells [vm11,vm7])
def hc7 : Option LO := some (.cells [vm5,vi5])
def hc8 : Option LO := some (.cells [vi3])
def hc9 : Option LO := some (.cells [vm11,vm10,vi30,vi32,vi40,vi41])
def hc10 : Option LO := some (.cells [vm11,vm10])
def hc11 : Option LO := some (.cells [vm11,vm9,vi30,vi32,vi40,vi41])
def hc12 : Option LO := some (.cells [vm11,vm9])
def hc13 : Option LO := some (.cells [vm10,vm8,vi30,vi32,vi40,vi41])
def hc14 : Option LO := some (.cells [vm10,vm8])
def hc15 : Option LO := some (.cells [vm9,vm7,vi30,vi32,vi40,vi41])
def hc16 : Option LO := some (.cells [vm9,vm7])
def hc17 : Option LO := some (.cells [vm8,vm7,vi30,vi32,vi40,vi41])
def hc18 : Option LO := some (.cells [vm8,vm7])
def hc19 : Option LO := some (.cells [vm7,vm7,vi30,vi32,vi40,vi41])
def hc20 : Option LO := some (.cells [vm7,vm7])
def c0_0 : Chg := ⟨(.func (.func (nat_lit 77)) ⟨[]⟩ ⟨[hp0,hp1,hp2,hp3]⟩),[ha0],⟨(.n (.n (.n (.n .e (some (.map (nat_lit 7) .true [])) .e) hc0 (.n .e hc0 .e)) (some (.cells [vm11,vm7,vi30,vi32,vi40,vi41,vi3,vi4,vi2,vi3,vi1,vi2,vi1,vi1,vi20,(.slice (some ⟨(nat_lit 0),(nat_lit 0),none⟩) (nat_lit 2) (nat_lit 2)),vi5,vi1])) (.n (.n (.n .e hc1 .e) (some (.cells [(.func (.func (nat_lit 77)) ⟨[]⟩ ⟨[hp0,hp1,hp2,hp3]⟩)])) .e) hc2 (.n .e hc3 .e))) hc4 (.n (.n (.n (.n .e hc5 .e) (some (.cells [(.map (some (nat_lit 7)))])) .e) (some (.cells [vm11,vm7,vi30,vi32,vi40,vi41,vi3,vi4,vi2,vi3,vi1,vi2,vi1,vi1,vi20,(.slice (some ⟨(nat_lit 0),(nat_lit 0),none⟩) (nat_lit 2) (nat_lit 2)),vi5,vi1])) (.n .e hc6 .e)) hc0 (.n (.n .e (some (.cells [(.func (.func (nat_lit 77)) ⟨[]⟩ ⟨[hp0,hp1,hp2,hp3]⟩)])) .e) hc7 .e))),(nat_lit 26),(nat_lit 16),[(nat_lit 15)]⟩,ha1,(nat_lit 26),[(nat_lit 7),(nat_lit 15)],[((nat_lit 7),(some (.map (nat_lit 7) .true [(ha2,ha3),(ha4,ha5),(ha6,ha5),(ha7,ha3),(ha8,ha5),(ha9,ha3),(ha10,ha3),(ha11,ha12),(ha13,ha5),(ha14,ha5),(ha15,ha3),(ha16,ha5),(ha17,ha12),(ha18,ha3),(ha19,ha3),(ha20,ha12),(ha21,ha3),(ha22,ha3),(ha23,ha3),(ha0,ha1)])))]⟩
theorem c0_0_ok : CFact Go.Proofs.Try.prog c0_0 := cfact mixed tab_ok kb1_ok (n := 10000) (by kernel_rfl) (by kernel_rfl)
def c0_1 : Chg := ⟨(.func (.func (nat_lit 77)) ⟨[]⟩ ⟨[hp0,hp1,hp2,hp3]⟩),[ha24],⟨(.n (.n (.n (.n .e (some (.map (nat_lit 7) .true [(ha2,ha3),(ha4,ha5),(ha6,ha5),(ha7,ha3),(ha8,ha5),(ha9,ha3),(ha10,ha3),(ha11,ha12),(ha13,ha5),(ha14,ha5),(ha15,ha3),(ha16,ha5),(ha17,ha12),(ha18,ha3),(ha19,ha3),(ha20,ha12),(ha21,ha3),(ha22,ha3),(ha23,ha3),(ha0,ha1)])) .e) hc0 (.n .e hc8 (.n .e hc9 .e))) (some (.cells [vm11,vm7,vi30,vi32,vi40,vi41,vi3,vi4,vi2,vi3,vi1,vi2,vi1,vi1,vi20,(.slice (some ⟨(nat_lit 0),(nat_lit 0),none⟩) (nat_lit 2) (nat_lit 2)),vi5,vi1])) (.n (.n (.n .e hc1 .e) (some (.cells [(.func (.func (nat_lit 77)) ⟨[]⟩ ⟨[hp0,hp1,hp2,hp3]⟩)])) .e) hc2 (.n .e hc3 .e))) hc4 (.n (.n (.n (.n .e hc5 .e) (some (.cells [(.map (some (nat_lit 7)))])) .e) (some (.cells [vm11,vm7,vi30,vi32,vi40,vi41,vi3,vi4,vi2,vi3,vi1,vi2,vi1,vi1,vi20,(.slice (some ⟨(nat_lit 0),(nat_lit 0),none⟩) (nat_lit 2) (nat_lit 2)),vi5,vi1])) (.n .e hc6 .e)) hc0 (.n (.n .e (some (.cells [(.func (.func (nat_lit 77)) ⟨[]⟩ ⟨[hp0,hp1,hp2,hp3]⟩)])) (.n .e hc10 .e)) hc7 .e))),(nat_lit 36),(nat_lit 16),[(nat_lit 11),(nat_lit 7),(nat_lit 15)]⟩,ha1,(nat_lit 36),[(nat_lit 11),(nat_lit 7),(nat_lit 15)],[((nat_lit 7),(some (.map (nat_lit 7) .true [(ha2,ha3),(ha4,ha5),(ha6,ha5),(ha7,ha3),(ha8,ha5),(ha9,ha3),(ha10,ha3),(ha11,ha12),(ha13,ha5),(ha14,ha5),(ha15,ha3),(ha16,ha5),(ha17,ha12),(ha18,ha3),(ha19,ha3),(ha20,ha12),(ha21,ha3),(ha22,ha3),(ha23,ha3),(ha0,ha1),(ha25,ha5),(ha26,ha5),(ha27,ha12),(ha28,ha12),(ha29,ha3),(ha30,ha3),(ha31,ha12),(ha24,ha1)])))]⟩
theorem c0_1_ok : CFact Go.Proofs.Try.prog c0_1 := cfact mixed tab_ok kb1_ok (n := 10000) (by kernel_rfl) (by kernel_rfl)
def c0_2 : Chg := ⟨(.func (.func (nat_lit 77)) ⟨[]⟩ ⟨[hp0,hp1,hp2,hp3]⟩),[ha32],⟨(.n (.n (.n (.n .e (some (.map (nat_lit 7) .true [(ha2,ha3),(ha4,ha5),(ha6,ha5),(ha7,ha3),(ha8,ha5),(ha9,ha3),(ha10,ha3),(ha11,ha12),(ha13,ha5),(ha14,ha5),(ha15,ha3),(ha16,ha5),(ha17,ha12),(ha18,ha3),(ha19,ha3),(ha20,ha12),(ha21,ha3),(ha22,ha3),(ha23,ha3),(ha0,ha1),(ha25,ha5),(ha26,ha5),(ha27,ha12),(ha28,ha12),(ha29,ha3),(ha30,ha3),(ha31,ha12),(ha24,ha1)])) .e) hc0 (.n .e hc8 (.n .e hc9 .e))) (some (.cells [vm11,vm7,vi30,vi32,vi40,vi41,vi3,vi4,vi2,vi3,vi1,vi2,vi1,vi1,vi20,(.slice (some ⟨(nat_lit 0),(nat_lit 0),none⟩) (nat_lit 2) (nat_lit 2)),vi5,vi1])) (.n (.n (.n .e hc1 .e) (some (.cells [(.func (.func (nat_lit 77)) ⟨[]⟩ ⟨[hp0,hp1,hp2,hp3]⟩)])) .e) hc2 (.n (.n (.n .e hc11 .e) none .e) hc3 .e))) hc4 (.n (.n (.n (.n .e hc5 .e) (some (.cells [(.map (some (nat_lit 7)))])) .e) (some (.cells [vm11,vm7,vi30,vi32,vi40,vi41,vi3,vi4,vi2,vi3,vi1,vi2,vi1,vi1,vi20,(.slice (some ⟨(nat_lit 0),(nat_lit 0),none⟩) (nat_lit 2) (nat_lit 2)),vi5,vi1])) (.n (.n (.n .e hc12 .e) none .e) hc6 .e)) hc0 (.n (.n .e (some (.cells [(.func (.func (nat_lit 77)) ⟨[]⟩ ⟨[hp0,hp1,hp2,hp3]⟩)])) (.n .e hc10 .e)) hc7 .e))),(nat_lit 46),(nat_lit 16),[(nat_lit 11),(nat_lit 7),(nat_lit 15)]⟩,ha1,(nat_lit 46),[(nat_lit 11),(nat_lit 7),(nat_lit 15)],[((nat_lit 7),(some (.map (nat_lit 7) .true [(ha2,ha3),(ha4,ha5),(ha6,ha5),(ha7,ha3),(ha8,ha5),(ha9,ha3),(ha10,ha3),(ha11,ha12),(ha13,ha5),(ha14,ha5),(ha15,ha3),(ha16,ha5),(ha17,ha12),(ha18,ha3),(ha19,ha3),(ha20,ha12),(ha21,ha3),(ha22,ha3),(ha23,ha3),(ha0,ha1),(ha25,ha5),(ha26,ha5),(ha27,ha12),(ha28,ha12),(ha29,ha3),(ha30,ha3),(ha31,ha12),(ha24,ha1),(ha33,ha5),(ha34,ha12),(ha35,ha12),(ha36,ha5),(ha37,ha5),(ha38,ha5),(ha39,ha3),(ha40,ha12),(ha41,ha5),(ha32,ha1)])))]⟩
theorem c0_2_ok : CFact Go.Proofs.Try.prog c0_2 := cfact mixed tab_ok kb1_ok (n := 10000) (by kernel_rfl) (by kernel_rfl)
def c0_3 : Chg := ⟨(.func (.func (nat_lit 77)) ⟨[]⟩ ⟨[hp0,hp1,hp2,hp3]⟩),[ha42],⟨(.n (.n (.n (.n (.n .e none (.n .e hc13 .e)) (some (.map (nat_lit 7) .true [(ha2,ha3),(ha4,ha5),(ha6,ha5),(ha7,ha3),(ha8,ha5),(ha9,ha3),(ha10,ha3),(ha11,ha12),(ha13,ha5),(ha14,ha5),(ha15,ha3),(ha16,ha5),(ha17,ha12),(ha18,ha3),(ha19,ha3),(ha20,ha12),(ha21,ha3),(ha22,ha3),(ha23,ha3),(ha0,ha1),(ha25,ha5),(ha26,ha5),(ha27,ha12),(ha28,ha12),(ha29,ha3),(ha30,ha3),(ha31,ha12),(ha24,ha1),(ha33,ha5),(ha34,ha12),(ha35,ha12),(ha36,ha5),(ha37,ha5),(ha38,ha5),(ha39,ha3),(ha40,ha12),(ha41,ha5),(ha32,ha1)])) .e) hc0 (.n .e hc8 (.n .e hc9 .e))) (some (.cells [vm11,vm7,vi30,vi32,vi40,vi41,vi3,vi4,vi2,vi3,vi1,vi2,vi1,vi1,vi20,(.slice (some ⟨(nat_lit 0),(nat_lit 0),none⟩) (nat_lit 2) (nat_lit 2)),vi5,vi1])) (.n (.n (.n .e hc1 .e) (some (.cells [(.func (.func (nat_lit 77)) ⟨[]⟩ ⟨[hp0,hp1,hp2,hp3]⟩)])) .e) hc2 (.n (.n (.n .e hc11 .e) none .e) hc3 .e))) hc4 (.n (.n (.n (.n .e hc5 .e) (some (.cells [(.map (some (nat_lit 7)))])) .e) (some (.cells [vm11,vm7,vi30,vi32,vi40,vi41,vi3,vi4,vi2,vi3,vi1,vi2,vi1,vi1,vi20,(.slice (some ⟨(nat_lit 0),(nat_lit 0),none⟩) (nat_lit 2) (nat_lit 2)),vi5,vi1])) (.n (.n (.n .e hc12 .e) none .e) hc6 .e)) hc0 (.n (.n .e (some (.cells [(.func (.func (nat_lit 77)) ⟨[]⟩ ⟨[hp0,hp1,hp2,hp3]⟩)])) (.n .e hc10 .e)) hc7 (.n .e none (.n (.n .e hc14 .e) none .e))))),(nat_lit 56),(nat_lit 16),[(nat_lit 11),(nat_lit 7),(nat_lit 15)]⟩,ha1,(nat_lit 56),[(nat_lit 11),(nat_lit 7),(nat_lit 15)],[((nat_lit 7),(some (.map (nat_lit 7) .true [(ha2,ha3),(ha4,ha5),(ha6,ha5),(ha7,ha3),(ha8,ha5),(ha9,ha3),(ha10,ha3),(ha11,ha12),(ha13,ha5),(ha14,ha5),(ha15,ha3),(ha16,ha5),(ha17,ha12),(ha18,ha3),(ha19,ha3),(ha20,ha12),(ha21,ha3),(ha22,ha3),(ha23,ha3),(ha0,ha1),(ha25,ha5),(ha26,ha5),(ha27,ha12),(ha28,ha12),(ha29,ha3),(ha30,ha3),(ha31,ha12),(ha24,ha1),(ha33,ha5),(ha34,ha12),(ha35,ha12),(ha36,ha5),(ha37,ha5),(ha38,ha5),(ha39,ha3),(ha40,ha12),(ha41,ha5),(ha32,ha1),(ha43,ha12),(ha44,ha5),(ha45,ha5),(ha46,ha5),(ha47,ha3),(ha48,ha12),(ha49,ha5),(ha50,ha3),(ha51,ha3),(ha52,ha3),(ha42,ha1)])))]⟩
theorem c0_3_ok : CFact Go.Proofs.Try.prog c0_3 := cfact mixed tab_ok kb1_ok (n := 10000) (by kernel_rfl) (by kernel_rfl)
def c0_4 : Chg := ⟨(.func (.func (nat_lit 77)) ⟨[]⟩ ⟨[hp0,hp1,hp2,hp3]⟩),[ha53],⟨(.n (.n (.n (.n (.n .e none (.n .e hc13 .e)) (some (.map (nat_lit 7) .true [(ha2,ha3),(ha4,ha5),(ha6,ha5),(ha7,ha3),(ha8,ha5),(ha9,ha3),(ha10,ha3),(ha11,ha12),(ha13,ha5),(ha14,ha5),(ha15,ha3),(ha16,ha5),(ha17,ha12),(ha18,ha3),(ha19,ha3),(ha20,ha12),(ha21,ha3),(ha22,ha3),(ha23,ha3),(ha0,ha1),(ha25,ha5),(ha26,ha5),(ha27,ha12),(ha28,ha12),(ha29,ha3),(ha30,ha3),(ha31,ha12),(ha24,ha1),(ha33,ha5),(ha34,ha12),(ha35,ha12),(ha36,ha5),(ha37,ha5),(ha38,ha5),(ha39,ha3),(ha40,ha12),(ha41,ha5),(ha32,ha1),(ha43,ha12),(ha44,ha5),(ha45,ha5),(ha46,ha5),(ha47,ha3),(ha48,ha12),(ha49,ha5),(ha50,ha3),(ha51,ha3),(ha52,ha3),(ha42,ha1)])) .e) hc0 (.n .e hc8 (.n .e hc9 .e))) (some (.cells [vm11,vm7,vi30,vi32,vi40,vi41,vi3,vi4,vi2,vi3,vi1,vi2,vi1,vi1,vi20,(.slice (some ⟨(nat_lit 0),(nat_lit 0),none⟩) (nat_lit 2) (nat_lit 2)),vi5,vi1])) (.n (.n (.n .e hc1 .e) (some (.cells [(.func (.func (nat_lit 77)) ⟨[]⟩ ⟨[hp0,hp1,hp2,hp3]⟩)])) (.n .e none (.n .e hc15 .e))) hc2 (.n (.n (.n .e hc11 .e) none .e) hc3 .e))) hc4 (.n (.n (.n (.n .e hc5 .e) (some (.cells [(.map (some (nat_lit 7)))])) (.n .e none (.n .e hc16 .e))) (some (.cells [vm11,vm7,vi30,vi32,vi40,vi41,vi3,vi4,vi2,vi3,vi1,vi2,vi1,vi1,vi20,(.slice (some ⟨(nat_lit 0),(nat_lit 0),none⟩) (nat_lit 2) (nat_lit 2)),vi5,vi1])) (.n (.n (.n .e hc12 .e) none .e) hc6 .e)) hc0 (.n (.n .e (some (.cells [(.func (.func (nat_lit 77)) ⟨[]⟩ ⟨[hp0,hp1,hp2,hp3]⟩)])) (.n .e hc10 .e)) hc7 (.n .e none (.n (.n .e hc14 .e) none .e))))),(nat_lit 66),(nat_lit 16),[(nat_lit 11),(nat_lit 7),(nat_lit 15)]⟩,ha1,(nat_lit 66),[(nat_lit 11),(nat_lit 7),(nat_lit 15)],[((nat_lit 7),(some (.map (nat_lit 7) .true [(ha2,ha3),(ha4,ha5),(ha6,ha5),(ha7,ha3),(ha8,ha5),(ha9,ha3),(ha10,ha3),(ha11,ha12),(ha13,ha5),(ha14,ha5),(ha15,ha3),(ha16,ha5),(ha17,ha12),(ha18,ha3),(ha19,ha3),(ha20,ha12),(ha21,ha3),(ha22,ha3),(ha23,ha3),(ha0,ha1),(ha25,ha5),(ha26,ha5),(ha27,ha12),(ha28,ha12),(ha29,ha3),(ha30,ha3),(ha31,ha12),(ha24,ha1),(ha33,ha5),(ha34,ha12),(ha35,ha12),(ha36,ha5),(ha37,ha5),(ha38,ha5),(ha39,ha3),(ha40,ha12),(ha41,ha5),(ha32,ha1),(ha43,ha12),(ha44,ha5),(ha45,ha5),(ha46,ha5),(ha47,ha3),(ha48,ha12),(ha49,ha5),(ha50,ha3),(ha51,ha3),(ha52,ha3),(ha42,ha1),(ha54,ha5),(ha55,ha5),(ha56,ha5),(ha57,ha3),(ha58,ha12),(ha59,ha5),(ha60,ha3),(ha61,ha3),(ha62,ha3),(ha53,ha1)])))]⟩
theorem c0_4_ok : CFact Go.Proofs.Try.prog c0_4 := cfact mixed tab_ok kb1_ok (n := 10000) (by kernel_rfl) (by kernel_rfl)
def c0_5 : Chg := ⟨(.func (.func (nat_lit 77)) ⟨[]⟩ ⟨[hp0,hp1,hp2,hp3]⟩),[ha63],⟨(.n (.n (.n (.n (.n .e none (.n .e hc13 .e)) (some (.map (nat_lit 7) .true [(ha2,ha3),(ha4,ha5),(ha6,ha5),(ha7,ha3),(ha8,ha5),(ha9,ha3),(ha10,ha3),(ha11,ha12),(ha13,ha5),(ha14,ha5),(ha15,ha3),(ha16,ha5),(ha17,ha12),(ha18,ha3),(ha19,ha3),(ha20,ha12),(ha21,ha3),(ha22,ha3),(ha23,ha3),(ha0,ha1),(ha25,ha5),(ha26,ha5),(ha27,ha12),(ha28,ha12),(ha29,ha3),(ha30,ha3),(ha31,ha12),(ha24,ha1),(ha33,ha5),(ha34,ha12),(ha35,ha12),(ha36,ha5),(ha37,ha5),(ha38,ha5),(ha39,ha3),(ha40,ha12),(ha41,ha5),(ha32,ha1),(ha43,ha12),(ha44,ha5),(ha45,ha5),(ha46,ha5),(ha47,ha3),(ha48,ha12),(ha49,ha5),(ha50,ha3),(ha51,ha3),(ha52,ha3),(ha42,ha1),(ha54,ha5),(ha55,ha5),(ha56,ha5),(ha57,ha3),(ha58,ha12),(ha59,ha5),(ha60,ha3),(ha61,ha3),(ha62,ha3),(ha53,ha1)])) .e) hc0 (.n (.n (.n (.n .e hc17 .e) none .e) none .e) hc8 (.n .e hc9 .e))) (some (.cells [vm11,vm7,vi30,vi32,vi40,vi41,vi3,vi4,vi2,vi3,vi1,vi2,vi1,vi1,vi20,(.slice (some ⟨(nat_lit 0),(nat_lit 0),none⟩) (nat_lit 2) (nat_lit 2)),vi5,vi1])) (.n (.n (.n .e hc1 .e) (some (.cells [(.func (.func (nat_lit 77)) ⟨[]⟩ ⟨[hp0,hp1,hp2,hp3]⟩)])) (.n .e none (.n .e hc15 .e))) hc2 (.n (.n (.n .e hc11 .e) none .e) hc3 .e))) hc4 (.n (.n (.n (.n .e hc5 .e) (some (.cells [(.map (some (nat_lit 7)))])) (.n .e none (.n .e hc16 .e))) (some (.cells [vm11,vm7,vi30,vi32,vi40,vi41,vi3,vi4,vi2,vi3,vi1,vi2,vi1,vi1,vi20,(.slice (some ⟨(nat_lit 0),(nat_lit 0),none⟩) (nat_lit 2) (nat_lit 2)),vi5,vi1])) (.n (.n (.n .e hc12 .e) none .e) hc6 .e)) hc0 (.n (.n (.n (.n (.n .e hc18 .e) none .e) none .e) (some (.cells [(.func (.func (nat_lit 77)) ⟨[]⟩ ⟨[hp0,hp1,hp2,hp3]⟩)])) (.n .e hc10 .e)) hc7 (.n .e none (.n (.n .e hc14 .e) none .e))))),(nat_lit 76),(nat_lit 16),[(nat_lit 11),(nat_lit 7),(nat_lit 15)]⟩,ha12,(nat_lit 76),[(nat_lit 11),(nat_lit 7),(nat_lit 15)],[((nat_lit 7),(some (.map (nat_lit 7) .true [(ha2,ha3),(ha4,ha5),(ha6,ha5),(ha7,ha3),(ha8,ha5),(ha9,ha3),(ha10,ha3),(ha11,ha12),(ha13,ha5),(ha14,ha5),(ha15,ha3),(ha16,ha5),(ha17,ha12),(ha18,ha3),(ha19,ha3),(ha20,ha12),(ha21,ha3),(ha22,ha3),(ha23,ha3),(ha0,ha1),(ha25,ha5),(ha26,ha5),(ha27,ha12),(ha28,ha12),(ha29,ha3),(ha30,ha3),(ha31,ha12),(ha24,ha1),(ha33,ha5),(ha34,ha12),(ha35,ha12),(ha36,ha5),(ha37,ha5),(ha38,ha5),(ha39,ha3),(ha40,ha12),(ha41,ha5),(ha32,ha1),(ha43,ha12),(ha44,ha5),(ha45,ha5),(ha46,ha5),(ha47,ha3),(ha48,ha12),(ha49,ha5),(ha50,ha3),(ha51,ha3),(ha52,ha3),(ha42,ha1),(ha54,ha5),(ha55,ha5),(ha56,ha5),(ha57,ha3),(ha58,ha12),(ha59,ha5),(ha60,ha3),(ha61,ha3),(ha62,ha3),(ha53,ha1),(ha64,ha5),(ha65,ha12),(ha66,ha3),(ha67,ha3),(ha68,ha1),(ha63,ha12)])))]⟩
theorem c0_5_ok : CFact Go.Proofs.Try.prog c0_5 := cfact mixed tab_ok kb1_ok (n := 10000) (by kernel_rfl) (by kernel_rfl)
def c0_6 : Chg := ⟨(.func (.func (nat_lit 77)) ⟨[]⟩ ⟨[hp0,hp1,hp2,hp3]⟩),[ha69],⟨(.n (.n (.n (.n (.n .e none (.n .e hc13 .e)) (some (.map (nat_lit 7) .true [(ha2,ha3),(ha4,ha5),(ha6,ha5),(ha7,ha3),(ha8,ha5),(ha9,ha3),(ha10,ha3),(ha11,ha12),(ha13,ha5),(ha14,ha5),(ha15,ha3),(ha16,ha5),(ha17,ha12),(ha18,ha3),(ha19,ha3),(ha20,ha12),(ha21,ha3),(ha22,ha3),(ha23,ha3),(ha0,ha1),(ha25,ha5),(ha26,ha5),(ha27,ha12),(ha28,ha12),(ha29,ha3),(ha30,ha3),(ha31,ha12),(ha24,ha1),(ha33,ha5),(ha34,ha12),(ha35,ha12),(ha36,ha5),(ha37,ha5),(ha38,ha5),(ha39,ha3),(ha40,ha12),(ha41,ha5),(ha32,ha1),(ha43,ha12),(ha44,ha5),(ha45,ha5),(ha46,ha5),(ha47,ha3),(ha48,ha12),(ha49,ha5),(ha50,ha3),(ha51,ha3),(ha52,ha3),(ha42,ha1),(ha54,ha5),(ha55,ha5),(ha56,ha5),(ha57,ha3),(ha58,ha12),(ha59,ha5),(ha60,ha3),(ha61,ha3),(ha62,ha3),(ha53,ha1),(ha64,ha5),(ha65,ha12),(ha66,ha3),(ha67,ha3),(ha68,ha1),(ha63,ha12)])) .e) hc0 (.n (.n (.n (.n .e hc17 .e) none .e) none .e) hc8 (.n .e hc9 .e))) (some (.cells [vm11,vm7,vi30,vi32,vi40,vi41,vi3,vi4,vi2,vi3,vi1,vi2,vi1,vi1,vi20,(.slice (some ⟨(nat_lit 0),(nat_lit 0),none⟩) (nat_lit 2) (nat_lit 2)),vi5,vi1])) (.n (.n (.n .e hc1 .e) (some (.cells [(.func (.func (nat_lit 77)) ⟨[]⟩ ⟨[hp0,hp1,hp2,hp3]⟩)])) (.n .e none (.n .e hc15 .e))) hc2 (.n (.n (.n .e hc11 .e) none .e) hc3 (.n (.n (.n .e hc19 .e) none .e) none .e)))) hc4 (.n (.n (.n (.n .e hc5 .e) (some (.cells [(.map (some (nat_lit 7)))])) (.n .e none (.n .e hc16 .e))) (some (.cells [vm11,vm7,vi30,vi32,vi40,vi41,vi3,vi4,vi2,vi3,vi1,vi2,vi1,vi1,vi20,(.slice (some ⟨(nat_lit 0),(nat_lit 0),none⟩) (nat_lit 2) (nat_lit 2)),vi5,vi1])) (.n (.n (.n .e hc12 .e) none .e) hc6 (.n (.n (.n .e hc20 .e) none .e) none .e))) hc0 (.n (.n (.n (.n (.n .e hc18 .e) none .e) none .e) (some (.cells [(.func (.func (nat_lit 77)) ⟨[]⟩ ⟨[hp0,hp1,hp2,hp3]⟩)])) (.n .e hc10 .e)) hc7 (.n .e none (.n (.n .e hc14 .e) none .e))))),(nat_lit 86),(nat_lit 16),[(nat_lit 11),(nat_lit 7),(nat_lit 15)]⟩,ha12,(nat_lit 86),[(nat_lit 11),(nat_lit 7),(nat_lit 15)],[((nat_lit 7),(some (.map (nat_lit 7) .true [(ha2,ha3),(ha4,ha5),(ha6,ha5),(ha7,ha3),(ha8,ha5),(ha9,ha3),(ha10,ha3),(ha11,ha12),(ha13,ha5),(ha14,ha5),(ha15,ha3),(ha16,ha5),(ha17,ha12),(ha18,ha3),(ha19,ha3),(ha20,ha12),(ha21,ha3),(ha22,ha3),(ha23,ha3),(ha0,ha1),(ha25,ha5),(ha26,ha5),(ha27,ha12),(ha28,ha12),(ha29,ha3),(ha30,ha3),(ha31,ha12),(ha24,ha1),(ha33,ha5),(ha34,ha12),(ha35,ha12),(ha36,ha5),(ha37,ha5),(ha38,ha5),(ha39,ha3),(ha40,ha12),(ha41,ha5),(ha32,ha1),(ha43,ha12),(ha44,ha5),(ha45,ha5),(ha46,ha5),(ha47,ha3),(ha48,ha12),(ha49,ha5),(ha50,ha3),(ha51,ha3),(ha52,ha3),(ha42,ha1),(ha54,ha5),(ha55,ha5),(ha56,ha5),(ha57,ha3),(ha58,ha12),(ha59,ha5),(ha60,ha3),(ha61,ha3),(ha62,ha3),(ha53,ha1),(ha64,ha5),(ha65,ha12),(ha66,ha3),(ha67,ha3),(ha68,ha1),(ha63,ha12),(ha70,ha5),(ha71,ha12),(ha72,ha3),(ha73,ha3),(ha74,ha1),(ha69,ha12)])))]⟩
theorem c0_6_ok : CFact Go.Proofs.Try.prog c0_6 := cfact mixed tab_ok kb1_ok (n := 10000) (by kernel_rfl) (by kernel_rfl)
def kbh0_lg : List (Nat × List Gen) := []
def kbh0_lc : List (Nat × List Chg) := [((nat_lit 77),[c0_0,c0_1,c0_2,c0_3,c0_4,c0_5,c0_6])]
def kbh0 : Kb := { w := .e,g := .e,c := (.n (.n .e none (.n .e none (.n .e none (.n (.n (.n .e (some [c0_0,c0_1,c0_2,c0_3,c0_4,c0_5,c0_6]) .e) none .e) none .e)))) none .e) }
theorem kbh0_ok : KbOK Go.Proofs.Try.prog kbh0 := kbOK (lw := []) (lg := kbh0_lg) (lc := kbh0_lc) .nil .nil (.cons (.cons c0_0_ok (.cons c0_1_ok (.cons c0_2_ok (.cons c0_3_ok (.cons c0_4_ok (.cons c0_5_ok (.cons c0_6_ok .nil))))))) rfl .nil) (by kernel_rfl) (by kernel_rfl) (by kernel_rfl)
def gh0 : Gen := ⟨(nat_lit 12),[(.agg ⟨[vm11,vm7,vi30,vi32,vi40,vi41,vi3,vi4,vi2,vi3,vi1,vi2,vi1,vi1,vi20,(.slice (some ⟨(nat_lit 0),(nat_lit 0),none⟩) (nat_lit 2) (nat_lit 2)),vi5,vi1]⟩)],none,(nat_lit 0),[(.cells [vm1,vi1,vi0,vi3])],(.tuple ⟨[vi3,vi0]⟩)⟩
theorem gh0_ok : GFact Go.Proofs.Try.prog gh0 := gfact mixed tab_ok kbh0_ok (n := 10000) (by kernel_rfl) (by kernel_rfl)
end

end Go.Sim
