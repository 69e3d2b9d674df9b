/- Part 33 of the proof: FactH1. -/
import Derived.Test.YtadmcafbffjjbaaE31
namespace Go.Sim
set_option linter.all false
open Go
set_option maxRecDepth 1000000
variable [Rho] [Asm] [SymOK]
noncomputable section
def gp0 : Value := .pointer (some ⟨(nat_lit 11),(nat_lit 0),none⟩)
def gp1 : Value := .pointer (some ⟨(nat_lit 14),(nat_lit 0),none⟩)
def gp2 : Value := .pointer (some ⟨(nat_lit 10),(nat_lit 0),none⟩)
def gp3 : Value := .pointer (some ⟨(nat_lit 15),(nat_lit 0),none⟩)
def ga0 : Value := .agg ⟨[vi7,vi7,vi28,vi31,vi40,vi41,vi3]⟩
def ga1 : Value := .agg ⟨[vi2,vi3]⟩
def ga2 : Value := .agg ⟨[vi13,vi13,vi24,vi29,vi40,vi41,vi1]⟩
def ga3 : Value := .agg ⟨[vi0,vi5]⟩
def ga4 : Value := .agg ⟨[vi7,vi7,vi26,vi30,vi39,vi40,vi1]⟩
def ga5 : Value := .agg ⟨[vi10,vi10,vi26,vi30,vi40,vi41,vi2]⟩
def ga6 : Value := .agg ⟨[vi4,vi4,vi28,vi31,vi39,vi40,vi2]⟩
def ga7 : Value := .agg ⟨[vi2,vi1]⟩
def ga8 : Value := .agg ⟨[vi1,vi3,vi28,vi31,vi38,vi39,vi1]⟩
def ga9 : Value := .agg ⟨[vi2,vi3,vi28,vi31,vi38,vi39,vi1]⟩
def ga10 : Value := .agg ⟨[vi3,vi3,vi28,vi31,vi38,vi39,vi1]⟩
def ga11 : Value := .agg ⟨[vi4,vi5,vi28,vi31,vi39,vi40,vi2]⟩
def ga12 : Value := .agg ⟨[vi2,vi2]⟩
def ga13 : Value := .agg ⟨[vi8,vi8,vi26,vi30,vi39,vi40,vi1]⟩
def ga14 : Value := .agg ⟨[vi5,vi5,vi28,vi31,vi39,vi40,vi2]⟩
def ga15 : Value := .agg ⟨[vi7,vi8,vi28,vi31,vi40,vi41,vi3]⟩
def ga16 : Value := .agg ⟨[vi2,vi4,vi28,vi31,vi38,vi39,vi1]⟩
def ga17 : Value := .agg ⟨[vi3,vi4,vi28,vi31,vi38,vi39,vi1]⟩
def ga18 : Value := .agg ⟨[vi4,vi4,vi28,vi31,vi38,vi39,vi1]⟩
def ga19 : Value := .agg ⟨[vi4,vi6,vi28,vi31,vi39,vi40,vi2]⟩
def ga20 : Value := .agg ⟨[vi5,vi6,vi28,vi31,vi39,vi40,vi2]⟩
def ga21 : Value := .agg ⟨[vi9,vi9,vi26,vi30,vi39,vi40,vi1]⟩
def ga22 : Value := .agg ⟨[vi6,vi6,vi28,vi31,vi39,vi40,vi2]⟩
def ga23 : Value := .agg ⟨[vi7,vi9,vi28,vi31,vi40,vi41,vi3]⟩
def ga24 : Value := .agg ⟨[vi3,vi5,vi28,vi31,vi38,vi39,vi1]⟩
def ga25 : Value := .agg ⟨[vi5,vi7,vi28,vi31,vi39,vi40,vi2]⟩
def ga26 : Value := .agg ⟨[vi1,vi3,vi30,vi32,vi39,vi40,vi3]⟩
def ga27 : Value := .agg ⟨[vi3,vi4,vi30,vi32,vi39,vi40,vi3]⟩
def ga28 : Value := .agg ⟨[vi2,vi4,vi30,vi32,vi39,vi40,vi3]⟩
def ga29 : Value := .agg ⟨[vi6,vi7,vi28,vi31,vi39,vi40,vi2]⟩
def ga30 : Value := .agg ⟨[vi4,vi4,vi30,vi32,vi39,vi40,vi3]⟩
def ga31 : Value := .agg ⟨[vi10,vi10,vi26,vi30,vi39,vi40,vi1]⟩
def ga32 : Value := .agg ⟨[vi4,vi5,vi28,vi31,vi38,vi39,vi1]⟩
def ga33 : Value := .agg ⟨[vi7,vi7,vi28,vi31,vi39,vi40,vi2]⟩
def gc0 : Option LO := some (.cells [vi7,vi10])
def gc1 : Option LO := some (.cells [vm2,vi2])
def gc2 : Option LO := some (.cells [vi7,vi7])
def gc3 : Option LO := some (.cells [vi0,vi0])
def gc4 : Option LO := some (.cells [vm1,vi1,vi0,vi3])
def gc5 : Option LO := some (.cells [vi4,vi6,vi30,vi32,vi40,vi41,vi4])
def gc6 : Option LO := some (.cells [vi1])
def gc7 : Option LO := some (.cells [vm5,vi5])
def gc8 : Option LO := some (.cells [vi0,vi5])
def gc9 : Option LO := some (.cells [vi0])
def gc10 : Option LO := some (.cells [vi7,vi8])
def gc11 : Option LO := some (.cells [vi4])
def gc12 : Option LO := some (.cells [vi7,vi9])
def gc13 : Option LO := some (.cells [vi1,vi1])
def gc14 : Option LO := some (.cells [vi1,vi4])
def gc15 : Option LO := some (.cells [vi1,vi3])
def gc16 : Option LO := some (.cells [vi2])
def gc17 : Option LO := some (.cells [vi6])
def gc18 : Option LO := some (.cells [vi1,vi2])
def gc19 : Option LO := some (.cells [vi3,vi4])
def gc20 : Option LO := some (.cells [vi2,vi4])
def gc21 : Option LO := some (.cells [vi4,vi4])
def c1_0 : Chg := ⟨(.func (.func (nat_lit 77)) ⟨[]⟩ ⟨[gp0,gp1,gp2,gp3]⟩),[ga0],⟨(.n (.n (.n (.n (.n .e (some (.cells [(.func (.func (nat_lit 77)) ⟨[]⟩ ⟨[gp0,gp1,gp2,gp3]⟩)])) .e) none (.n .e gc0 .e)) none (.n (.n .e (some (.cells [vi4,vi6,vi30,vi32,vi40,vi41,vi3,vi4,vi2,vi3,vi1,vi2,vi1,vi1,vi20,(.slice (some ⟨(nat_lit 0),(nat_lit 0),none⟩) (nat_lit 2) (nat_lit 2)),vi5,vi1])) .e) gc1 (.n .e gc2 .e))) (some (.cells [vi4,vi6,vi30,vi32,vi40,vi41,vi3,vi4,vi2,vi3,vi1,vi2,vi1,vi1,vi20,(.slice (some ⟨(nat_lit 0),(nat_lit 0),none⟩) (nat_lit 2) (nat_lit 2)),vi5,vi1])) (.n (.n (.n .e gc3 .e) none .e) none (.n (.n .e (some (.cells [vi7,vi7,vi28,vi31,vi40,vi41,vi3,vi4,vi2,vi3,vi1,vi2,vi1,vi1,vi20,(.slice (some ⟨(nat_lit 0),(nat_lit 0),none⟩) (nat_lit 2) (nat_lit 2)),vi5,vi1])) .e) (some (.map (nat_lit 7) .true [])) .e))) gc4 (.n (.n (.n (.n .e gc5 .e) none (.n .e gc6 .e)) none (.n (.n .e gc6 .e) gc7 .e)) none (.n (.n (.n .e gc8 .e) (some (.cells [vi4,vi6,vi30,vi32,vi40,vi41,vi3,vi4,vi2,vi3,vi1,vi2,vi1,vi1,vi20,(.slice (some ⟨(nat_lit 0),(nat_lit 0),none⟩) (nat_lit 2) (nat_lit 2)),vi5,vi1])) .e) none (.n (.n .e gc9 .e) (some (.cells [(.map (some (nat_lit 13)))])) .e)))),(nat_lit 42),(nat_lit 27),[(nat_lit 21),(nat_lit 26)]⟩,ga1,(nat_lit 42),[(nat_lit 13),(nat_lit 21),(nat_lit 26)],[((nat_lit 13),(some (.map (nat_lit 7) .true [(ga2,ga3),(ga4,ga3),(ga5,ga3),(ga6,ga7),(ga8,ga7),(ga9,ga7),(ga10,ga7),(ga11,ga12),(ga13,ga3),(ga14,ga12),(ga0,ga1)])))]⟩
theorem c1_0_ok : CFact Go.Proofs.Try.prog c1_0 := cfact mixed tab_ok kb1_ok (n := 10000) (by kernel_rfl) (by kernel_rfl)
def c1_1 : Chg := ⟨(.func (.func (nat_lit 77)) ⟨[]⟩ ⟨[gp0,gp1,gp2,gp3]⟩),[ga15],⟨(.n (.n (.n (.n (.n .e (some (.cells [(.func (.func (nat_lit 77)) ⟨[]⟩ ⟨[gp0,gp1,gp2,gp3]⟩)])) .e) none (.n .e gc0 .e)) none (.n (.n .e (some (.cells [vi4,vi6,vi30,vi32,vi40,vi41,vi3,vi4,vi2,vi3,vi1,vi2,vi1,vi1,vi20,(.slice (some ⟨(nat_lit 0),(nat_lit 0),none⟩) (nat_lit 2) (nat_lit 2)),vi5,vi1])) .e) gc1 (.n .e gc2 .e))) (some (.cells [vi4,vi6,vi30,vi32,vi40,vi41,vi3,vi4,vi2,vi3,vi1,vi2,vi1,vi1,vi20,(.slice (some ⟨(nat_lit 0),(nat_lit 0),none⟩) (nat_lit 2) (nat_lit 2)),vi5,vi1])) (.n (.n (.n .e gc3 .e) none .e) none (.n (.n .e (some (.cells [vi7,vi8,vi28,vi31,vi40,vi41,vi3,vi4,vi2,vi3,vi1,vi2,vi1,vi1,vi20,(.slice (some ⟨(nat_lit 0),(nat_lit 0),none⟩) (nat_lit 2) (nat_lit 2)),vi5,vi1])) .e) (some (.map (nat_lit 7) .true [(ga2,ga3),(ga4,ga3),(ga5,ga3),(ga6,ga7),(ga8,ga7),(ga9,ga7),(ga10,ga7),(ga11,ga12),(ga13,ga3),(ga14,ga12),(ga0,ga1)])) .e))) gc4 (.n (.n (.n (.n .e gc5 .e) none (.n .e gc6 .e)) none (.n (.n .e gc6 .e) gc7 .e)) none (.n (.n (.n .e gc8 .e) (some (.cells [vi4,vi6,vi30,vi32,vi40,vi41,vi3,vi4,vi2,vi3,vi1,vi2,vi1,vi1,vi20,(.slice (some ⟨(nat_lit 0),(nat_lit 0),none⟩) (nat_lit 2) (nat_lit 2)),vi5,vi1])) (.n (.n .e gc10 .e) none .e)) none (.n (.n .e gc11 .e) (some (.cells [(.map (some (nat_lit 13)))])) .e)))),(nat_lit 57),(nat_lit 27),[(nat_lit 22),(nat_lit 13),(nat_lit 21),(nat_lit 26)]⟩,ga1,(nat_lit 57),[(nat_lit 22),(nat_lit 13),(nat_lit 21),(nat_lit 26)],[((nat_lit 13),(some (.map (nat_lit 7) .true [(ga2,ga3),(ga4,ga3),(ga5,ga3),(ga6,ga7),(ga8,ga7),(ga9,ga7),(ga10,ga7),(ga11,ga12),(ga13,ga3),(ga14,ga12),(ga0,ga1),(ga16,ga7),(ga17,ga7),(ga18,ga7),(ga19,ga12),(ga20,ga12),(ga21,ga3),(ga22,ga12),(ga15,ga1)])))]⟩
theorem c1_1_ok : CFact Go.Proofs.Try.prog c1_1 := cfact mixed tab_ok kb1_ok (n := 10000) (by kernel_rfl) (by kernel_rfl)
def c1_2 : Chg := ⟨(.func (.func (nat_lit 77)) ⟨[]⟩ ⟨[gp0,gp1,gp2,gp3]⟩),[ga23],⟨(.n (.n (.n (.n (.n .e (some (.cells [(.func (.func (nat_lit 77)) ⟨[]⟩ ⟨[gp0,gp1,gp2,gp3]⟩)])) .e) none (.n .e gc0 .e)) none (.n (.n .e (some (.cells [vi4,vi6,vi30,vi32,vi40,vi41,vi3,vi4,vi2,vi3,vi1,vi2,vi1,vi1,vi20,(.slice (some ⟨(nat_lit 0),(nat_lit 0),none⟩) (nat_lit 2) (nat_lit 2)),vi5,vi1])) .e) gc1 (.n .e gc2 .e))) (some (.cells [vi4,vi6,vi30,vi32,vi40,vi41,vi3,vi4,vi2,vi3,vi1,vi2,vi1,vi1,vi20,(.slice (some ⟨(nat_lit 0),(nat_lit 0),none⟩) (nat_lit 2) (nat_lit 2)),vi5,vi1])) (.n (.n (.n .e gc3 .e) none (.n .e none (.n .e gc12 .e))) none (.n (.n .e (some (.cells [vi7,vi9,vi28,vi31,vi40,vi41,vi3,vi4,vi2,vi3,vi1,vi2,vi1,vi1,vi20,(.slice (some ⟨(nat_lit 0),(nat_lit 0),none⟩) (nat_lit 2) (nat_lit 2)),vi5,vi1])) .e) (some (.map (nat_lit 7) .true [(ga2,ga3),(ga4,ga3),(ga5,ga3),(ga6,ga7),(ga8,ga7),(ga9,ga7),(ga10,ga7),(ga11,ga12),(ga13,ga3),(ga14,ga12),(ga0,ga1),(ga16,ga7),(ga17,ga7),(ga18,ga7),(ga19,ga12),(ga20,ga12),(ga21,ga3),(ga22,ga12),(ga15,ga1)])) .e))) gc4 (.n (.n (.n (.n .e gc5 .e) none (.n .e gc6 .e)) none (.n (.n .e gc6 .e) gc7 .e)) none (.n (.n (.n .e gc8 .e) (some (.cells [vi4,vi6,vi30,vi32,vi40,vi41,vi3,vi4,vi2,vi3,vi1,vi2,vi1,vi1,vi20,(.slice (some ⟨(nat_lit 0),(nat_lit 0),none⟩) (nat_lit 2) (nat_lit 2)),vi5,vi1])) (.n (.n .e gc10 .e) none .e)) none (.n (.n .e gc11 .e) (some (.cells [(.map (some (nat_lit 13)))])) .e)))),(nat_lit 72),(nat_lit 27),[(nat_lit 22),(nat_lit 13),(nat_lit 21),(nat_lit 26)]⟩,ga3,(nat_lit 72),[(nat_lit 22),(nat_lit 13),(nat_lit 21),(nat_lit 26)],[((nat_lit 13),(some (.map (nat_lit 7) .true [(ga2,ga3),(ga4,ga3),(ga5,ga3),(ga6,ga7),(ga8,ga7),(ga9,ga7),(ga10,ga7),(ga11,ga12),(ga13,ga3),(ga14,ga12),(ga0,ga1),(ga16,ga7),(ga17,ga7),(ga18,ga7),(ga19,ga12),(ga20,ga12),(ga21,ga3),(ga22,ga12),(ga15,ga1),(ga24,ga3),(ga25,ga3),(ga23,ga3)])))]⟩
theorem c1_2_ok : CFact Go.Proofs.Try.prog c1_2 := cfact mixed tab_ok kb1_ok (n := 10000) (by kernel_rfl) (by kernel_rfl)
def c1_3 : Chg := ⟨(.func (.func (nat_lit 77)) ⟨[]⟩ ⟨[gp0,gp1,gp2,gp3]⟩),[ga26],⟨(.n (.n (.n (.n (.n .e (some (.cells [(.func (.func (nat_lit 77)) ⟨[]⟩ ⟨[gp0,gp1,gp2,gp3]⟩)])) (.n (.n .e gc13 .e) none .e)) none (.n .e gc0 .e)) none (.n (.n .e (some (.cells [vi4,vi6,vi30,vi32,vi40,vi41,vi3,vi4,vi2,vi3,vi1,vi2,vi1,vi1,vi20,(.slice (some ⟨(nat_lit 0),(nat_lit 0),none⟩) (nat_lit 2) (nat_lit 2)),vi5,vi1])) .e) gc1 (.n (.n (.n .e gc14 .e) none .e) gc2 .e))) (some (.cells [vi4,vi6,vi30,vi32,vi40,vi41,vi3,vi4,vi2,vi3,vi1,vi2,vi1,vi1,vi20,(.slice (some ⟨(nat_lit 0),(nat_lit 0),none⟩) (nat_lit 2) (nat_lit 2)),vi5,vi1])) (.n (.n (.n .e gc3 .e) none (.n (.n (.n .e (some (.cells [vi1,vi3,vi30,vi32,vi39,vi40,vi3,vi4,vi2,vi3,vi1,vi2,vi1,vi1,vi20,(.slice (some ⟨(nat_lit 0),(nat_lit 0),none⟩) (nat_lit 2) (nat_lit 2)),vi5,vi1])) .e) none .e) none (.n .e gc12 .e))) none (.n (.n .e (some (.cells [vi7,vi9,vi28,vi31,vi40,vi41,vi3,vi4,vi2,vi3,vi1,vi2,vi1,vi1,vi20,(.slice (some ⟨(nat_lit 0),(nat_lit 0),none⟩) (nat_lit 2) (nat_lit 2)),vi5,vi1])) .e) (some (.map (nat_lit 7) .true [(ga2,ga3),(ga4,ga3),(ga5,ga3),(ga6,ga7),(ga8,ga7),(ga9,ga7),(ga10,ga7),(ga11,ga12),(ga13,ga3),(ga14,ga12),(ga0,ga1),(ga16,ga7),(ga17,ga7),(ga18,ga7),(ga19,ga12),(ga20,ga12),(ga21,ga3),(ga22,ga12),(ga15,ga1),(ga24,ga3),(ga25,ga3),(ga23,ga3)])) (.n (.n .e none (.n .e gc15 .e)) none .e)))) gc4 (.n (.n (.n (.n .e gc5 .e) none (.n (.n (.n .e gc16 .e) none .e) gc6 .e)) none (.n (.n .e gc6 .e) gc7 (.n (.n (.n .e gc6 .e) none .e) none .e))) none (.n (.n (.n .e gc8 .e) (some (.cells [vi4,vi6,vi30,vi32,vi40,vi41,vi3,vi4,vi2,vi3,vi1,vi2,vi1,vi1,vi20,(.slice (some ⟨(nat_lit 0),(nat_lit 0),none⟩) (nat_lit 2) (nat_lit 2)),vi5,vi1])) (.n (.n (.n .e gc6 .e) gc10 .e) none .e)) none (.n (.n .e gc17 .e) (some (.cells [(.map (some (nat_lit 13)))])) (.n .e none (.n (.n .e gc18 .e) none .e)))))),(nat_lit 124),(nat_lit 79),[(nat_lit 74),(nat_lit 73),(nat_lit 78)]⟩,ga7,(nat_lit 124),[(nat_lit 13),(nat_lit 74),(nat_lit 73),(nat_lit 78)],[((nat_lit 13),(some (.map (nat_lit 7) .true [(ga2,ga3),(ga4,ga3),(ga5,ga3),(ga6,ga7),(ga8,ga7),(ga9,ga7),(ga10,ga7),(ga11,ga12),(ga13,ga3),(ga14,ga12),(ga0,ga1),(ga16,ga7),(ga17,ga7),(ga18,ga7),(ga19,ga12),(ga20,ga12),(ga21,ga3),(ga22,ga12),(ga15,ga1),(ga24,ga3),(ga25,ga3),(ga23,ga3),(ga26,ga7)])))]⟩
theorem c1_3_ok : CFact Go.Proofs.Try.prog c1_3 := cfact mixed tab_ok kb1_ok (n := 10000) (by kernel_rfl) (by kernel_rfl)
def c1_4 : Chg := ⟨(.func (.func (nat_lit 77)) ⟨[]⟩ ⟨[gp0,gp1,gp2,gp3]⟩),[ga27],⟨(.n (.n (.n (.n (.n .e (some (.cells [(.func (.func (nat_lit 77)) ⟨[]⟩ ⟨[gp0,gp1,gp2,gp3]⟩)])) (.n (.n .e gc13 .e) none .e)) none (.n .e gc0 .e)) none (.n (.n .e (some (.cells [vi4,vi6,vi30,vi32,vi40,vi41,vi3,vi4,vi2,vi3,vi1,vi2,vi1,vi1,vi20,(.slice (some ⟨(nat_lit 0),(nat_lit 0),none⟩) (nat_lit 2) (nat_lit 2)),vi5,vi1])) .e) gc1 (.n (.n (.n (.n .e gc19 .e) gc14 .e) none .e) gc2 .e))) (some (.cells [vi4,vi6,vi30,vi32,vi40,vi41,vi3,vi4,vi2,vi3,vi1,vi2,vi1,vi1,vi20,(.slice (some ⟨(nat_lit 0),(nat_lit 0),none⟩) (nat_lit 2) (nat_lit 2)),vi5,vi1])) (.n (.n (.n .e gc3 .e) none (.n (.n (.n .e (some (.cells [vi3,vi4,vi30,vi32,vi39,vi40,vi3,vi4,vi2,vi3,vi1,vi2,vi1,vi1,vi20,(.slice (some ⟨(nat_lit 0),(nat_lit 0),none⟩) (nat_lit 2) (nat_lit 2)),vi5,vi1])) .e) none .e) none (.n .e gc12 .e))) none (.n (.n .e (some (.cells [vi7,vi9,vi28,vi31,vi40,vi41,vi3,vi4,vi2,vi3,vi1,vi2,vi1,vi1,vi20,(.slice (some ⟨(nat_lit 0),(nat_lit 0),none⟩) (nat_lit 2) (nat_lit 2)),vi5,vi1])) .e) (some (.map (nat_lit 7) .true [(ga2,ga3),(ga4,ga3),(ga5,ga3),(ga6,ga7),(ga8,ga7),(ga9,ga7),(ga10,ga7),(ga11,ga12),(ga13,ga3),(ga14,ga12),(ga0,ga1),(ga16,ga7),(ga17,ga7),(ga18,ga7),(ga19,ga12),(ga20,ga12),(ga21,ga3),(ga22,ga12),(ga15,ga1),(ga24,ga3),(ga25,ga3),(ga23,ga3),(ga26,ga7),(ga28,ga7)])) (.n (.n .e none (.n .e gc15 .e)) none .e)))) gc4 (.n (.n (.n (.n .e gc5 .e) none (.n (.n (.n .e gc16 .e) none .e) gc6 .e)) none (.n (.n .e gc6 .e) gc7 (.n (.n (.n .e gc6 .e) none .e) none (.n .e none (.n .e gc20 .e))))) none (.n (.n (.n .e gc8 .e) (some (.cells [vi4,vi6,vi30,vi32,vi40,vi41,vi3,vi4,vi2,vi3,vi1,vi2,vi1,vi1,vi20,(.slice (some ⟨(nat_lit 0),(nat_lit 0),none⟩) (nat_lit 2) (nat_lit 2)),vi5,vi1])) (.n (.n (.n .e gc16 .e) gc10 .e) none .e)) none (.n (.n .e gc17 .e) (some (.cells [(.map (some (nat_lit 13)))])) (.n .e none (.n (.n .e gc18 .e) none .e)))))),(nat_lit 154),(nat_lit 79),[(nat_lit 13),(nat_lit 74),(nat_lit 73),(nat_lit 78)]⟩,ga7,(nat_lit 154),[(nat_lit 13),(nat_lit 74),(nat_lit 73),(nat_lit 78)],[((nat_lit 13),(some (.map (nat_lit 7) .true [(ga2,ga3),(ga4,ga3),(ga5,ga3),(ga6,ga7),(ga8,ga7),(ga9,ga7),(ga10,ga7),(ga11,ga12),(ga13,ga3),(ga14,ga12),(ga0,ga1),(ga16,ga7),(ga17,ga7),(ga18,ga7),(ga19,ga12),(ga20,ga12),(ga21,ga3),(ga22,ga12),(ga15,ga1),(ga24,ga3),(ga25,ga3),(ga23,ga3),(ga26,ga7),(ga28,ga7),(ga29,ga3),(ga27,ga7)])))]⟩
theorem c1_4_ok : CFact Go.Proofs.Try.prog c1_4 := cfact mixed tab_ok kb1_ok (n := 10000) (by kernel_rfl) (by kernel_rfl)
def c1_5 : Chg := ⟨(.func (.func (nat_lit 77)) ⟨[]⟩ ⟨[gp0,gp1,gp2,gp3]⟩),[ga30],⟨(.n (.n (.n (.n (.n .e (some (.cells [(.func (.func (nat_lit 77)) ⟨[]⟩ ⟨[gp0,gp1,gp2,gp3]⟩)])) (.n (.n .e gc13 .e) none .e)) none (.n .e gc0 .e)) none (.n (.n .e (some (.cells [vi4,vi6,vi30,vi32,vi40,vi41,vi3,vi4,vi2,vi3,vi1,vi2,vi1,vi1,vi20,(.slice (some ⟨(nat_lit 0),(nat_lit 0),none⟩) (nat_lit 2) (nat_lit 2)),vi5,vi1])) .e) gc1 (.n (.n (.n (.n .e gc19 .e) gc14 .e) none .e) gc2 .e))) (some (.cells [vi4,vi6,vi30,vi32,vi40,vi41,vi3,vi4,vi2,vi3,vi1,vi2,vi1,vi1,vi20,(.slice (some ⟨(nat_lit 0),(nat_lit 0),none⟩) (nat_lit 2) (nat_lit 2)),vi5,vi1])) (.n (.n (.n .e gc3 .e) none (.n (.n (.n .e (some (.cells [vi4,vi4,vi30,vi32,vi39,vi40,vi3,vi4,vi2,vi3,vi1,vi2,vi1,vi1,vi20,(.slice (some ⟨(nat_lit 0),(nat_lit 0),none⟩) (nat_lit 2) (nat_lit 2)),vi5,vi1])) .e) none .e) none (.n .e gc12 .e))) none (.n (.n .e (some (.cells [vi7,vi9,vi28,vi31,vi40,vi41,vi3,vi4,vi2,vi3,vi1,vi2,vi1,vi1,vi20,(.slice (some ⟨(nat_lit 0),(nat_lit 0),none⟩) (nat_lit 2) (nat_lit 2)),vi5,vi1])) .e) (some (.map (nat_lit 7) .true [(ga2,ga3),(ga4,ga3),(ga5,ga3),(ga6,ga7),(ga8,ga7),(ga9,ga7),(ga10,ga7),(ga11,ga12),(ga13,ga3),(ga14,ga12),(ga0,ga1),(ga16,ga7),(ga17,ga7),(ga18,ga7),(ga19,ga12),(ga20,ga12),(ga21,ga3),(ga22,ga12),(ga15,ga1),(ga24,ga3),(ga25,ga3),(ga23,ga3),(ga26,ga7),(ga28,ga7),(ga29,ga3),(ga27,ga7)])) (.n (.n .e none (.n .e gc15 .e)) none .e)))) gc4 (.n (.n (.n (.n .e gc5 .e) none (.n (.n (.n .e gc16 .e) none .e) gc6 .e)) none (.n (.n .e gc6 .e) gc7 (.n (.n (.n .e gc6 .e) none .e) none (.n .e none (.n .e gc20 .e))))) none (.n (.n (.n .e gc8 .e) (some (.cells [vi4,vi6,vi30,vi32,vi40,vi41,vi3,vi4,vi2,vi3,vi1,vi2,vi1,vi1,vi20,(.slice (some ⟨(nat_lit 0),(nat_lit 0),none⟩) (nat_lit 2) (nat_lit 2)),vi5,vi1])) (.n (.n (.n .e gc16 .e) gc10 .e) none (.n (.n (.n .e gc21 .e) none .e) none .e))) none (.n (.n .e gc17 .e) (some (.cells [(.map (some (nat_lit 13)))])) (.n .e none (.n (.n .e gc18 .e) none .e)))))),(nat_lit 169),(nat_lit 79),[(nat_lit 13),(nat_lit 74),(nat_lit 73),(nat_lit 78)]⟩,ga7,(nat_lit 169),[(nat_lit 13),(nat_lit 74),(nat_lit 73),(nat_lit 78)],[((nat_lit 13),(some (.map (nat_lit 7) .true [(ga2,ga3),(ga4,ga3),(ga5,ga3),(ga6,ga7),(ga8,ga7),(ga9,ga7),(ga10,ga7),(ga11,ga12),(ga13,ga3),(ga14,ga12),(ga0,ga1),(ga16,ga7),(ga17,ga7),(ga18,ga7),(ga19,ga12),(ga20,ga12),(ga21,ga3),(ga22,ga12),(ga15,ga1),(ga24,ga3),(ga25,ga3),(ga23,ga3),(ga26,ga7),(ga28,ga7),(ga29,ga3),(ga27,ga7),(ga31,ga3),(ga32,ga3),(ga33,ga3),(ga30,ga7)])))]⟩
theorem c1_5_ok : CFact Go.Proofs.Try.prog c1_5 := cfact mixed tab_ok kb1_ok (n := 10000) (by kernel_rfl) (by kernel_rfl)
def kbh1_lg : List (Nat × List Gen) := []
def kbh1_lc : List (Nat × List Chg) := [((nat_lit 77),[c1_0,c1_1,c1_2,c1_3,c1_4,c1_5])]
def kbh1 : Kb := { w := .e,g := .e,c := (.n (.n .e none (.n .e none (.n .e none (.n (.n (.n .e (some [c1_0,c1_1,c1_2,c1_3,c1_4,c1_5]) .e) none .e) none .e)))) none .e) }
theorem kbh1_ok : KbOK Go.Proofs.Try.prog kbh1 := kbOK (lw := []) (lg := kbh1_lg) (lc := kbh1_lc) .nil .nil (.cons (.cons c1_0_ok (.cons c1_1_ok (.cons c1_2_ok (.cons c1_3_ok (.cons c1_4_ok (.cons c1_5_ok .nil)))))) rfl .nil) (by kernel_rfl) (by kernel_rfl) (by kernel_rfl)
def gh1 : Gen := ⟨(nat_lit 14),[(.agg ⟨[vi4,vi6,vi30,vi32,vi40,vi41,vi3,vi4,vi2,vi3,vi1,vi2,vi1,vi1,vi20,(.slice (some ⟨(nat_lit 0),(nat_lit 0),none⟩) (nat_lit 2) (nat_lit 2)),vi5,vi1]⟩)],none,(nat_lit 0),[(.cells [vm1,vi1,vi0,vi3])],(.tuple ⟨[vi2,vi2,vi0]⟩)⟩
theorem gh1_ok : GFact Go.Proofs.Try.prog gh1 := gfact mixed tab_ok kbh1_ok (n := 10000) (by kernel_rfl) (by kernel_rfl)
end

end Go.Sim
