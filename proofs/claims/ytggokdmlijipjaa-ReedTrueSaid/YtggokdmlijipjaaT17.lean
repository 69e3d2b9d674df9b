/- Part 17 of the proof: FactH1, FactM, FactR, SimDen, Spoil, Pass. -/
import Derived.Test.YtggokdmlijipjaaT15
import Derived.Test.YtggokdmlijipjaaT16
import Derived.Test.YtggokdmlijipjaaT09
import Derived.Test.YtggokdmlijipjaaT10
namespace Go.Sim
set_option linter.all false
open Go
set_option maxRecDepth 1000000
variable [Rho] [Asm] [SymOK]
noncomputable section
def c1_0 : Chg := ⟨(.func (.func (nat_lit 59)) ⟨[]⟩ ⟨[(.pointer (some ⟨(nat_lit 11),(nat_lit 0),none⟩)),(.pointer (some ⟨(nat_lit 14),(nat_lit 0),none⟩)),(.pointer (some ⟨(nat_lit 10),(nat_lit 0),none⟩)),(.pointer (some ⟨(nat_lit 15),(nat_lit 0),none⟩))]⟩),[(.agg ⟨[vi7,vi7,vi28,vi31,vi40,vi41,vi3]⟩)],⟨(.n (.n (.n (.n (.n .e (some (.cells [(.func (.func (nat_lit 59)) ⟨[]⟩ ⟨[(.pointer (some ⟨(nat_lit 11),(nat_lit 0),none⟩)),(.pointer (some ⟨(nat_lit 14),(nat_lit 0),none⟩)),(.pointer (some ⟨(nat_lit 10),(nat_lit 0),none⟩)),(.pointer (some ⟨(nat_lit 15),(nat_lit 0),none⟩))]⟩)])) .e) none (.n .e (some (.cells [vi7,vi10])) .e)) none (.n (.n .e (some (.cells [vi4,vi6,vi30,vi32,vi40,vi41,vi3,vi4,vi2,vi3,vi1,vi2,vi1,vi1,vi20,(.slice (some ⟨(nat_lit 0),(nat_lit 0),none⟩) (nat_lit 2) (nat_lit 2)),vi5,vi1])) .e) (some (.cells [vm2,vi2])) (.n .e (some (.cells [vi7,vi7])) .e))) (some (.cells [vi4,vi6,vi30,vi32,vi40,vi41,vi3,vi4,vi2,vi3,vi1,vi2,vi1,vi1,vi20,(.slice (some ⟨(nat_lit 0),(nat_lit 0),none⟩) (nat_lit 2) (nat_lit 2)),vi5,vi1])) (.n (.n (.n .e (some (.cells [vi0,vi0])) .e) none .e) none (.n (.n .e (some (.cells [vi7,vi7,vi28,vi31,vi40,vi41,vi3,vi4,vi2,vi3,vi1,vi2,vi1,vi1,vi20,(.slice (some ⟨(nat_lit 0),(nat_lit 0),none⟩) (nat_lit 2) (nat_lit 2)),vi5,vi1])) .e) (some (.map (nat_lit 7) .true [])) .e))) (some (.cells [vm1,vi1,vi0,vi3])) (.n (.n (.n (.n .e (some (.cells [vi4,vi6,vi30,vi32,vi40,vi41,vi4])) .e) none (.n .e (some (.cells [vi1])) .e)) none (.n (.n .e (some (.cells [vi1])) .e) (some (.cells [vm5,vi5])) .e)) none (.n (.n (.n .e (some (.cells [vi0,vi5])) .e) (some (.cells [vi4,vi6,vi30,vi32,vi40,vi41,vi3,vi4,vi2,vi3,vi1,vi2,vi1,vi1,vi20,(.slice (some ⟨(nat_lit 0),(nat_lit 0),none⟩) (nat_lit 2) (nat_lit 2)),vi5,vi1])) .e) none (.n (.n .e (some (.cells [vi0])) .e) (some (.cells [(.map (some (nat_lit 13)))])) .e)))),(nat_lit 42),(nat_lit 27),[(nat_lit 21),(nat_lit 26)]⟩,(.agg ⟨[vi2,vi3]⟩),(nat_lit 42),[(nat_lit 13),(nat_lit 21),(nat_lit 26)],[((nat_lit 13),(some (.map (nat_lit 7) .true [((.agg ⟨[vi13,vi13,vi24,vi29,vi40,vi41,vi1]⟩),(.agg ⟨[vi0,vi5]⟩)),((.agg ⟨[vi7,vi7,vi26,vi30,vi39,vi40,vi1]⟩),(.agg ⟨[vi0,vi5]⟩)),((.agg ⟨[vi10,vi10,vi26,vi30,vi40,vi41,vi2]⟩),(.agg ⟨[vi0,vi5]⟩)),((.agg ⟨[vi4,vi4,vi28,vi31,vi39,vi40,vi2]⟩),(.agg ⟨[vi2,vi1]⟩)),((.agg ⟨[vi1,vi3,vi28,vi31,vi38,vi39,vi1]⟩),(.agg ⟨[vi2,vi1]⟩)),((.agg ⟨[vi2,vi3,vi28,vi31,vi38,vi39,vi1]⟩),(.agg ⟨[vi2,vi1]⟩)),((.agg ⟨[vi3,vi3,vi28,vi31,vi38,vi39,vi1]⟩),(.agg ⟨[vi2,vi1]⟩)),((.agg ⟨[vi4,vi5,vi28,vi31,vi39,vi40,vi2]⟩),(.agg ⟨[vi2,vi2]⟩)),((.agg ⟨[vi8,vi8,vi26,vi30,vi39,vi40,vi1]⟩),(.agg ⟨[vi0,vi5]⟩)),((.agg ⟨[vi5,vi5,vi28,vi31,vi39,vi40,vi2]⟩),(.agg ⟨[vi2,vi2]⟩)),((.agg ⟨[vi7,vi7,vi28,vi31,vi40,vi41,vi3]⟩),(.agg ⟨[vi2,vi3]⟩))])))]⟩
theorem c1_0_ok : CFact Go.Proofs.Try.prog c1_0 := cfact mixed tab_ok kb1_ok (n := 10000) (by kernel_rfl) (by kernel_rfl)
def c1_1 : Chg := ⟨(.func (.func (nat_lit 59)) ⟨[]⟩ ⟨[(.pointer (some ⟨(nat_lit 11),(nat_lit 0),none⟩)),(.pointer (some ⟨(nat_lit 14),(nat_lit 0),none⟩)),(.pointer (some ⟨(nat_lit 10),(nat_lit 0),none⟩)),(.pointer (some ⟨(nat_lit 15),(nat_lit 0),none⟩))]⟩),[(.agg ⟨[vi7,vi8,vi28,vi31,vi40,vi41,vi3]⟩)],⟨(.n (.n (.n (.n (.n .e (some (.cells [(.func (.func (nat_lit 59)) ⟨[]⟩ ⟨[(.pointer (some ⟨(nat_lit 11),(nat_lit 0),none⟩)),(.pointer (some ⟨(nat_lit 14),(nat_lit 0),none⟩)),(.pointer (some ⟨(nat_lit 10),(nat_lit 0),none⟩)),(.pointer (some ⟨(nat_lit 15),(nat_lit 0),none⟩))]⟩)])) .e) none (.n .e (some (.cells [vi7,vi10])) .e)) none (.n (.n .e (some (.cells [vi4,vi6,vi30,vi32,vi40,vi41,vi3,vi4,vi2,vi3,vi1,vi2,vi1,vi1,vi20,(.slice (some ⟨(nat_lit 0),(nat_lit 0),none⟩) (nat_lit 2) (nat_lit 2)),vi5,vi1])) .e) (some (.cells [vm2,vi2])) (.n .e (some (.cells [vi7,vi7])) .e))) (some (.cells [vi4,vi6,vi30,vi32,vi40,vi41,vi3,vi4,vi2,vi3,vi1,vi2,vi1,vi1,vi20,(.slice (some ⟨(nat_lit 0),(nat_lit 0),none⟩) (nat_lit 2) (nat_lit 2)),vi5,vi1])) (.n (.n (.n .e (some (.cells [vi0,vi0])) .e) none .e) none (.n (.n .e (some (.cells [vi7,vi8,vi28,vi31,vi40,vi41,vi3,vi4,vi2,vi3,vi1,vi2,vi1,vi1,vi20,(.slice (some ⟨(nat_lit 0),(nat_lit 0),none⟩) (nat_lit 2) (nat_lit 2)),vi5,vi1])) .e) (some (.map (nat_lit 7) .true [((.agg ⟨[vi13,vi13,vi24,vi29,vi40,vi41,vi1]⟩),(.agg ⟨[vi0,vi5]⟩)),((.agg ⟨[vi7,vi7,vi26,vi30,vi39,vi40,vi1]⟩),(.agg ⟨[vi0,vi5]⟩)),((.agg ⟨[vi10,vi10,vi26,vi30,vi40,vi41,vi2]⟩),(.agg ⟨[vi0,vi5]⟩)),((.agg ⟨[vi4,vi4,vi28,vi31,vi39,vi40,vi2]⟩),(.agg ⟨[vi2,vi1]⟩)),((.agg ⟨[vi1,vi3,vi28,vi31,vi38,vi39,vi1]⟩),(.agg ⟨[vi2,vi1]⟩)),((.agg ⟨[vi2,vi3,vi28,vi31,vi38,vi39,vi1]⟩),(.agg ⟨[vi2,vi1]⟩)),((.agg ⟨[vi3,vi3,vi28,vi31,vi38,vi39,vi1]⟩),(.agg ⟨[vi2,vi1]⟩)),((.agg ⟨[vi4,vi5,vi28,vi31,vi39,vi40,vi2]⟩),(.agg ⟨[vi2,vi2]⟩)),((.agg ⟨[vi8,vi8,vi26,vi30,vi39,vi40,vi1]⟩),(.agg ⟨[vi0,vi5]⟩)),((.agg ⟨[vi5,vi5,vi28,vi31,vi39,vi40,vi2]⟩),(.agg ⟨[vi2,vi2]⟩)),((.agg ⟨[vi7,vi7,vi28,vi31,vi40,vi41,vi3]⟩),(.agg ⟨[vi2,vi3]⟩))])) .e))) (some (.cells [vm1,vi1,vi0,vi3])) (.n (.n (.n (.n .e (some (.cells [vi4,vi6,vi30,vi32,vi40,vi41,vi4])) .e) none (.n .e (some (.cells [vi1])) .e)) none (.n (.n .e (some (.cells [vi1])) .e) (some (.cells [vm5,vi5])) .e)) none (.n (.n (.n .e (some (.cells [vi0,vi5])) .e) (some (.cells [vi4,vi6,vi30,vi32,vi40,vi41,vi3,vi4,vi2,vi3,vi1,vi2,vi1,vi1,vi20,(.slice (some ⟨(nat_lit 0),(nat_lit 0),none⟩) (nat_lit 2) (nat_lit 2)),vi5,vi1])) (.n (.n .e (some (.cells [vi7,vi8])) .e) none .e)) none (.n (.n .e (some (.cells [vi4])) .e) (some (.cells [(.map (some (nat_lit 13)))])) .e)))),(nat_lit 57),(nat_lit 27),[(nat_lit 22),(nat_lit 13),(nat_lit 21),(nat_lit 26)]⟩,(.agg ⟨[vi2,vi3]⟩),(nat_lit 57),[(nat_lit 22),(nat_lit 13),(nat_lit 21),(nat_lit 26)],[((nat_lit 13),(some (.map (nat_lit 7) .true [((.agg ⟨[vi13,vi13,vi24,vi29,vi40,vi41,vi1]⟩),(.agg ⟨[vi0,vi5]⟩)),((.agg ⟨[vi7,vi7,vi26,vi30,vi39,vi40,vi1]⟩),(.agg ⟨[vi0,vi5]⟩)),((.agg ⟨[vi10,vi10,vi26,vi30,vi40,vi41,vi2]⟩),(.agg ⟨[vi0,vi5]⟩)),((.agg ⟨[vi4,vi4,vi28,vi31,vi39,vi40,vi2]⟩),(.agg ⟨[vi2,vi1]⟩)),((.agg ⟨[vi1,vi3,vi28,vi31,vi38,vi39,vi1]⟩),(.agg ⟨[vi2,vi1]⟩)),((.agg ⟨[vi2,vi3,vi28,vi31,vi38,vi39,vi1]⟩),(.agg ⟨[vi2,vi1]⟩)),((.agg ⟨[vi3,vi3,vi28,vi31,vi38,vi39,vi1]⟩),(.agg ⟨[vi2,vi1]⟩)),((.agg ⟨[vi4,vi5,vi28,vi31,vi39,vi40,vi2]⟩),(.agg ⟨[vi2,vi2]⟩)),((.agg ⟨[vi8,vi8,vi26,vi30,vi39,vi40,vi1]⟩),(.agg ⟨[vi0,vi5]⟩)),((.agg ⟨[vi5,vi5,vi28,vi31,vi39,vi40,vi2]⟩),(.agg ⟨[vi2,vi2]⟩)),((.agg ⟨[vi7,vi7,vi28,vi31,vi40,vi41,vi3]⟩),(.agg ⟨[vi2,vi3]⟩)),((.agg ⟨[vi2,vi4,vi28,vi31,vi38,vi39,vi1]⟩),(.agg ⟨[vi2,vi1]⟩)),((.agg ⟨[vi3,vi4,vi28,vi31,vi38,vi39,vi1]⟩),(.agg ⟨[vi2,vi1]⟩)),((.agg ⟨[vi4,vi4,vi28,vi31,vi38,vi39,vi1]⟩),(.agg ⟨[vi2,vi1]⟩)),((.agg ⟨[vi4,vi6,vi28,vi31,vi39,vi40,vi2]⟩),(.agg ⟨[vi2,vi2]⟩)),((.agg ⟨[vi5,vi6,vi28,vi31,vi39,vi40,vi2]⟩),(.agg ⟨[vi2,vi2]⟩)),((.agg ⟨[vi9,vi9,vi26,vi30,vi39,vi40,vi1]⟩),(.agg ⟨[vi0,vi5]⟩)),((.agg ⟨[vi6,vi6,vi28,vi31,vi39,vi40,vi2]⟩),(.agg ⟨[vi2,vi2]⟩)),((.agg ⟨[vi7,vi8,vi28,vi31,vi40,vi41,vi3]⟩),(.agg ⟨[vi2,vi3]⟩))])))]⟩
theorem c1_1_ok : CFact Go.Proofs.Try.prog c1_1 := cfact mixed tab_ok kb1_ok (n := 10000) (by kernel_rfl) (by kernel_rfl)
def c1_2 : Chg := ⟨(.func (.func (nat_lit 59)) ⟨[]⟩ ⟨[(.pointer (some ⟨(nat_lit 11),(nat_lit 0),none⟩)),(.pointer (some ⟨(nat_lit 14),(nat_lit 0),none⟩)),(.pointer (some ⟨(nat_lit 10),(nat_lit 0),none⟩)),(.pointer (some ⟨(nat_lit 15),(nat_lit 0),none⟩))]⟩),[(.agg ⟨[vi7,vi9,vi28,vi31,vi40,vi41,vi3]⟩)],⟨(.n (.n (.n (.n (.n .e (some (.cells [(.func (.func (nat_lit 59)) ⟨[]⟩ ⟨[(.pointer (some ⟨(nat_lit 11),(nat_lit 0),none⟩)),(.pointer (some ⟨(nat_lit 14),(nat_lit 0),none⟩)),(.pointer (some ⟨(nat_lit 10),(nat_lit 0),none⟩)),(.pointer (some ⟨(nat_lit 15),(nat_lit 0),none⟩))]⟩)])) .e) none (.n .e (some (.cells [vi7,vi10])) .e)) none (.n (.n .e (some (.cells [vi4,vi6,vi30,vi32,vi40,vi41,vi3,vi4,vi2,vi3,vi1,vi2,vi1,vi1,vi20,(.slice (some ⟨(nat_lit 0),(nat_lit 0),none⟩) (nat_lit 2) (nat_lit 2)),vi5,vi1])) .e) (some (.cells [vm2,vi2])) (.n .e (some (.cells [vi7,vi7])) .e))) (some (.cells [vi4,vi6,vi30,vi32,vi40,vi41,vi3,vi4,vi2,vi3,vi1,vi2,vi1,vi1,vi20,(.slice (some ⟨(nat_lit 0),(nat_lit 0),none⟩) (nat_lit 2) (nat_lit 2)),vi5,vi1])) (.n (.n (.n .e (some (.cells [vi0,vi0])) .e) none (.n .e none (.n .e (some (.cells [vi7,vi9])) .e))) none (.n (.n .e (some (.cells [vi7,vi9,vi28,vi31,vi40,vi41,vi3,vi4,vi2,vi3,vi1,vi2,vi1,vi1,vi20,(.slice (some ⟨(nat_lit 0),(nat_lit 0),none⟩) (nat_lit 2) (nat_lit 2)),vi5,vi1])) .e) (some (.map (nat_lit 7) .true [((.agg ⟨[vi13,vi13,vi24,vi29,vi40,vi41,vi1]⟩),(.agg ⟨[vi0,vi5]⟩)),((.agg ⟨[vi7,vi7,vi26,vi30,vi39,vi40,vi1]⟩),(.agg ⟨[vi0,vi5]⟩)),((.agg ⟨[vi10,vi10,vi26,vi30,vi40,vi41,vi2]⟩),(.agg ⟨[vi0,vi5]⟩)),((.agg ⟨[vi4,vi4,vi28,vi31,vi39,vi40,vi2]⟩),(.agg ⟨[vi2,vi1]⟩)),((.agg ⟨[vi1,vi3,vi28,vi31,vi38,vi39,vi1]⟩),(.agg ⟨[vi2,vi1]⟩)),((.agg ⟨[vi2,vi3,vi28,vi31,vi38,vi39,vi1]⟩),(.agg ⟨[vi2,vi1]⟩)),((.agg ⟨[vi3,vi3,vi28,vi31,vi38,vi39,vi1]⟩),(.agg ⟨[vi2,vi1]⟩)),((.agg ⟨[vi4,vi5,vi28,vi31,vi39,vi40,vi2]⟩),(.agg ⟨[vi2,vi2]⟩)),((.agg ⟨[vi8,vi8,vi26,vi30,vi39,vi40,vi1]⟩),(.agg ⟨[vi0,vi5]⟩)),((.agg ⟨[vi5,vi5,vi28,vi31,vi39,vi40,vi2]⟩),(.agg ⟨[vi2,vi2]⟩)),((.agg ⟨[vi7,vi7,vi28,vi31,vi40,vi41,vi3]⟩),(.agg ⟨[vi2,vi3]⟩)),((.agg ⟨[vi2,vi4,vi28,vi31,vi38,vi39,vi1]⟩),(.agg ⟨[vi2,vi1]⟩)),((.agg ⟨[vi3,vi4,vi28,vi31,vi38,vi39,vi1]⟩),(.agg ⟨[vi2,vi1]⟩)),((.agg ⟨[vi4,vi4,vi28,vi31,vi38,vi39,vi1]⟩),(.agg ⟨[vi2,vi1]⟩)),((.agg ⟨[vi4,vi6,vi28,vi31,vi39,vi40,vi2]⟩),(.agg ⟨[vi2,vi2]⟩)),((.agg ⟨[vi5,vi6,vi28,vi31,vi39,vi40,vi2]⟩),(.agg ⟨[vi2,vi2]⟩)),((.agg ⟨[vi9,vi9,vi26,vi30,vi39,vi40,vi1]⟩),(.agg ⟨[vi0,vi5]⟩)),((.agg ⟨[vi6,vi6,vi28,vi31,vi39,vi40,vi2]⟩),(.agg ⟨[vi2,vi2]⟩)),((.agg ⟨[vi7,vi8,vi28,vi31,vi40,vi41,vi3]⟩),(.agg ⟨[vi2,vi3]⟩))])) .e))) (some (.cells [vm1,vi1,vi0,vi3])) (.n (.n (.n (.n .e (some (.cells [vi4,vi6,vi30,vi32,vi40,vi41,vi4])) .e) none (.n .e (some (.cells [vi1])) .e)) none (.n (.n .e (some (.cells [vi1])) .e) (some (.cells [vm5,vi5])) .e)) none (.n (.n (.n .e (some (.cells [vi0,vi5])) .e) (some (.cells [vi4,vi6,vi30,vi32,vi40,vi41,vi3,vi4,vi2,vi3,vi1,vi2,vi1,vi1,vi20,(.slice (some ⟨(nat_lit 0),(nat_lit 0),none⟩) (nat_lit 2) (nat_lit 2)),vi5,vi1])) (.n (.n .e (some (.cells [vi7,vi8])) .e) none .e)) none (.n (.n .e (some (.cells [vi4])) .e) (some (.cells [(.map (some (nat_lit 13)))])) .e)))),(nat_lit 72),(nat_lit 27),[(nat_lit 22),(nat_lit 13),(nat_lit 21),(nat_lit 26)]⟩,(.agg ⟨[vi0,vi5]⟩),(nat_lit 72),[(nat_lit 22),(nat_lit 13),(nat_lit 21),(nat_lit 26)],[((nat_lit 13),(some (.map (nat_lit 7) .true [((.agg ⟨[vi13,vi13,vi24,vi29,vi40,vi41,vi1]⟩),(.agg ⟨[vi0,vi5]⟩)),((.agg ⟨[vi7,vi7,vi26,vi30,vi39,vi40,vi1]⟩),(.agg ⟨[vi0,vi5]⟩)),((.agg ⟨[vi10,vi10,vi26,vi30,vi40,vi41,vi2]⟩),(.agg ⟨[vi0,vi5]⟩)),((.agg ⟨[vi4,vi4,vi28,vi31,vi39,vi40,vi2]⟩),(.agg ⟨[vi2,vi1]⟩)),((.agg ⟨[vi1,vi3,vi28,vi31,vi38,vi39,vi1]⟩),(.agg ⟨[vi2,vi1]⟩)),((.agg ⟨[vi2,vi3,vi28,vi31,vi38,vi39,vi1]⟩),(.agg ⟨[vi2,vi1]⟩)),((.agg ⟨[vi3,vi3,vi28,vi31,vi38,vi39,vi1]⟩),(.agg ⟨[vi2,vi1]⟩)),((.agg ⟨[vi4,vi5,vi28,vi31,vi39,vi40,vi2]⟩),(.agg ⟨[vi2,vi2]⟩)),((.agg ⟨[vi8,vi8,vi26,vi30,vi39,vi40,vi1]⟩),(.agg ⟨[vi0,vi5]⟩)),((.agg ⟨[vi5,vi5,vi28,vi31,vi39,vi40,vi2]⟩),(.agg ⟨[vi2,vi2]⟩)),((.agg ⟨[vi7,vi7,vi28,vi31,vi40,vi41,vi3]⟩),(.agg ⟨[vi2,vi3]⟩)),((.agg ⟨[vi2,vi4,vi28,vi31,vi38,vi39,vi1]⟩),(.agg ⟨[vi2,vi1]⟩)),((.agg ⟨[vi3,vi4,vi28,vi31,vi38,vi39,vi1]⟩),(.agg ⟨[vi2,vi1]⟩)),((.agg ⟨[vi4,vi4,vi28,vi31,vi38,vi39,vi1]⟩),(.agg ⟨[vi2,vi1]⟩)),((.agg ⟨[vi4,vi6,vi28,vi31,vi39,vi40,vi2]⟩),(.agg ⟨[vi2,vi2]⟩)),((.agg ⟨[vi5,vi6,vi28,vi31,vi39,vi40,vi2]⟩),(.agg ⟨[vi2,vi2]⟩)),((.agg ⟨[vi9,vi9,vi26,vi30,vi39,vi40,vi1]⟩),(.agg ⟨[vi0,vi5]⟩)),((.agg ⟨[vi6,vi6,vi28,vi31,vi39,vi40,vi2]⟩),(.agg ⟨[vi2,vi2]⟩)),((.agg ⟨[vi7,vi8,vi28,vi31,vi40,vi41,vi3]⟩),(.agg ⟨[vi2,vi3]⟩)),((.agg ⟨[vi3,vi5,vi28,vi31,vi38,vi39,vi1]⟩),(.agg ⟨[vi0,vi5]⟩)),((.agg ⟨[vi5,vi7,vi28,vi31,vi39,vi40,vi2]⟩),(.agg ⟨[vi0,vi5]⟩)),((.agg ⟨[vi7,vi9,vi28,vi31,vi40,vi41,vi3]⟩),(.agg ⟨[vi0,vi5]⟩))])))]⟩
theorem c1_2_ok : CFact Go.Proofs.Try.prog c1_2 := cfact mixed tab_ok kb1_ok (n := 10000) (by kernel_rfl) (by kernel_rfl)
def c1_3 : Chg := ⟨(.func (.func (nat_lit 59)) ⟨[]⟩ ⟨[(.pointer (some ⟨(nat_lit 11),(nat_lit 0),none⟩)),(.pointer (some ⟨(nat_lit 14),(nat_lit 0),none⟩)),(.pointer (some ⟨(nat_lit 10),(nat_lit 0),none⟩)),(.pointer (some ⟨(nat_lit 15),(nat_lit 0),none⟩))]⟩),[(.agg ⟨[vi1,vi3,vi30,vi32,vi39,vi40,vi3]⟩)],⟨(.n (.n (.n (.n (.n .e (some (.cells [(.func (.func (nat_lit 59)) ⟨[]⟩ ⟨[(.pointer (some ⟨(nat_lit 11),(nat_lit 0),none⟩)),(.pointer (some ⟨(nat_lit 14),(nat_lit 0),none⟩)),(.pointer (some ⟨(nat_lit 10),(nat_lit 0),none⟩)),(.pointer (some ⟨(nat_lit 15),(nat_lit 0),none⟩))]⟩)])) (.n (.n .e (some (.cells [vi1,vi1])) .e) none .e)) none (.n .e (some (.cells [vi7,vi10])) .e)) none (.n (.n .e (some (.cells [vi4,vi6,vi30,vi32,vi40,vi41,vi3,vi4,vi2,vi3,vi1,vi2,vi1,vi1,vi20,(.slice (some ⟨(nat_lit 0),(nat_lit 0),none⟩) (nat_lit 2) (nat_lit 2)),vi5,vi1])) .e) (some (.cells [vm2,vi2])) (.n (.n (.n .e (some (.cells [vi1,vi4])) .e) none .e) (some (.cells [vi7,vi7])) .e))) (some (.cells [vi4,vi6,vi30,vi32,vi40,vi41,vi3,vi4,vi2,vi3,vi1,vi2,vi1,vi1,vi20,(.slice (some ⟨(nat_lit 0),(nat_lit 0),none⟩) (nat_lit 2) (nat_lit 2)),vi5,vi1])) (.n (.n (.n .e (some (.cells [vi0,vi0])) .e) none (.n (.n (.n .e (some (.cells [vi1,vi3,vi30,vi32,vi39,vi40,vi3,vi4,vi2,vi3,vi1,vi2,vi1,vi1,vi20,(.slice (some ⟨(nat_lit 0),(nat_lit 0),none⟩) (nat_lit 2) (nat_lit 2)),vi5,vi1])) .e) none .e) none (.n .e (some (.cells [vi7,vi9])) .e))) none (.n (.n .e (some (.cells [vi7,vi9,vi28,vi31,vi40,vi41,vi3,vi4,vi2,vi3,vi1,vi2,vi1,vi1,vi20,(.slice (some ⟨(nat_lit 0),(nat_lit 0),none⟩) (nat_lit 2) (nat_lit 2)),vi5,vi1])) .e) (some (.map (nat_lit 7) .true [((.agg ⟨[vi13,vi13,vi24,vi29,vi40,vi41,vi1]⟩),(.agg ⟨[vi0,vi5]⟩)),((.agg ⟨[vi7,vi7,vi26,vi30,vi39,vi40,vi1]⟩),(.agg ⟨[vi0,vi5]⟩)),((.agg ⟨[vi10,vi10,vi26,vi30,vi40,vi41,vi2]⟩),(.agg ⟨[vi0,vi5]⟩)),((.agg ⟨[vi4,vi4,vi28,vi31,vi39,vi40,vi2]⟩),(.agg ⟨[vi2,vi1]⟩)),((.agg ⟨[vi1,vi3,vi28,vi31,vi38,vi39,vi1]⟩),(.agg ⟨[vi2,vi1]⟩)),((.agg ⟨[vi2,vi3,vi28,vi31,vi38,vi39,vi1]⟩),(.agg ⟨[vi2,vi1]⟩)),((.agg ⟨[vi3,vi3,vi28,vi31,vi38,vi39,vi1]⟩),(.agg ⟨[vi2,vi1]⟩)),((.agg ⟨[vi4,vi5,vi28,vi31,vi39,vi40,vi2]⟩),(.agg ⟨[vi2,vi2]⟩)),((.agg ⟨[vi8,vi8,vi26,vi30,vi39,vi40,vi1]⟩),(.agg ⟨[vi0,vi5]⟩)),((.agg ⟨[vi5,vi5,vi28,vi31,vi39,vi40,vi2]⟩),(.agg ⟨[vi2,vi2]⟩)),((.agg ⟨[vi7,vi7,vi28,vi31,vi40,vi41,vi3]⟩),(.agg ⟨[vi2,vi3]⟩)),((.agg ⟨[vi2,vi4,vi28,vi31,vi38,vi39,vi1]⟩),(.agg ⟨[vi2,vi1]⟩)),((.agg ⟨[vi3,vi4,vi28,vi31,vi38,vi39,vi1]⟩),(.agg ⟨[vi2,vi1]⟩)),((.agg ⟨[vi4,vi4,vi28,vi31,vi38,vi39,vi1]⟩),(.agg ⟨[vi2,vi1]⟩)),((.agg ⟨[vi4,vi6,vi28,vi31,vi39,vi40,vi2]⟩),(.agg ⟨[vi2,vi2]⟩)),((.agg ⟨[vi5,vi6,vi28,vi31,vi39,vi40,vi2]⟩),(.agg ⟨[vi2,vi2]⟩)),((.agg ⟨[vi9,vi9,vi26,vi30,vi39,vi40,vi1]⟩),(.agg ⟨[vi0,vi5]⟩)),((.agg ⟨[vi6,vi6,vi28,vi31,vi39,vi40,vi2]⟩),(.agg ⟨[vi2,vi2]⟩)),((.agg ⟨[vi7,vi8,vi28,vi31,vi40,vi41,vi3]⟩),(.agg ⟨[vi2,vi3]⟩)),((.agg ⟨[vi3,vi5,vi28,vi31,vi38,vi39,vi1]⟩),(.agg ⟨[vi0,vi5]⟩)),((.agg ⟨[vi5,vi7,vi28,vi31,vi39,vi40,vi2]⟩),(.agg ⟨[vi0,vi5]⟩)),((.agg ⟨[vi7,vi9,vi28,vi31,vi40,vi41,vi3]⟩),(.agg ⟨[vi0,vi5]⟩))])) (.n (.n .e none (.n .e (some (.cells [vi1,vi3])) .e)) none .e)))) (some (.cells [vm1,vi1,vi0,vi3])) (.n (.n (.n (.n .e (some (.cells [vi4,vi6,vi30,vi32,vi40,vi41,vi4])) .e) none (.n (.n (.n .e (some (.cells [vi2])) .e) none .e) (some (.cells [vi1])) .e)) none (.n (.n .e (some (.cells [vi1])) .e) (some (.cells [vm5,vi5])) (.n (.n (.n .e (some (.cells [vi1])) .e) none .e) none .e))) none (.n (.n (.n .e (some (.cells [vi0,vi5])) .e) (some (.cells [vi4,vi6,vi30,vi32,vi40,vi41,vi3,vi4,vi2,vi3,vi1,vi2,vi1,vi1,vi20,(.slice (some ⟨(nat_lit 0),(nat_lit 0),none⟩) (nat_lit 2) (nat_lit 2)),vi5,vi1])) (.n (.n (.n .e (some (.cells [vi1])) .e) (some (.cells [vi7,vi8])) .e) none .e)) none (.n (.n .e (some (.cells [vi6])) .e) (some (.cells [(.map (some (nat_lit 13)))])) (.n .e none (.n (.n .e (some (.cells [vi1,vi2])) .e) none .e)))))),(nat_lit 124),(nat_lit 79),[(nat_lit 74),(nat_lit 73),(nat_lit 78)]⟩,(.agg ⟨[vi2,vi1]⟩),(nat_lit 124),[(nat_lit 13),(nat_lit 74),(nat_lit 73),(nat_lit 78)],[((nat_lit 13),(some (.map (nat_lit 7) .true [((.agg ⟨[vi13,vi13,vi24,vi29,vi40,vi41,vi1]⟩),(.agg ⟨[vi0,vi5]⟩)),((.agg ⟨[vi7,vi7,vi26,vi30,vi39,vi40,vi1]⟩),(.agg ⟨[vi0,vi5]⟩)),((.agg ⟨[vi10,vi10,vi26,vi30,vi40,vi41,vi2]⟩),(.agg ⟨[vi0,vi5]⟩)),((.agg ⟨[vi4,vi4,vi28,vi31,vi39,vi40,vi2]⟩),(.agg ⟨[vi2,vi1]⟩)),((.agg ⟨[vi1,vi3,vi28,vi31,vi38,vi39,vi1]⟩),(.agg ⟨[vi2,vi1]⟩)),((.agg ⟨[vi2,vi3,vi28,vi31,vi38,vi39,vi1]⟩),(.agg ⟨[vi2,vi1]⟩)),((.agg ⟨[vi3,vi3,vi28,vi31,vi38,vi39,vi1]⟩),(.agg ⟨[vi2,vi1]⟩)),((.agg ⟨[vi4,vi5,vi28,vi31,vi39,vi40,vi2]⟩),(.agg ⟨[vi2,vi2]⟩)),((.agg ⟨[vi8,vi8,vi26,vi30,vi39,vi40,vi1]⟩),(.agg ⟨[vi0,vi5]⟩)),((.agg ⟨[vi5,vi5,vi28,vi31,vi39,vi40,vi2]⟩),(.agg ⟨[vi2,vi2]⟩)),((.agg ⟨[vi7,vi7,vi28,vi31,vi40,vi41,vi3]⟩),(.agg ⟨[vi2,vi3]⟩)),((.agg ⟨[vi2,vi4,vi28,vi31,vi38,vi39,vi1]⟩),(.agg ⟨[vi2,vi1]⟩)),((.agg ⟨[vi3,vi4,vi28,vi31,vi38,vi39,vi1]⟩),(.agg ⟨[vi2,vi1]⟩)),((.agg ⟨[vi4,vi4,vi28,vi31,vi38,vi39,vi1]⟩),(.agg ⟨[vi2,vi1]⟩)),((.agg ⟨[vi4,vi6,vi28,vi31,vi39,vi40,vi2]⟩),(.agg ⟨[vi2,vi2]⟩)),((.agg ⟨[vi5,vi6,vi28,vi31,vi39,vi40,vi2]⟩),(.agg ⟨[vi2,vi2]⟩)),((.agg ⟨[vi9,vi9,vi26,vi30,vi39,vi40,vi1]⟩),(.agg ⟨[vi0,vi5]⟩)),((.agg ⟨[vi6,vi6,vi28,vi31,vi39,vi40,vi2]⟩),(.agg ⟨[vi2,vi2]⟩)),((.agg ⟨[vi7,vi8,vi28,vi31,vi40,vi41,vi3]⟩),(.agg ⟨[vi2,vi3]⟩)),((.agg ⟨[vi3,vi5,vi28,vi31,vi38,vi39,vi1]⟩),(.agg ⟨[vi0,vi5]⟩)),((.agg ⟨[vi5,vi7,vi28,vi31,vi39,vi40,vi2]⟩),(.agg ⟨[vi0,vi5]⟩)),((.agg ⟨[vi7,vi9,vi28,vi31,vi40,vi41,vi3]⟩),(.agg ⟨[vi0,vi5]⟩)),((.agg ⟨[vi1,vi3,vi30,vi32,vi39,vi40,vi3]⟩),(.agg ⟨[vi2,vi1]⟩))])))]⟩
theorem c1_3_ok : CFact Go.Proofs.Try.prog c1_3 := cfact mixed tab_ok kb1_ok (n := 10000) (by kernel_rfl) (by kernel_rfl)
def c1_4 : Chg := ⟨(.func (.func (nat_lit 59)) ⟨[]⟩ ⟨[(.pointer (some ⟨(nat_lit 11),(nat_lit 0),none⟩)),(.pointer (some ⟨(nat_lit 14),(nat_lit 0),none⟩)),(.pointer (some ⟨(nat_lit 10),(nat_lit 0),none⟩)),(.pointer (some ⟨(nat_lit 15),(nat_lit 0),none⟩))]⟩),[(.agg ⟨[vi3,vi4,vi30,vi32,vi39,vi40,vi3]⟩)],⟨(.n (.n (.n (.n (.n .e (some (.cells [(.func (.func (nat_lit 59)) ⟨[]⟩ ⟨[(.pointer (some ⟨(nat_lit 11),(nat_lit 0),none⟩)),(.pointer (some ⟨(nat_lit 14),(nat_lit 0),none⟩)),(.pointer (some ⟨(nat_lit 10),(nat_lit 0),none⟩)),(.pointer (some ⟨(nat_lit 15),(nat_lit 0),none⟩))]⟩)])) (.n (.n .e (some (.cells [vi1,vi1])) .e) none .e)) none (.n .e (some (.cells [vi7,vi10])) .e)) none (.n (.n .e (some (.cells [vi4,vi6,vi30,vi32,vi40,vi41,vi3,vi4,vi2,vi3,vi1,vi2,vi1,vi1,vi20,(.slice (some ⟨(nat_lit 0),(nat_lit 0),none⟩) (nat_lit 2) (nat_lit 2)),vi5,vi1])) .e) (some (.cells [vm2,vi2])) (.n (.n (.n (.n .e (some (.cells [vi3,vi4])) .e) (some (.cells [vi1,vi4])) .e) none .e) (some (.cells [vi7,vi7])) .e))) (some (.cells [vi4,vi6,vi30,vi32,vi40,vi41,vi3,vi4,vi2,vi3,vi1,vi2,vi1,vi1,vi20,(.slice (some ⟨(nat_lit 0),(nat_lit 0),none⟩) (nat_lit 2) (nat_lit 2)),vi5,vi1])) (.n (.n (.n .e (some (.cells [vi0,vi0])) .e) none (.n (.n (.n .e (some (.cells [vi3,vi4,vi30,vi32,vi39,vi40,vi3,vi4,vi2,vi3,vi1,vi2,vi1,vi1,vi20,(.slice (some ⟨(nat_lit 0),(nat_lit 0),none⟩) (nat_lit 2) (nat_lit 2)),vi5,vi1])) .e) none .e) none (.n .e (some (.cells [vi7,vi9])) .e))) none (.n (.n .e (some (.cells [vi7,vi9,vi28,vi31,vi40,vi41,vi3,vi4,vi2,vi3,vi1,vi2,vi1,vi1,vi20,(.slice (some ⟨(nat_lit 0),(nat_lit 0),none⟩) (nat_lit 2) (nat_lit 2)),vi5,vi1])) .e) (some (.map (nat_lit 7) .true [((.agg ⟨[vi13,vi13,vi24,vi29,vi40,vi41,vi1]⟩),(.agg ⟨[vi0,vi5]⟩)),((.agg ⟨[vi7,vi7,vi26,vi30,vi39,vi40,vi1]⟩),(.agg ⟨[vi0,vi5]⟩)),((.agg ⟨[vi10,vi10,vi26,vi30,vi40,vi41,vi2]⟩),(.agg ⟨[vi0,vi5]⟩)),((.agg ⟨[vi4,vi4,vi28,vi31,vi39,vi40,vi2]⟩),(.agg ⟨[vi2,vi1]⟩)),((.agg ⟨[vi1,vi3,vi28,vi31,vi38,vi39,vi1]⟩),(.agg ⟨[vi2,vi1]⟩)),((.agg ⟨[vi2,vi3,vi28,vi31,vi38,vi39,vi1]⟩),(.agg ⟨[vi2,vi1]⟩)),((.agg ⟨[vi3,vi3,vi28,vi31,vi38,vi39,vi1]⟩),(.agg ⟨[vi2,vi1]⟩)),((.agg ⟨[vi4,vi5,vi28,vi31,vi39,vi40,vi2]⟩),(.agg ⟨[vi2,vi2]⟩)),((.agg ⟨[vi8,vi8,vi26,vi30,vi39,vi40,vi1]⟩),(.agg ⟨[vi0,vi5]⟩)),((.agg ⟨[vi5,vi5,vi28,vi31,vi39,vi40,vi2]⟩),(.agg ⟨[vi2,vi2]⟩)),((.agg ⟨[vi7,vi7,vi28,vi31,vi40,vi41,vi3]⟩),(.agg ⟨[vi2,vi3]⟩)),((.agg ⟨[vi2,vi4,vi28,vi31,vi38,vi39,vi1]⟩),(.agg ⟨[vi2,vi1]⟩)),((.agg ⟨[vi3,vi4,vi28,vi31,vi38,vi39,vi1]⟩),(.agg ⟨[vi2,vi1]⟩)),((.agg ⟨[vi4,vi4,vi28,vi31,vi38,vi39,vi1]⟩),(.agg ⟨[vi2,vi1]⟩)),((.agg ⟨[vi4,vi6,vi28,vi31,vi39,vi40,vi2]⟩),(.agg ⟨[vi2,vi2]⟩)),((.agg ⟨[vi5,vi6,vi28,vi31,vi39,vi40,vi2]⟩),(.agg ⟨[vi2,vi2]⟩)),((.agg ⟨[vi9,vi9,vi26,vi30,vi39,vi40,vi1]⟩),(.agg ⟨[vi0,vi5]⟩)),((.agg ⟨[vi6,vi6,vi28,vi31,vi39,vi40,vi2]⟩),(.agg ⟨[vi2,vi2]⟩)),((.agg ⟨[vi7,vi8,vi28,vi31,vi40,vi41,vi3]⟩),(.agg ⟨[vi2,vi3]⟩)),((.agg ⟨[vi3,vi5,vi28,vi31,vi38,vi39,vi1]⟩),(.agg ⟨[vi0,vi5]⟩)),((.agg ⟨[vi5,vi7,vi28,vi31,vi39,vi40,vi2]⟩),(.agg ⟨[vi0,vi5]⟩)),((.agg ⟨[vi7,vi9,vi28,vi31,vi40,vi41,vi3]⟩),(.agg ⟨[vi0,vi5]⟩)),((.agg ⟨[vi1,vi3,vi30,vi32,vi39,vi40,vi3]⟩),(.agg ⟨[vi2,vi1]⟩)),((.agg ⟨[vi2,vi4,vi30,vi32,vi39,vi40,vi3]⟩),(.agg ⟨[vi2,vi1]⟩))])) (.n (.n .e none (.n .e (some (.cells [vi1,vi3])) .e)) none .e)))) (some (.cells [vm1,vi1,vi0,vi3])) (.n (.n (.n (.n .e (some (.cells [vi4,vi6,vi30,vi32,vi40,vi41,vi4])) .e) none (.n (.n (.n .e (some (.cells [vi2])) .e) none .e) (some (.cells [vi1])) .e)) none (.n (.n .e (some (.cells [vi1])) .e) (some (.cells [vm5,vi5])) (.n (.n (.n .e (some (.cells [vi1])) .e) none .e) none (.n .e none (.n .e (some (.cells [vi2,vi4])) .e))))) none (.n (.n (.n .e (some (.cells [vi0,vi5])) .e) (some (.cells [vi4,vi6,vi30,vi32,vi40,vi41,vi3,vi4,vi2,vi3,vi1,vi2,vi1,vi1,vi20,(.slice (some ⟨(nat_lit 0),(nat_lit 0),none⟩) (nat_lit 2) (nat_lit 2)),vi5,vi1])) (.n (.n (.n .e (some (.cells [vi2])) .e) (some (.cells [vi7,vi8])) .e) none .e)) none (.n (.n .e (some (.cells [vi6])) .e) (some (.cells [(.map (some (nat_lit 13)))])) (.n .e none (.n (.n .e (some (.cells [vi1,vi2])) .e) none .e)))))),(nat_lit 154),(nat_lit 79),[(nat_lit 13),(nat_lit 74),(nat_lit 73),(nat_lit 78)]⟩,(.agg ⟨[vi2,vi1]⟩),(nat_lit 154),[(nat_lit 13),(nat_lit 74),(nat_lit 73),(nat_lit 78)],[((nat_lit 13),(some (.map (nat_lit 7) .true [((.agg ⟨[vi13,vi13,vi24,vi29,vi40,vi41,vi1]⟩),(.agg ⟨[vi0,vi5]⟩)),((.agg ⟨[vi7,vi7,vi26,vi30,vi39,vi40,vi1]⟩),(.agg ⟨[vi0,vi5]⟩)),((.agg ⟨[vi10,vi10,vi26,vi30,vi40,vi41,vi2]⟩),(.agg ⟨[vi0,vi5]⟩)),((.agg ⟨[vi4,vi4,vi28,vi31,vi39,vi40,vi2]⟩),(.agg ⟨[vi2,vi1]⟩)),((.agg ⟨[vi1,vi3,vi28,vi31,vi38,vi39,vi1]⟩),(.agg ⟨[vi2,vi1]⟩)),((.agg ⟨[vi2,vi3,vi28,vi31,vi38,vi39,vi1]⟩),(.agg ⟨[vi2,vi1]⟩)),((.agg ⟨[vi3,vi3,vi28,vi31,vi38,vi39,vi1]⟩),(.agg ⟨[vi2,vi1]⟩)),((.agg ⟨[vi4,vi5,vi28,vi31,vi39,vi40,vi2]⟩),(.agg ⟨[vi2,vi2]⟩)),((.agg ⟨[vi8,vi8,vi26,vi30,vi39,vi40,vi1]⟩),(.agg ⟨[vi0,vi5]⟩)),((.agg ⟨[vi5,vi5,vi28,vi31,vi39,vi40,vi2]⟩),(.agg ⟨[vi2,vi2]⟩)),((.agg ⟨[vi7,vi7,vi28,vi31,vi40,vi41,vi3]⟩),(.agg ⟨[vi2,vi3]⟩)),((.agg ⟨[vi2,vi4,vi28,vi31,vi38,vi39,vi1]⟩),(.agg ⟨[vi2,vi1]⟩)),((.agg ⟨[vi3,vi4,vi28,vi31,vi38,vi39,vi1]⟩),(.agg ⟨[vi2,vi1]⟩)),((.agg ⟨[vi4,vi4,vi28,vi31,vi38,vi39,vi1]⟩),(.agg ⟨[vi2,vi1]⟩)),((.agg ⟨[vi4,vi6,vi28,vi31,vi39,vi40,vi2]⟩),(.agg ⟨[vi2,vi2]⟩)),((.agg ⟨[vi5,vi6,vi28,vi31,vi39,vi40,vi2]⟩),(.agg ⟨[vi2,vi2]⟩)),((.agg ⟨[vi9,vi9,vi26,vi30,vi39,vi40,vi1]⟩),(.agg ⟨[vi0,vi5]⟩)),((.agg ⟨[vi6,vi6,vi28,vi31,vi39,vi40,vi2]⟩),(.agg ⟨[vi2,vi2]⟩)),((.agg ⟨[vi7,vi8,vi28,vi31,vi40,vi41,vi3]⟩),(.agg ⟨[vi2,vi3]⟩)),((.agg ⟨[vi3,vi5,vi28,vi31,vi38,vi39,vi1]⟩),(.agg ⟨[vi0,vi5]⟩)),((.agg ⟨[vi5,vi7,vi28,vi31,vi39,vi40,vi2]⟩),(.agg ⟨[vi0,vi5]⟩)),((.agg ⟨[vi7,vi9,vi28,vi31,vi40,vi41,vi3]⟩),(.agg ⟨[vi0,vi5]⟩)),((.agg ⟨[vi1,vi3,vi30,vi32,vi39,vi40,vi3]⟩),(.agg ⟨[vi2,vi1]⟩)),((.agg ⟨[vi2,vi4,vi30,vi32,vi39,vi40,vi3]⟩),(.agg ⟨[vi2,vi1]⟩)),((.agg ⟨[vi6,vi7,vi28,vi31,vi39,vi40,vi2]⟩),(.agg ⟨[vi0,vi5]⟩)),((.agg ⟨[vi3,vi4,vi30,vi32,vi39,vi40,vi3]⟩),(.agg ⟨[vi2,vi1]⟩))])))]⟩
theorem c1_4_ok : CFact Go.Proofs.Try.prog c1_4 := cfact mixed tab_ok kb1_ok (n := 10000) (by kernel_rfl) (by kernel_rfl)
def c1_5 : Chg := ⟨(.func (.func (nat_lit 59)) ⟨[]⟩ ⟨[(.pointer (some ⟨(nat_lit 11),(nat_lit 0),none⟩)),(.pointer (some ⟨(nat_lit 14),(nat_lit 0),none⟩)),(.pointer (some ⟨(nat_lit 10),(nat_lit 0),none⟩)),(.pointer (some ⟨(nat_lit 15),(nat_lit 0),none⟩))]⟩),[(.agg ⟨[vi4,vi4,vi30,vi32,vi39,vi40,vi3]⟩)],⟨(.n (.n (.n (.n (.n .e (some (.cells [(.func (.func (nat_lit 59)) ⟨[]⟩ ⟨[(.pointer (some ⟨(nat_lit 11),(nat_lit 0),none⟩)),(.pointer (some ⟨(nat_lit 14),(nat_lit 0),none⟩)),(.pointer (some ⟨(nat_lit 10),(nat_lit 0),none⟩)),(.pointer (some ⟨(nat_lit 15),(nat_lit 0),none⟩))]⟩)])) (.n (.n .e (some (.cells [vi1,vi1])) .e) none .e)) none (.n .e (some (.cells [vi7,vi10])) .e)) none (.n (.n .e (some (.cells [vi4,vi6,vi30,vi32,vi40,vi41,vi3,vi4,vi2,vi3,vi1,vi2,vi1,vi1,vi20,(.slice (some ⟨(nat_lit 0),(nat_lit 0),none⟩) (nat_lit 2) (nat_lit 2)),vi5,vi1])) .e) (some (.cells [vm2,vi2])) (.n (.n (.n (.n .e (some (.cells [vi3,vi4])) .e) (some (.cells [vi1,vi4])) .e) none .e) (some (.cells [vi7,vi7])) .e))) (some (.cells [vi4,vi6,vi30,vi32,vi40,vi41,vi3,vi4,vi2,vi3,vi1,vi2,vi1,vi1,vi20,(.slice (some ⟨(nat_lit 0),(nat_lit 0),none⟩) (nat_lit 2) (nat_lit 2)),vi5,vi1])) (.n (.n (.n .e (some (.cells [vi0,vi0])) .e) none (.n (.n (.n .e (some (.cells [vi4,vi4,vi30,vi32,vi39,vi40,vi3,vi4,vi2,vi3,vi1,vi2,vi1,vi1,vi20,(.slice (some ⟨(nat_lit 0),(nat_lit 0),none⟩) (nat_lit 2) (nat_lit 2)),vi5,vi1])) .e) none .e) none (.n .e (some (.cells [vi7,vi9])) .e))) none (.n (.n .e (some (.cells [vi7,vi9,vi28,vi31,vi40,vi41,vi3,vi4,vi2,vi3,vi1,vi2,vi1,vi1,vi20,(.slice (some ⟨(nat_lit 0),(nat_lit 0),none⟩) (nat_lit 2) (nat_lit 2)),vi5,vi1])) .e) (some (.map (nat_lit 7) .true [((.agg ⟨[vi13,vi13,vi24,vi29,vi40,vi41,vi1]⟩),(.agg ⟨[vi0,vi5]⟩)),((.agg ⟨[vi7,vi7,vi26,vi30,vi39,vi40,vi1]⟩),(.agg ⟨[vi0,vi5]⟩)),((.agg ⟨[vi10,vi10,vi26,vi30,vi40,vi41,vi2]⟩),(.agg ⟨[vi0,vi5]⟩)),((.agg ⟨[vi4,vi4,vi28,vi31,vi39,vi40,vi2]⟩),(.agg ⟨[vi2,vi1]⟩)),((.agg ⟨[vi1,vi3,vi28,vi31,vi38,vi39,vi1]⟩),(.agg ⟨[vi2,vi1]⟩)),((.agg ⟨[vi2,vi3,vi28,vi31,vi38,vi39,vi1]⟩),(.agg ⟨[vi2,vi1]⟩)),((.agg ⟨[vi3,vi3,vi28,vi31,vi38,vi39,vi1]⟩),(.agg ⟨[vi2,vi1]⟩)),((.agg ⟨[vi4,vi5,vi28,vi31,vi39,vi40,vi2]⟩),(.agg ⟨[vi2,vi2]⟩)),((.agg ⟨[vi8,vi8,vi26,vi30,vi39,vi40,vi1]⟩),(.agg ⟨[vi0,vi5]⟩)),((.agg ⟨[vi5,vi5,vi28,vi31,vi39,vi40,vi2]⟩),(.agg ⟨[vi2,vi2]⟩)),((.agg ⟨[vi7,vi7,vi28,vi31,vi40,vi41,vi3]⟩),(.agg ⟨[vi2,vi3]⟩)),((.agg ⟨[vi2,vi4,vi28,vi31,vi38,vi39,vi1]⟩),(.agg ⟨[vi2,vi1]⟩)),((.agg ⟨[vi3,vi4,vi28,vi31,vi38,vi39,vi1]⟩),(.agg ⟨[vi2,vi1]⟩)),((.agg ⟨[vi4,vi4,vi28,vi31,vi38,vi39,vi1]⟩),(.agg ⟨[vi2,vi1]⟩)),((.agg ⟨[vi4,vi6,vi28,vi31,vi39,vi40,vi2]⟩),(.agg ⟨[vi2,vi2]⟩)),((.agg ⟨[vi5,vi6,vi28,vi31,vi39,vi40,vi2]⟩),(.agg ⟨[vi2,vi2]⟩)),((.agg ⟨[vi9,vi9,vi26,vi30,vi39,vi40,vi1]⟩),(.agg ⟨[vi0,vi5]⟩)),((.agg ⟨[vi6,vi6,vi28,vi31,vi39,vi40,vi2]⟩),(.agg ⟨[vi2,vi2]⟩)),((.agg ⟨[vi7,vi8,vi28,vi31,vi40,vi41,vi3]⟩),(.agg ⟨[vi2,vi3]⟩)),((.agg ⟨[vi3,vi5,vi28,vi31,vi38,vi39,vi1]⟩),(.agg ⟨[vi0,vi5]⟩)),((.agg ⟨[vi5,vi7,vi28,vi31,vi39,vi40,vi2]⟩),(.agg ⟨[vi0,vi5]⟩)),((.agg ⟨[vi7,vi9,vi28,vi31,vi40,vi41,vi3]⟩),(.agg ⟨[vi0,vi5]⟩)),((.agg ⟨[vi1,vi3,vi30,vi32,vi39,vi40,vi3]⟩),(.agg ⟨[vi2,vi1]⟩)),((.agg ⟨[vi2,vi4,vi30,vi32,vi39,vi40,vi3]⟩),(.agg ⟨[vi2,vi1]⟩)),((.agg ⟨[vi6,vi7,vi28,vi31,vi39,vi40,vi2]⟩),(.agg ⟨[vi0,vi5]⟩)),((.agg ⟨[vi3,vi4,vi30,vi32,vi39,vi40,vi3]⟩),(.agg ⟨[vi2,vi1]⟩))])) (.n (.n .e none (.n .e (some (.cells [vi1,vi3])) .e)) none .e)))) (some (.cells [vm1,vi1,vi0,vi3])) (.n (.n (.n (.n .e (some (.cells [vi4,vi6,vi30,vi32,vi40,vi41,vi4])) .e) none (.n (.n (.n .e (some (.cells [vi2])) .e) none .e) (some (.cells [vi1])) .e)) none (.n (.n .e (some (.cells [vi1])) .e) (some (.cells [vm5,vi5])) (.n (.n (.n .e (some (.cells [vi1])) .e) none .e) none (.n .e none (.n .e (some (.cells [vi2,vi4])) .e))))) none (.n (.n (.n .e (some (.cells [vi0,vi5])) .e) (some (.cells [vi4,vi6,vi30,vi32,vi40,vi41,vi3,vi4,vi2,vi3,vi1,vi2,vi1,vi1,vi20,(.slice (some ⟨(nat_lit 0),(nat_lit 0),none⟩) (nat_lit 2) (nat_lit 2)),vi5,vi1])) (.n (.n (.n .e (some (.cells [vi2])) .e) (some (.cells [vi7,vi8])) .e) none (.n (.n (.n .e (some (.cells [vi4,vi4])) .e) none .e) none .e))) none (.n (.n .e (some (.cells [vi6])) .e) (some (.cells [(.map (some (nat_lit 13)))])) (.n .e none (.n (.n .e (some (.cells [vi1,vi2])) .e) none .e)))))),(nat_lit 169),(nat_lit 79),[(nat_lit 13),(nat_lit 74),(nat_lit 73),(nat_lit 78)]⟩,(.agg ⟨[vi2,vi1]⟩),(nat_lit 169),[(nat_lit 13),(nat_lit 74),(nat_lit 73),(nat_lit 78)],[((nat_lit 13),(some (.map (nat_lit 7) .true [((.agg ⟨[vi13,vi13,vi24,vi29,vi40,vi41,vi1]⟩),(.agg ⟨[vi0,vi5]⟩)),((.agg ⟨[vi7,vi7,vi26,vi30,vi39,vi40,vi1]⟩),(.agg ⟨[vi0,vi5]⟩)),((.agg ⟨[vi10,vi10,vi26,vi30,vi40,vi41,vi2]⟩),(.agg ⟨[vi0,vi5]⟩)),((.agg ⟨[vi4,vi4,vi28,vi31,vi39,vi40,vi2]⟩),(.agg ⟨[vi2,vi1]⟩)),((.agg ⟨[vi1,vi3,vi28,vi31,vi38,vi39,vi1]⟩),(.agg ⟨[vi2,vi1]⟩)),((.agg ⟨[vi2,vi3,vi28,vi31,vi38,vi39,vi1]⟩),(.agg ⟨[vi2,vi1]⟩)),((.agg ⟨[vi3,vi3,vi28,vi31,vi38,vi39,vi1]⟩),(.agg ⟨[vi2,vi1]⟩)),((.agg ⟨[vi4,vi5,vi28,vi31,vi39,vi40,vi2]⟩),(.agg ⟨[vi2,vi2]⟩)),((.agg ⟨[vi8,vi8,vi26,vi30,vi39,vi40,vi1]⟩),(.agg ⟨[vi0,vi5]⟩)),((.agg ⟨[vi5,vi5,vi28,vi31,vi39,vi40,vi2]⟩),(.agg ⟨[vi2,vi2]⟩)),((.agg ⟨[vi7,vi7,vi28,vi31,vi40,vi41,vi3]⟩),(.agg ⟨[vi2,vi3]⟩)),((.agg ⟨[vi2,vi4,vi28,vi31,vi38,vi39,vi1]⟩),(.agg ⟨[vi2,vi1]⟩)),((.agg ⟨[vi3,vi4,vi28,vi31,vi38,vi39,vi1]⟩),(.agg ⟨[vi2,vi1]⟩)),((.agg ⟨[vi4,vi4,vi28,vi31,vi38,vi39,vi1]⟩),(.agg ⟨[vi2,vi1]⟩)),((.agg ⟨[vi4,vi6,vi28,vi31,vi39,vi40,vi2]⟩),(.agg ⟨[vi2,vi2]⟩)),((.agg ⟨[vi5,vi6,vi28,vi31,vi39,vi40,vi2]⟩),(.agg ⟨[vi2,vi2]⟩)),((.agg ⟨[vi9,vi9,vi26,vi30,vi39,vi40,vi1]⟩),(.agg ⟨[vi0,vi5]⟩)),((.agg ⟨[vi6,vi6,vi28,vi31,vi39,vi40,vi2]⟩),(.agg ⟨[vi2,vi2]⟩)),((.agg ⟨[vi7,vi8,vi28,vi31,vi40,vi41,vi3]⟩),(.agg ⟨[vi2,vi3]⟩)),((.agg ⟨[vi3,vi5,vi28,vi31,vi38,vi39,vi1]⟩),(.agg ⟨[vi0,vi5]⟩)),((.agg ⟨[vi5,vi7,vi28,vi31,vi39,vi40,vi2]⟩),(.agg ⟨[vi0,vi5]⟩)),((.agg ⟨[vi7,vi9,vi28,vi31,vi40,vi41,vi3]⟩),(.agg ⟨[vi0,vi5]⟩)),((.agg ⟨[vi1,vi3,vi30,vi32,vi39,vi40,vi3]⟩),(.agg ⟨[vi2,vi1]⟩)),((.agg ⟨[vi2,vi4,vi30,vi32,vi39,vi40,vi3]⟩),(.agg ⟨[vi2,vi1]⟩)),((.agg ⟨[vi6,vi7,vi28,vi31,vi39,vi40,vi2]⟩),(.agg ⟨[vi0,vi5]⟩)),((.agg ⟨[vi3,vi4,vi30,vi32,vi39,vi40,vi3]⟩),(.agg ⟨[vi2,vi1]⟩)),((.agg ⟨[vi10,vi10,vi26,vi30,vi39,vi40,vi1]⟩),(.agg ⟨[vi0,vi5]⟩)),((.agg ⟨[vi4,vi5,vi28,vi31,vi38,vi39,vi1]⟩),(.agg ⟨[vi0,vi5]⟩)),((.agg ⟨[vi7,vi7,vi28,vi31,vi39,vi40,vi2]⟩),(.agg ⟨[vi0,vi5]⟩)),((.agg ⟨[vi4,vi4,vi30,vi32,vi39,vi40,vi3]⟩),(.agg ⟨[vi2,vi1]⟩))])))]⟩
theorem c1_5_ok : CFact Go.Proofs.Try.prog c1_5 := cfact mixed tab_ok kb1_ok (n := 10000) (by kernel_rfl) (by kernel_rfl)
def kbh1_lg : List (Nat × List Gen) := []
def kbh1_lc : List (Nat × List Chg) := [((nat_lit 59),[c1_0,c1_1,c1_2,c1_3,c1_4,c1_5])]
def kbh1 : Kb := { w := .e, g := .e, c := (.n (.n (.n .e none (.n .e none (.n .e none (.n .e (some [c1_0,c1_1,c1_2,c1_3,c1_4,c1_5]) .e)))) none .e) none .e) }
theorem kbh1_ok : KbOK Go.Proofs.Try.prog kbh1 := kbOK (lw := []) (lg := kbh1_lg) (lc := kbh1_lc) .nil .nil (.cons (.cons c1_0_ok (.cons c1_1_ok (.cons c1_2_ok (.cons c1_3_ok (.cons c1_4_ok (.cons c1_5_ok .nil)))))) rfl .nil) (by kernel_rfl) (by kernel_rfl) (by kernel_rfl)
def gh1 : Gen := ⟨(nat_lit 38),[(.agg ⟨[vi4,vi6,vi30,vi32,vi40,vi41,vi3,vi4,vi2,vi3,vi1,vi2,vi1,vi1,vi20,(.slice (some ⟨(nat_lit 0),(nat_lit 0),none⟩) (nat_lit 2) (nat_lit 2)),vi5,vi1]⟩)],none,(nat_lit 0),[(.cells [vm1,vi1,vi0,vi3])],(.tuple ⟨[vi2,vi2,vi0]⟩)⟩
theorem gh1_ok : GFact Go.Proofs.Try.prog gh1 := gfact mixed tab_ok kbh1_ok (n := 10000) (by kernel_rfl) (by kernel_rfl)
end

end Go.Sim
namespace Go.Sim
set_option linter.all false
open Go
set_option maxRecDepth 1000000
variable [Rho] [Asm] [SymOK]
noncomputable section
def kbm_lg : List (Nat × List Gen) := [((nat_lit 37),[gh0]),((nat_lit 38),[gh1])]
def kbm_lc : List (Nat × List Chg) := []
def kbm : Kb := { w := .e, g := (.n (.n .e none (.n .e none (.n (.n (.n .e (some [gh0]) .e) none .e) none .e))) none (.n .e none (.n .e none (.n (.n (.n .e (some [gh1]) .e) none .e) none .e)))), c := .e }
theorem kbm_ok : KbOK Go.Proofs.Try.prog kbm := kbOK (lw := []) (lg := kbm_lg) (lc := kbm_lc) .nil (.cons (.cons gh0_ok .nil) rfl (.cons (.cons gh1_ok .nil) rfl .nil)) .nil (by kernel_rfl) (by kernel_rfl) (by kernel_rfl)
end

end Go.Sim
namespace Go.Sim
set_option linter.all false
open Go
set_option maxRecDepth 1000000
variable [Rho] [Asm] [SymOK]
noncomputable section
def h0 : Tr LO := .e
def root : Chg := ⟨.func (.func (nat_lit 21)) ⟨[]⟩ ⟨[]⟩, [], S1 h0 (nat_lit 0), (.bool .true), (nat_lit 0), [], []⟩
theorem root_ok : CFact Go.Proofs.Try.prog root := cfact mixed tab_ok kbm_ok (n := 10000) (by kernel_rfl) (by kernel_rfl)
end

end Go.Sim
/- What is known of values that stand for expressions, for those that come back from a run. -/
namespace Go.Sim
set_option linter.all false
open Go
/-- An expression stands for one number alone. -/
theorem Den.sole [Rho] {v : Value} {k : IntKind} {n : Int} (h : Den v k n) : ∀ {l : IntKind} {m : Int}, Den v l m → k = l ∧ n = m := by
  induction h with
  | lit k n => intro l m h'; cases h'; exact ⟨rfl, rfl⟩
  | sym k i => intro l m h'; cases h'; exact ⟨rfl, rfl⟩
  | add _ _ ih1 ih2 => intro l m h'; cases h' with | add a b => obtain ⟨_, h1⟩ := ih1 a; obtain ⟨_, h2⟩ := ih2 b; exact ⟨rfl, by rw [h1, h2]⟩
  | sub _ _ ih1 ih2 => intro l m h'; cases h' with | sub a b => obtain ⟨_, h1⟩ := ih1 a; obtain ⟨_, h2⟩ := ih2 b; exact ⟨rfl, by rw [h1, h2]⟩
  | mul _ _ ih1 ih2 => intro l m h'; cases h' with | mul a b => obtain ⟨_, h1⟩ := ih1 a; obtain ⟨_, h2⟩ := ih2 b; exact ⟨rfl, by rw [h1, h2]⟩
  | max _ _ ih1 ih2 => intro l m h'; cases h' with | max a b => obtain ⟨_, h1⟩ := ih1 a; obtain ⟨_, h2⟩ := ih2 b; exact ⟨rfl, by rw [h1, h2]⟩
  | min _ _ ih1 ih2 => intro l m h'; cases h' with | min a b => obtain ⟨_, h1⟩ := ih1 a; obtain ⟨_, h2⟩ := ih2 b; exact ⟨rfl, by rw [h1, h2]⟩
  | conv _ ih => intro l m h'; cases h' with | conv a => obtain ⟨_, h1⟩ := ih a; exact ⟨rfl, by rw [h1]⟩
theorem Den.is [Rho] {ι : Io} {v u : Value} {k : IntKind} {n : Int} (h : Den v k n) (hv : VR ι v u) : u = .int k n := by
  have hk : ∀ {w : Value} {l : IntKind} {m : Int}, Den w l m → w = v → u = .int l m → u = .int k n := fun hd e hu => by
    subst e
    obtain ⟨rfl, rfl⟩ := h.sole hd
    exact hu
  cases hv with
  | int => exact hk (.lit _ _) rfl rfl
  | sym hd => exact hk hd rfl rfl
  | symB hd => cases hd <;> cases h
  | unk _ => cases h
  | opq _ _ => cases h
  | func hn => cases h <;> exact absurd rfl (hn _)
  | _ => cases h
theorem eqN [Rho] {a b : Value} {v : Bool} {k : IntKind} {x y : Int} (h : DenB (nd 20 a [b]) v) (ha : Den a k x) (hb : Den b k y) : v = (x == y) := by
  cases h with
  | eq h1 h2 =>
    obtain ⟨rfl, rfl⟩ := ha.sole h1
    obtain ⟨_, rfl⟩ := hb.sole h2
    rfl
theorem ltN [Rho] {a b : Value} {v : Bool} {k : IntKind} {x y : Int} (h : DenB (nd 21 a [b]) v) (ha : Den a k x) (hb : Den b k y) : v = decide (x < y) := by
  cases h with
  | lt h1 h2 =>
    obtain ⟨rfl, rfl⟩ := ha.sole h1
    obtain ⟨_, rfl⟩ := hb.sole h2
    rfl
/-- Expressions, one after another. -/
inductive Dens [Rho] : List Value → List Int → Prop
  | nil : Dens [] []
  | cons {v : Value} {x : Int} {l : List Value} {xs : List Int} : Den v .i64 x → Dens l xs → Dens (v :: l) (x :: xs)
theorem Dens.is [Rho] {l : List Value} {xs : List Int} (h : Dens l xs) : ∀ {ι : Io} {l' : List Value}, LR ι l l' → l' = xs.map fun n => .int .i64 n := by
  induction h with
  | nil => intro ι l' h; cases h; rfl
  | cons hd _ ih =>
    intro ι l' h
    cases h with
    | cons hv hl => rw [hd.is hv, ih hl]; rfl
theorem LR.cut [Rho] {ι : Io} : ∀ {a b l : List Value}, LR ι (a ++ b) l → ∃ x y, l = x ++ y ∧ LR ι a x ∧ LR ι b y
  | [], b, l, h => ⟨[], l, rfl, .nil, h⟩
  | v :: a, b, l, h => by
    cases h with
    | cons hv hl =>
      obtain ⟨x, y, rfl, h1, h2⟩ := LR.cut (a := a) hl
      exact ⟨_ :: x, y, rfl, .cons hv h1, h2⟩
theorem VR.opqI [Rho] {ι : Io} {i : Nat} {v : Value} (h : VR ι (.func (.yield (nat_lit 30)) ⟨[.nilFunc, .int .u64 (.ofNat i)]⟩ ⟨[]⟩) v) : v = Rho.val i := by
  cases h with
  | func hn => exact absurd rfl (hn _)
  | sym hd => cases hd
  | symB hd => cases hd
  | opq e _ => exact e
end Go.Sim
/- The contract of work.spoiled (package reed). -/
namespace Go.Proofs.Ytggokdmlijipjaa
set_option linter.all false
open Go.RowKit

set_option maxHeartbeats 1000000 in
theorem spoiled_any (J : Jb) (s : Value) (w : World) :
    Calls Try.prog 31 #[.agg (jobC J s)] w fun e w' => e = .returned (.int .i64 (spoilI J.le J.tg)) ∧ w.alloc (.cells (jobC J s) 68) = w' := by
  by_cases h1 : J.t2 < J.le
  · have H : Hid (spoilI J.le J.tg = 1) := by show spoilI J.le J.tg = 1; simp [spoilI, Jb.tg, h1]
    go_enter Try.func31, Try.ntmps31
    go_wp2
    go_ret
    exact ⟨by rw [H.out]; rfl, rfl⟩
  · by_cases h2 : J.r2 < J.le
    · have H : Hid (spoilI J.le J.tg = 1) := by show spoilI J.le J.tg = 1; simp [spoilI, Jb.tg, h2]
      go_enter Try.func31, Try.ntmps31
      go_wp2
      go_ret
      exact ⟨by rw [H.out]; rfl, rfl⟩
    · by_cases h3 : J.le ≤ J.t1
      · by_cases h4 : J.le ≤ J.r1
        · have H : Hid (spoilI J.le J.tg = 2) := by show spoilI J.le J.tg = 2; simp [spoilI, Jb.tg, h1, h2, h3, h4]
          go_enter Try.func31, Try.ntmps31
          go_wp2
          go_ret
          exact ⟨by rw [H.out]; rfl, rfl⟩
        · have H : Hid (spoilI J.le J.tg = 3) := by show spoilI J.le J.tg = 3; simp [spoilI, Jb.tg, h1, h2, h4]
          go_enter Try.func31, Try.ntmps31
          go_wp2
          go_ret
          exact ⟨by rw [H.out]; rfl, rfl⟩
      · have H : Hid (spoilI J.le J.tg = 3) := by show spoilI J.le J.tg = 3; simp [spoilI, Jb.tg, h1, h2, h3]
        go_enter Try.func31, Try.ntmps31
        go_wp2
        go_ret
        exact ⟨by rw [H.out]; rfl, rfl⟩
end Go.Proofs.Ytggokdmlijipjaa
/- Contracts of reed.passes and work.fine. -/
namespace Go.Proofs.Ytggokdmlijipjaa
set_option linter.all false
open Go.RowKit

theorem holds_any (a b c d : Int) (w : World) :
    Calls Try.prog 47 #[.agg #[.int .i64 a, .int .i64 b], .agg #[.int .i64 c, .int .i64 d]] w fun e w' => e = .returned (.bool (decide (a ≤ c ∧ d ≤ b))) ∧ (w.alloc (.cells #[.int .i64 a, .int .i64 b] 26)).alloc (.cells #[.int .i64 c, .int .i64 d] 26) = w' := by
  by_cases h : a ≤ c ∧ d ≤ b
  · rw [decide_eq_true h]; exact holds_yes a b c d h w
  · rw [decide_eq_false h]; exact holds_no a b c d h w

set_option maxHeartbeats 1000000 in
set_option maxRecDepth 100000 in
theorem passes_any (J : Jb) (a : Option Addr) (n c : Nat) (w : World) (hJ : J.In 1000) (hn : n = J.sh.length) (h : Rg w w.heap.size a J.sh) :
    Calls Try.prog 27 #[.agg (jobC J (.slice a n c))] w fun e w' => e = .returned (.int .i64 (passI J.wi J.sh J.p1 J.p2)) ∧ Below w.heap.size w w' := by
  have HJ : Hid (J.In 1000) := hJ
  have Hn : Hid (n = J.sh.length) := hn
  have Hh : Hid (Rg w w.heap.size a J.sh) := h
  clear hJ hn h
  have b0 : Bk (w.alloc (.cells (jobC J (.slice a n c)) 33)) w.heap.size 33 (jobC J (.slice a n c)) := Bk.new w _ _
  by_cases h1 : (win J.wi J.sh).1 ≤ J.p1 ∧ J.p2 ≤ (win J.wi J.sh).2
  · have He : Hid (passI J.wi J.sh J.p1 J.p2 = 1) := by show passI J.wi J.sh J.p1 J.p2 = 1; unfold passI; rw [if_pos h1]
    have hd : decide ((win J.wi J.sh).1 ≤ J.p1 ∧ J.p2 ≤ (win J.wi J.sh).2) = true := decide_eq_true h1
    clear h1
    go_enter Try.func27, Try.ntmps27
    go_wp2_with (refine wpList_load_row rfl 33 _ rfl w.heap.size rfl _ (jobC J (.slice a n c)) _ _ b0 Try.underlying33 rfl szJob ?_)
    refine (windows_any J a n c _ HJ.out Hn.out (Hh.out.up ((Below.refl _ _).alloc (Nat.le_refl _) _))).mono ?_
    rintro e w1 ⟨rfl, hb⟩
    have hz := hb.size
    simp only [World.size_alloc] at hz
    have hz' : w.heap.size < w1.heap.size := by omega
    have hz1 : w.heap.size < w1.heap.size + 1 := by omega
    have hz2 : w.heap.size < w1.heap.size + 1 + 1 := by omega
    have hz3 : w.heap.size < w1.heap.size + 1 + 1 + 1 := by omega
    have hz4 : w.heap.size < w1.heap.size + 1 + 1 + 1 + 1 := by omega
    have k0 := b0.below hb (by simp)
    have hB1 : Below w.heap.size w w1 := ((Below.refl _ _).alloc (Nat.le_refl _) _).trans (hb.mono (by simp))
    clear hb b0
    have c0 := k0.at_ 0 _ rfl
    have c1 := k0.at_ 1 _ rfl
    go_wp2_with (go_at_call 47; refine (holds_any _ _ _ _ _).mono ?_; rintro e w2 ⟨rfl, rfl⟩)
    go_ret
    exact ⟨by rw [He.out]; rfl, (((hB1.alloc (by omega) _).alloc (by simp; omega) _).alloc (by simp; omega) _).alloc (by simp; omega) _⟩
  · have hd : decide ((win J.wi J.sh).1 ≤ J.p1 ∧ J.p2 ≤ (win J.wi J.sh).2) = false := decide_eq_false h1
    rcases Bool.eq_false_or_eq_true (decide ((meetL ((pos J.wi J.sh).1, (pos J.wi J.sh).2) [(J.p1, J.p2)]).2 < (meetL ((pos J.wi J.sh).1, (pos J.wi J.sh).2) [(J.p1, J.p2)]).1)) with hv | hv
    · have He : Hid (passI J.wi J.sh J.p1 J.p2 = 2) := by
        show passI J.wi J.sh J.p1 J.p2 = 2
        unfold passI
        rw [if_neg h1]
        have hv' := hv
        simp only [decide_eq_true_eq] at hv'
        have h2 : (meet2 (pos J.wi J.sh) (J.p1, J.p2)).2 < (meet2 (pos J.wi J.sh) (J.p1, J.p2)).1 := hv'
        rw [if_pos h2]
      clear h1
      go_enter Try.func27, Try.ntmps27
      go_wp2_with (refine wpList_load_row rfl 33 _ rfl w.heap.size rfl _ (jobC J (.slice a n c)) _ _ b0 Try.underlying33 rfl szJob ?_)
      refine (windows_any J a n c _ HJ.out Hn.out (Hh.out.up ((Below.refl _ _).alloc (Nat.le_refl _) _))).mono ?_
      rintro e w1 ⟨rfl, hb⟩
      have hz := hb.size
      simp only [World.size_alloc] at hz
      have hz' : w.heap.size < w1.heap.size := by omega
      have hz1 : w.heap.size < w1.heap.size + 1 := by omega
      have hz2 : w.heap.size < w1.heap.size + 1 + 1 := by omega
      have hz3 : w.heap.size < w1.heap.size + 1 + 1 + 1 := by omega
      have hz4 : w.heap.size < w1.heap.size + 1 + 1 + 1 + 1 := by omega
      have k0 := b0.below hb (by simp)
      have hB1 : Below w.heap.size w w1 := ((Below.refl _ _).alloc (Nat.le_refl _) _).trans (hb.mono (by simp))
      clear hb b0
      have c0 := k0.at_ 0 _ rfl
      have c1 := k0.at_ 1 _ rfl
      go_wp2_with (first | (go_at_call 47; refine (holds_any _ _ _ _ _).mono ?_; rintro e w2 ⟨rfl, rfl⟩))
      refine (meet_any _ _ _ _ _ [(J.p1, J.p2)] _ rfl (by simp) ?hrg).mono ?_
      case hrg => exact Rg.of_bk [(J.p1, J.p2)] (Bk.newAt _ _ _ _ (by simp)) (by simp)
      rintro e w3 ⟨rfl, hb3⟩
      go_wp2_with (go_at_call 48; refine (empty_any _ _ _).mono ?_; rintro e w4 ⟨rfl, rfl⟩)
      go_ret
      refine ⟨by rw [He.out]; rfl, ?_⟩
      exact ((((((hB1.alloc (by omega) _).alloc (by simp; omega) _).alloc (by simp; omega) _).alloc (by simp; omega) _).alloc (by simp; omega) _).trans (hb3.mono (by simp; omega))).alloc (by have := hb3.size; simp at this; omega) _
    · have He : Hid (passI J.wi J.sh J.p1 J.p2 = 3) := by
        show passI J.wi J.sh J.p1 J.p2 = 3
        unfold passI
        rw [if_neg h1]
        have hv' := hv
        simp only [decide_eq_false_iff_not] at hv'
        have h2 : ¬ (meet2 (pos J.wi J.sh) (J.p1, J.p2)).2 < (meet2 (pos J.wi J.sh) (J.p1, J.p2)).1 := hv'
        rw [if_neg h2]
      clear h1
      go_enter Try.func27, Try.ntmps27
      go_wp2_with (refine wpList_load_row rfl 33 _ rfl w.heap.size rfl _ (jobC J (.slice a n c)) _ _ b0 Try.underlying33 rfl szJob ?_)
      refine (windows_any J a n c _ HJ.out Hn.out (Hh.out.up ((Below.refl _ _).alloc (Nat.le_refl _) _))).mono ?_
      rintro e w1 ⟨rfl, hb⟩
      have hz := hb.size
      simp only [World.size_alloc] at hz
      have hz' : w.heap.size < w1.heap.size := by omega
      have hz1 : w.heap.size < w1.heap.size + 1 := by omega
      have hz2 : w.heap.size < w1.heap.size + 1 + 1 := by omega
      have hz3 : w.heap.size < w1.heap.size + 1 + 1 + 1 := by omega
      have hz4 : w.heap.size < w1.heap.size + 1 + 1 + 1 + 1 := by omega
      have k0 := b0.below hb (by simp)
      have hB1 : Below w.heap.size w w1 := ((Below.refl _ _).alloc (Nat.le_refl _) _).trans (hb.mono (by simp))
      clear hb b0
      have c0 := k0.at_ 0 _ rfl
      have c1 := k0.at_ 1 _ rfl
      go_wp2_with (first | (go_at_call 47; refine (holds_any _ _ _ _ _).mono ?_; rintro e w2 ⟨rfl, rfl⟩))
      refine (meet_any _ _ _ _ _ [(J.p1, J.p2)] _ rfl (by simp) ?hrg).mono ?_
      case hrg => exact Rg.of_bk [(J.p1, J.p2)] (Bk.newAt _ _ _ _ (by simp)) (by simp)
      rintro e w3 ⟨rfl, hb3⟩
      go_wp2_with (go_at_call 48; refine (empty_any _ _ _).mono ?_; rintro e w4 ⟨rfl, rfl⟩)
      go_ret
      refine ⟨by rw [He.out]; rfl, ?_⟩
      exact ((((((hB1.alloc (by omega) _).alloc (by simp; omega) _).alloc (by simp; omega) _).alloc (by simp; omega) _).alloc (by simp; omega) _).trans (hb3.mono (by simp; omega))).alloc (by have := hb3.size; simp at this; omega) _
end Go.Proofs.Ytggokdmlijipjaa
