/- Part 34 of the proof: FactM, FactR, PBase. -/
import Derived.Test.YtadmcafbffjjbaaE32
import Derived.Test.YtadmcafbffjjbaaE33
import Derived.Test.YtadmcafbffjjbaaE01
namespace Go.Sim
set_option linter.all false
open Go
set_option maxRecDepth 1000000
variable [Rho] [Asm] [SymOK]
noncomputable section
def kbm_lg : List (Nat × List Gen) := [((nat_lit 12),[gh0]),((nat_lit 14),[gh1])]
def kbm_lc : List (Nat × List Chg) := []
def kbm : Kb := { w := .e,g := (.n .e none (.n (.n .e none (.n .e (some [gh0]) .e)) none (.n .e none (.n .e (some [gh1]) .e)))),c := .e }
theorem kbm_ok : KbOK Go.Proofs.Try.prog kbm := kbOK (lw := []) (lg := kbm_lg) (lc := kbm_lc) .nil (.cons (.cons gh0_ok .nil) rfl (.cons (.cons gh1_ok .nil) rfl .nil)) .nil (by kernel_rfl) (by kernel_rfl) (by kernel_rfl)
end

end Go.Sim
namespace Go.Sim
set_option linter.all false
open Go
set_option maxRecDepth 1000000
variable [Rho] [Asm] [SymOK]
noncomputable section
def h0 : Tr LO := .e
def root : Chg := ⟨.func (.func (nat_lit 8)) ⟨[]⟩ ⟨[]⟩,[],S1 h0 (nat_lit 0),(.bool .true),(nat_lit 0),[],[]⟩
theorem root_ok : CFact Go.Proofs.Try.prog root := cfact mixed tab_ok kbm_ok (n := 10000) (by kernel_rfl) (by kernel_rfl)
end

end Go.Sim
namespace Go.Proofs.Ytadmcafbffjjbaa
set_option linter.all false
open Go Go.RowKit
theorem tuned_any : TunOK := by
  intro w
  refine (@Sim.closed_any Sim.Rho.zero Sim.Asm.none (@Sim.SymOK.none Sim.Rho.zero) Try.prog 8 0 .e _ _ _ _ (@Sim.root_ok Sim.Rho.zero Sim.Asm.none (@Sim.SymOK.none Sim.Rho.zero)) rfl (by kernel_rfl) (by kernel_rfl) w (Nat.zero_le _) (fun b o hb => by rw [Sim.Tr.get_e] at hb; cases hb) ⟨Nat.zero_le _,fun k _ h => absurd h (Nat.not_lt_zero _)⟩).mono ?_
  rintro e w' ⟨v',ι',rfl,hv,hk⟩
  cases hv
  exact ⟨rfl,hk.os,hk.tape,hk.output,hk.size,hk.heap⟩
end Go.Proofs.Ytadmcafbffjjbaa
