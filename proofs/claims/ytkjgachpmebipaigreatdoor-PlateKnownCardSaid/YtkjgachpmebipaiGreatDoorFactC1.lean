import Derived.Test.YtkjgachpmebipaiGreatDoorFactL
namespace Go.Sim
set_option linter.all false
open Go
set_option maxRecDepth 1000000
variable [Rho] [Asm] [SymOK]
noncomputable section
def gl19 : Gen := ⟨(nat_lit 97),[v_1094,(.string ⟨⟨[]⟩⟩)],none,(nat_lit 4),[],(.bool .true)⟩
theorem gl19_ok : GFact Go.Proofs.Tryz.prog gl19 := gfact mixed tab_ok kb0_ok (n := 10000) (by kernel_rfl) (by kernel_rfl)
def gl20 : Gen := ⟨(nat_lit 97),[v_1094,(.string ⟨⟨[y48,y50,y63,y63]⟩⟩)],none,(nat_lit 4),[],(.bool .false)⟩
theorem gl20_ok : GFact Go.Proofs.Tryz.prog gl20 := gfact mixed tab_ok kb0_ok (n := 10000) (by kernel_rfl) (by kernel_rfl)
def gl21 : Gen := ⟨(nat_lit 97),[v_1091,(.string ⟨⟨[y48,y52,y63,y63]⟩⟩)],none,(nat_lit 4),[],(.bool .false)⟩
theorem gl21_ok : GFact Go.Proofs.Tryz.prog gl21 := gfact mixed tab_ok kb0_ok (n := 10000) (by kernel_rfl) (by kernel_rfl)
def gl22 : Gen := ⟨(nat_lit 97),[v_1092,(.string ⟨⟨[y48,y52,y63,y63]⟩⟩)],none,(nat_lit 4),[],(.bool .false)⟩
theorem gl22_ok : GFact Go.Proofs.Tryz.prog gl22 := gfact mixed tab_ok kb0_ok (n := 10000) (by kernel_rfl) (by kernel_rfl)
def gl23 : Gen := ⟨(nat_lit 97),[v_1093,(.string ⟨⟨[y48,y52,y63,y63]⟩⟩)],none,(nat_lit 4),[],(.bool .false)⟩
theorem gl23_ok : GFact Go.Proofs.Tryz.prog gl23 := gfact mixed tab_ok kb0_ok (n := 10000) (by kernel_rfl) (by kernel_rfl)
def gl24 : Gen := ⟨(nat_lit 97),[v_1094,(.string ⟨⟨[y48,y52,y63,y63]⟩⟩)],none,(nat_lit 4),[],(.bool .false)⟩
theorem gl24_ok : GFact Go.Proofs.Tryz.prog gl24 := gfact mixed tab_ok kb0_ok (n := 10000) (by kernel_rfl) (by kernel_rfl)
end

end Go.Sim
