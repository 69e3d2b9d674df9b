import Derived.Test.YtkjgachpmebipaiGreatDoorFactL
namespace Go.Sim
set_option linter.all false
open Go
set_option maxRecDepth 1000000
variable [Rho] [Asm] [SymOK]
noncomputable section
def gl0 : Gen := ⟨(nat_lit 33),[v_1090,(.int .i64 (.ofNat (nat_lit 2))),(.int .i64 (.ofNat (nat_lit 1)))],none,(nat_lit 4),[o_5],(.int .i64 (.ofNat (nat_lit 0)))⟩
theorem gl0_ok : GFact Go.Proofs.Tryz.prog gl0 := gfact mixed tab_ok kb0_ok (n := 10000) (by kernel_rfl) (by kernel_rfl)
def gl1 : Gen := ⟨(nat_lit 33),[v_1090,(.int .i64 (.ofNat (nat_lit 2))),(.int .i64 (.ofNat (nat_lit 1)))],none,(nat_lit 4),[o_18],(.int .i64 (.ofNat (nat_lit 0)))⟩
theorem gl1_ok : GFact Go.Proofs.Tryz.prog gl1 := gfact mixed tab_ok kb0_ok (n := 10000) (by kernel_rfl) (by kernel_rfl)
def gl2 : Gen := ⟨(nat_lit 33),[v_1090,(.int .i64 (.ofNat (nat_lit 2))),(.int .i64 (.ofNat (nat_lit 1)))],none,(nat_lit 4),[o_2],(.int .i64 (.ofNat (nat_lit 0)))⟩
theorem gl2_ok : GFact Go.Proofs.Tryz.prog gl2 := gfact mixed tab_ok kb0_ok (n := 10000) (by kernel_rfl) (by kernel_rfl)
def gl3 : Gen := ⟨(nat_lit 33),[v_1090,(.int .i64 (.ofNat (nat_lit 2))),(.int .i64 (.ofNat (nat_lit 0)))],none,(nat_lit 4),[o_28],(.int .i64 (.ofNat (nat_lit 0)))⟩
theorem gl3_ok : GFact Go.Proofs.Tryz.prog gl3 := gfact mixed tab_ok kb0_ok (n := 10000) (by kernel_rfl) (by kernel_rfl)
def gl4 : Gen := ⟨(nat_lit 97),[v_1091,(.string ⟨⟨[y48,y50,y63,y63]⟩⟩)],none,(nat_lit 4),[],(.bool .false)⟩
theorem gl4_ok : GFact Go.Proofs.Tryz.prog gl4 := gfact mixed tab_ok kb0_ok (n := 10000) (by kernel_rfl) (by kernel_rfl)
def gl5 : Gen := ⟨(nat_lit 97),[v_1092,(.string ⟨⟨[y48,y50,y63,y63]⟩⟩)],none,(nat_lit 4),[],(.bool .true)⟩
theorem gl5_ok : GFact Go.Proofs.Tryz.prog gl5 := gfact mixed tab_ok kb0_ok (n := 10000) (by kernel_rfl) (by kernel_rfl)
def gl6 : Gen := ⟨(nat_lit 97),[v_1093,(.string ⟨⟨[y48,y50,y63,y63]⟩⟩)],none,(nat_lit 4),[],(.bool .true)⟩
theorem gl6_ok : GFact Go.Proofs.Tryz.prog gl6 := gfact mixed tab_ok kb0_ok (n := 10000) (by kernel_rfl) (by kernel_rfl)
def gl7 : Gen := ⟨(nat_lit 97),[v_1091,(.string ⟨⟨[y48,y51,y53,y63]⟩⟩)],none,(nat_lit 4),[],(.bool .false)⟩
theorem gl7_ok : GFact Go.Proofs.Tryz.prog gl7 := gfact mixed tab_ok kb0_ok (n := 10000) (by kernel_rfl) (by kernel_rfl)
def gl8 : Gen := ⟨(nat_lit 97),[v_1092,(.string ⟨⟨[y48,y51,y53,y63]⟩⟩)],none,(nat_lit 4),[],(.bool .false)⟩
theorem gl8_ok : GFact Go.Proofs.Tryz.prog gl8 := gfact mixed tab_ok kb0_ok (n := 10000) (by kernel_rfl) (by kernel_rfl)
def gl9 : Gen := ⟨(nat_lit 97),[v_1093,(.string ⟨⟨[y48,y51,y53,y63]⟩⟩)],none,(nat_lit 4),[],(.bool .false)⟩
theorem gl9_ok : GFact Go.Proofs.Tryz.prog gl9 := gfact mixed tab_ok kb0_ok (n := 10000) (by kernel_rfl) (by kernel_rfl)
def gl10 : Gen := ⟨(nat_lit 97),[v_1094,(.string ⟨⟨[y48,y51,y53,y63]⟩⟩)],none,(nat_lit 4),[],(.bool .true)⟩
theorem gl10_ok : GFact Go.Proofs.Tryz.prog gl10 := gfact mixed tab_ok kb0_ok (n := 10000) (by kernel_rfl) (by kernel_rfl)
def gl11 : Gen := ⟨(nat_lit 97),[v_1091,(.string ⟨⟨[]⟩⟩)],none,(nat_lit 4),[],(.bool .true)⟩
theorem gl11_ok : GFact Go.Proofs.Tryz.prog gl11 := gfact mixed tab_ok kb0_ok (n := 10000) (by kernel_rfl) (by kernel_rfl)
def gl12 : Gen := ⟨(nat_lit 97),[v_1092,(.string ⟨⟨[]⟩⟩)],none,(nat_lit 4),[],(.bool .true)⟩
theorem gl12_ok : GFact Go.Proofs.Tryz.prog gl12 := gfact mixed tab_ok kb0_ok (n := 10000) (by kernel_rfl) (by kernel_rfl)
def gl13 : Gen := ⟨(nat_lit 97),[v_1093,(.string ⟨⟨[]⟩⟩)],none,(nat_lit 4),[],(.bool .true)⟩
theorem gl13_ok : GFact Go.Proofs.Tryz.prog gl13 := gfact mixed tab_ok kb0_ok (n := 10000) (by kernel_rfl) (by kernel_rfl)
def gl14 : Gen := ⟨(nat_lit 33),[v_1090,(.int .i64 (.ofNat (nat_lit 5))),(.int .i64 (.ofNat (nat_lit 1)))],none,(nat_lit 4),[o_5],(.int .i64 (.ofNat (nat_lit 7)))⟩
theorem gl14_ok : GFact Go.Proofs.Tryz.prog gl14 := gfact mixed tab_ok kb0_ok (n := 10000) (by kernel_rfl) (by kernel_rfl)
def gl15 : Gen := ⟨(nat_lit 33),[v_1090,(.int .i64 (.ofNat (nat_lit 2))),(.int .i64 (.ofNat (nat_lit 1)))],none,(nat_lit 4),[o_62],(.int .i64 (.ofNat (nat_lit 1)))⟩
theorem gl15_ok : GFact Go.Proofs.Tryz.prog gl15 := gfact mixed tab_ok kb0_ok (n := 10000) (by kernel_rfl) (by kernel_rfl)
def gl16 : Gen := ⟨(nat_lit 97),[v_1091,(.string ⟨⟨[y48,y50,y49,y63]⟩⟩)],none,(nat_lit 4),[],(.bool .false)⟩
theorem gl16_ok : GFact Go.Proofs.Tryz.prog gl16 := gfact mixed tab_ok kb0_ok (n := 10000) (by kernel_rfl) (by kernel_rfl)
def gl17 : Gen := ⟨(nat_lit 97),[v_1092,(.string ⟨⟨[y48,y50,y49,y63]⟩⟩)],none,(nat_lit 4),[],(.bool .true)⟩
theorem gl17_ok : GFact Go.Proofs.Tryz.prog gl17 := gfact mixed tab_ok kb0_ok (n := 10000) (by kernel_rfl) (by kernel_rfl)
def gl18 : Gen := ⟨(nat_lit 97),[v_1093,(.string ⟨⟨[y48,y50,y49,y63]⟩⟩)],none,(nat_lit 4),[],(.bool .false)⟩
theorem gl18_ok : GFact Go.Proofs.Tryz.prog gl18 := gfact mixed tab_ok kb0_ok (n := 10000) (by kernel_rfl) (by kernel_rfl)
end

end Go.Sim
