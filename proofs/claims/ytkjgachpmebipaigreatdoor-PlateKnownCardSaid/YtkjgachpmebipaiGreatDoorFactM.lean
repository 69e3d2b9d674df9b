import Derived.Test.YtkjgachpmebipaiGreatDoorFactC0
import Derived.Test.YtkjgachpmebipaiGreatDoorFactC1
namespace Go.Sim
set_option linter.all false
open Go
set_option maxRecDepth 1000000
variable [Rho] [Asm] [SymOK]
noncomputable section
def kb1_lg : List (Nat × List Gen) := [((nat_lit 33),[gl0,gl1,gl2,gl3,gl14,gl15]),((nat_lit 59),[gi0,gi1,gi2,gi250,gi349,gi350,gi399,gi1921]),((nat_lit 90),[gj0,gj1,gj2,gj3,gj4,gj5,gj6,gj7,gj8]),((nat_lit 97),[gl4,gl5,gl6,gl7,gl8,gl9,gl10,gl11,gl12,gl13,gl16,gl17,gl18,gl19,gl20,gl21,gl22,gl23,gl24])]
def kb1_lc : List (Nat × List Chg) := []
def kb1 : Kb := { w := .e, g := (.n (.n (.n .e none (.n .e none (.n .e none (.n .e (some [gi0,gi1,gi2,gi250,gi349,gi350,gi399,gi1921]) .e)))) none (.n (.n (.n (.n .e (some [gl0,gl1,gl2,gl3,gl14,gl15]) (.n .e (some [gl4,gl5,gl6,gl7,gl8,gl9,gl10,gl11,gl12,gl13,gl16,gl17,gl18,gl19,gl20,gl21,gl22,gl23,gl24]) .e)) none .e) none .e) none .e)) none (.n .e none (.n (.n .e none (.n .e none (.n (.n .e (some [gj0,gj1,gj2,gj3,gj4,gj5,gj6,gj7,gj8]) .e) none .e))) none .e))), c := .e }
theorem kb1_ok : KbOK Go.Proofs.Tryz.prog kb1 := kbOK (lw := []) (lg := kb1_lg) (lc := kb1_lc) .nil (.cons (.cons gl0_ok (.cons gl1_ok (.cons gl2_ok (.cons gl3_ok (.cons gl14_ok (.cons gl15_ok .nil)))))) rfl (.cons (.cons gi0_ok (.cons gi1_ok (.cons gi2_ok (.cons gi250_ok (.cons gi349_ok (.cons gi350_ok (.cons gi399_ok (.cons gi1921_ok .nil)))))))) rfl (.cons (.cons gj0_ok (.cons gj1_ok (.cons gj2_ok (.cons gj3_ok (.cons gj4_ok (.cons gj5_ok (.cons gj6_ok (.cons gj7_ok (.cons gj8_ok .nil))))))))) rfl (.cons (.cons gl4_ok (.cons gl5_ok (.cons gl6_ok (.cons gl7_ok (.cons gl8_ok (.cons gl9_ok (.cons gl10_ok (.cons gl11_ok (.cons gl12_ok (.cons gl13_ok (.cons gl16_ok (.cons gl17_ok (.cons gl18_ok (.cons gl19_ok (.cons gl20_ok (.cons gl21_ok (.cons gl22_ok (.cons gl23_ok (.cons gl24_ok .nil))))))))))))))))))) rfl .nil)))) .nil (by kernel_rfl) (by kernel_rfl) (by kernel_rfl)
end

end Go.Sim
