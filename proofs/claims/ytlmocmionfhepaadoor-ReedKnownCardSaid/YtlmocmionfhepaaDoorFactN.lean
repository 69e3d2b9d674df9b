import Derived.Test.YtlmocmionfhepaaDoorFactT0
import Derived.Test.YtlmocmionfhepaaDoorFactT1
namespace Go.Sim
open Go
set_option maxRecDepth 1000000
noncomputable section
def kbt_lg : List (Nat × List Gen) := [((nat_lit 6),[gt0]),((nat_lit 7),[gl0,gl1,gl2,gl3]),((nat_lit 16),[gt1]),((nat_lit 17),[gh2]),((nat_lit 19),[gh0,gh3,gh4]),((nat_lit 20),[gh1,gh5]),((nat_lit 48),[gim9,gim2,gi1,gi2,gi3,gi4,gi5,gi20,gi30,gi32,gi40,gi41]),((nat_lit 53),[gj0,gj1,gj2,gj3])]
def kbt_lc : List (Nat × List Chg) := []
def kbt : Kb := ⟨(.n (.n (.n (.n .e (some [gl0,gl1,gl2,gl3]) .e) none (.n (.n .e (some [gh0,gh3,gh4]) .e) none .e)) none (.n (.n (.n .e (some [gh2]) .e) none .e) none (.n (.n .e none (.n .e (some [gj0,gj1,gj2,gj3]) .e)) none .e))) none (.n (.n (.n (.n .e (some [gt1]) (.n .e (some [gim9,gim2,gi1,gi2,gi3,gi4,gi5,gi20,gi30,gi32,gi40,gi41]) .e)) none .e) none (.n (.n .e (some [gh1,gh5]) .e) none .e)) none (.n .e (some [gt0]) .e))),.e⟩
theorem kbt_ok : KbOK Go.Proofs.Tryd.prog kbt := kbOK (lg := kbt_lg) (lc := kbt_lc) (.cons (.cons gt0_ok .nil) rfl (.cons (.cons gl0_ok (.cons gl1_ok (.cons gl2_ok (.cons gl3_ok .nil)))) rfl (.cons (.cons gt1_ok .nil) rfl (.cons (.cons gh2_ok .nil) rfl (.cons (.cons gh0_ok (.cons gh3_ok (.cons gh4_ok .nil))) rfl (.cons (.cons gh1_ok (.cons gh5_ok .nil)) rfl (.cons (.cons gim9_ok (.cons gim2_ok (.cons gi1_ok (.cons gi2_ok (.cons gi3_ok (.cons gi4_ok (.cons gi5_ok (.cons gi20_ok (.cons gi30_ok (.cons gi32_ok (.cons gi40_ok (.cons gi41_ok .nil)))))))))))) rfl (.cons (.cons gj0_ok (.cons gj1_ok (.cons gj2_ok (.cons gj3_ok .nil)))) rfl .nil)))))))) .nil (by kernel_rfl) (by kernel_rfl)
end

end Go.Sim
