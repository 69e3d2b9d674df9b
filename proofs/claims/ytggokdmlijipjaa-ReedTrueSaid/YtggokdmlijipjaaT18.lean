/- Part 18 of the proof: FineG, PotK, After, Filed, PlainF. -/
import Derived.Deep.RegionHeld3
import Derived.Test.YtggokdmlijipjaaT17
import Derived.Test.YtggokdmlijipjaaT13
import Derived.Test.YtggokdmlijipjaaT10
import Derived.Test.YtggokdmlijipjaaT11
/- work.fine, on any job, by the reckoner: the job's numbers are symbols, its shifts are opaque. -/
namespace Go.Sim
set_option linter.all false
open Go Go.RowKit Go.Proofs Go.Proofs.Ytggokdmlijipjaa
set_option maxRecDepth 1000000
noncomputable section
def fineL (J : Jb) : List Int := [J.p1, J.p2, J.t1, J.t2, J.r1, J.r2, J.u1, J.u2, J.d1, J.d2, J.x1, J.x2, J.y1, J.y2, J.le, J.wi, J.me, 0, 0, 0, passI J.wi J.sh J.p1 J.p2, spoilI J.le J.tg]
def nthF : List Int → Nat → Int
  | [], _ => 0
  | x :: _, 0 => x
  | _ :: l, i + 1 => nthF l i
abbrev fineRho (J : Jb) (sl : Value) (w : World) : Rho := ⟨nthF (fineL J), fun _ => sl, w.heap.size, fun k => w.heap[k]?⟩
def jobV : Value := (.agg ⟨[(.func (.yield (nat_lit 0)) ⟨[(.int .i64 (.ofNat (nat_lit 0)))]⟩ ⟨[]⟩),(.func (.yield (nat_lit 0)) ⟨[(.int .i64 (.ofNat (nat_lit 1)))]⟩ ⟨[]⟩),(.func (.yield (nat_lit 0)) ⟨[(.int .i64 (.ofNat (nat_lit 2)))]⟩ ⟨[]⟩),(.func (.yield (nat_lit 0)) ⟨[(.int .i64 (.ofNat (nat_lit 3)))]⟩ ⟨[]⟩),(.func (.yield (nat_lit 0)) ⟨[(.int .i64 (.ofNat (nat_lit 4)))]⟩ ⟨[]⟩),(.func (.yield (nat_lit 0)) ⟨[(.int .i64 (.ofNat (nat_lit 5)))]⟩ ⟨[]⟩),(.func (.yield (nat_lit 0)) ⟨[(.int .i64 (.ofNat (nat_lit 6)))]⟩ ⟨[]⟩),(.func (.yield (nat_lit 0)) ⟨[(.int .i64 (.ofNat (nat_lit 7)))]⟩ ⟨[]⟩),(.func (.yield (nat_lit 0)) ⟨[(.int .i64 (.ofNat (nat_lit 8)))]⟩ ⟨[]⟩),(.func (.yield (nat_lit 0)) ⟨[(.int .i64 (.ofNat (nat_lit 9)))]⟩ ⟨[]⟩),(.func (.yield (nat_lit 0)) ⟨[(.int .i64 (.ofNat (nat_lit 10)))]⟩ ⟨[]⟩),(.func (.yield (nat_lit 0)) ⟨[(.int .i64 (.ofNat (nat_lit 11)))]⟩ ⟨[]⟩),(.func (.yield (nat_lit 0)) ⟨[(.int .i64 (.ofNat (nat_lit 12)))]⟩ ⟨[]⟩),(.func (.yield (nat_lit 0)) ⟨[(.int .i64 (.ofNat (nat_lit 13)))]⟩ ⟨[]⟩),(.func (.yield (nat_lit 0)) ⟨[(.int .i64 (.ofNat (nat_lit 14)))]⟩ ⟨[]⟩),(.func (.yield (nat_lit 30)) ⟨[.nilFunc, (.int .u64 (.ofNat (nat_lit 0)))]⟩ ⟨[]⟩),(.func (.yield (nat_lit 0)) ⟨[(.int .i64 (.ofNat (nat_lit 15)))]⟩ ⟨[]⟩),(.func (.yield (nat_lit 0)) ⟨[(.int .i64 (.ofNat (nat_lit 16)))]⟩ ⟨[]⟩)]⟩)
theorem jobV_is {J : Jb} {sl : Value} {w : World} {ι : Io} {u : Value} (h : @VR (fineRho J sl w) ι jobV u) : u = .agg (jobC J sl) := by
  letI := fineRho J sl w
  letI := Asm.none
  haveI : SymOK := SymOK.none
  obtain ⟨l, rfl, hl⟩ := h.aggI
  obtain ⟨x, y, rfl, h1, h2⟩ := LR.cut (a := [(.func (.yield (nat_lit 0)) ⟨[(.int .i64 (.ofNat (nat_lit 0)))]⟩ ⟨[]⟩),(.func (.yield (nat_lit 0)) ⟨[(.int .i64 (.ofNat (nat_lit 1)))]⟩ ⟨[]⟩),(.func (.yield (nat_lit 0)) ⟨[(.int .i64 (.ofNat (nat_lit 2)))]⟩ ⟨[]⟩),(.func (.yield (nat_lit 0)) ⟨[(.int .i64 (.ofNat (nat_lit 3)))]⟩ ⟨[]⟩),(.func (.yield (nat_lit 0)) ⟨[(.int .i64 (.ofNat (nat_lit 4)))]⟩ ⟨[]⟩),(.func (.yield (nat_lit 0)) ⟨[(.int .i64 (.ofNat (nat_lit 5)))]⟩ ⟨[]⟩),(.func (.yield (nat_lit 0)) ⟨[(.int .i64 (.ofNat (nat_lit 6)))]⟩ ⟨[]⟩),(.func (.yield (nat_lit 0)) ⟨[(.int .i64 (.ofNat (nat_lit 7)))]⟩ ⟨[]⟩),(.func (.yield (nat_lit 0)) ⟨[(.int .i64 (.ofNat (nat_lit 8)))]⟩ ⟨[]⟩),(.func (.yield (nat_lit 0)) ⟨[(.int .i64 (.ofNat (nat_lit 9)))]⟩ ⟨[]⟩),(.func (.yield (nat_lit 0)) ⟨[(.int .i64 (.ofNat (nat_lit 10)))]⟩ ⟨[]⟩),(.func (.yield (nat_lit 0)) ⟨[(.int .i64 (.ofNat (nat_lit 11)))]⟩ ⟨[]⟩),(.func (.yield (nat_lit 0)) ⟨[(.int .i64 (.ofNat (nat_lit 12)))]⟩ ⟨[]⟩),(.func (.yield (nat_lit 0)) ⟨[(.int .i64 (.ofNat (nat_lit 13)))]⟩ ⟨[]⟩),(.func (.yield (nat_lit 0)) ⟨[(.int .i64 (.ofNat (nat_lit 14)))]⟩ ⟨[]⟩)]) (b := (.func (.yield (nat_lit 30)) ⟨[.nilFunc, (.int .u64 (.ofNat (nat_lit 0)))]⟩ ⟨[]⟩) :: [(.func (.yield (nat_lit 0)) ⟨[(.int .i64 (.ofNat (nat_lit 15)))]⟩ ⟨[]⟩),(.func (.yield (nat_lit 0)) ⟨[(.int .i64 (.ofNat (nat_lit 16)))]⟩ ⟨[]⟩)]) hl
  have e1 := Dens.is (.cons (.sym _ _) (.cons (.sym _ _) (.cons (.sym _ _) (.cons (.sym _ _) (.cons (.sym _ _) (.cons (.sym _ _) (.cons (.sym _ _) (.cons (.sym _ _) (.cons (.sym _ _) (.cons (.sym _ _) (.cons (.sym _ _) (.cons (.sym _ _) (.cons (.sym _ _) (.cons (.sym _ _) (.cons (.sym _ _) .nil))))))))))))))) h1
  cases h2 with
  | cons hs h3 =>
    have e3 := Dens.is (.cons (.sym _ _) (.cons (.sym _ _) .nil)) h3
    have e2 := hs.opqI
    subst e1 e2 e3
    rfl
theorem jobV_vr {J : Jb} {a : Option Addr} {n c : Nat} {w : World} {ι : Io} : @VR (fineRho J (.slice a n c) w) ι jobV (.agg (jobC J (.slice a n c))) := by
  letI := fineRho J (.slice a n c) w
  exact .agg (.cons (.sym (.sym _ _)) (.cons (.sym (.sym _ _)) (.cons (.sym (.sym _ _)) (.cons (.sym (.sym _ _)) (.cons (.sym (.sym _ _)) (.cons (.sym (.sym _ _)) (.cons (.sym (.sym _ _)) (.cons (.sym (.sym _ _)) (.cons (.sym (.sym _ _)) (.cons (.sym (.sym _ _)) (.cons (.sym (.sym _ _)) (.cons (.sym (.sym _ _)) (.cons (.sym (.sym _ _)) (.cons (.sym (.sym _ _)) (.cons (.sym (.sym _ _)) (.cons (.opq rfl rfl) (.cons (.sym (.sym _ _)) (.cons (.sym (.sym _ _)) .nil))))))))))))))))))
def gPass : Gen := ⟨(nat_lit 27), [jobV], none, (nat_lit 0), [], (.func (.yield (nat_lit 0)) ⟨[(.int .i64 (.ofNat (nat_lit 20)))]⟩ ⟨[]⟩)⟩
def gSpoil : Gen := ⟨(nat_lit 31), [jobV], none, (nat_lit 0), [], (.func (.yield (nat_lit 0)) ⟨[(.int .i64 (.ofNat (nat_lit 21)))]⟩ ⟨[]⟩)⟩
theorem rg_env {w w' : World} {a : Option Addr} {l : List R2} (h : Go.Proofs.Ytggokdmlijipjaa.Rg w w.heap.size a l) (hz : w.heap.size ≤ w'.heap.size) (ho : ∀ k, k < w.heap.size → w'.heap[k]? = w.heap[k]?) : Go.Proofs.Ytggokdmlijipjaa.Rg w' w'.heap.size a l :=
  h.keep hz fun p hp => World.cell?_of_block (ho _ hp)
theorem gPass_ok [Asm] {J : Jb} {a : Option Addr} {n c : Nat} {w : World} (hS : @SymOK (fineRho J (.slice a n c) w) _) (hJ : J.In 1000) (hn : n = J.sh.length) (h : Go.Proofs.Ytggokdmlijipjaa.Rg w w.heap.size a J.sh) : @GFact (fineRho J (.slice a n c) w) Try.prog gPass := by
  letI := fineRho J (.slice a n c) w
  haveI := hS
  refine ⟨⟨by decide, by decide⟩, fun ι w1 fv' args' q1 q2 q3 => ?_⟩
  cases q2 with
  | cons hv hnil =>
    cases hnil
    rw [jobV_is hv]
    have hg : Try.prog.globals.size = 0 := by kernel_rfl
    have hz : w.heap.size ≤ w1.heap.size := q3.env.top
    have ho : ∀ k, k < w.heap.size → w1.heap[k]? = w.heap[k]? := fun k hk => q3.env.old k (by omega) hk
    refine gplain Try.func27 rfl (by kernel_rfl) q1 ((passes_any J a n c w1 hJ hn (rg_env h hz ho)).mono ?_)
    rintro e w2 ⟨rfl, hb⟩
    exact ⟨_, rfl, fun ι => .sym (.sym _ _), hb.os, hb.tape, hb.output, hb.size, hb.block⟩
theorem gSpoil_ok [Asm] {J : Jb} {a : Option Addr} {n c : Nat} {w : World} (hS : @SymOK (fineRho J (.slice a n c) w) _) : @GFact (fineRho J (.slice a n c) w) Try.prog gSpoil := by
  letI := fineRho J (.slice a n c) w
  haveI := hS
  refine ⟨⟨by decide, by decide⟩, fun ι w1 fv' args' q1 q2 q3 => ?_⟩
  cases q2 with
  | cons hv hnil =>
    cases hnil
    rw [jobV_is hv]
    refine gplain Try.func31 rfl (by kernel_rfl) q1 ((spoiled_any J (.slice a n c) w1).mono ?_)
    rintro e w2 ⟨rfl, rfl⟩
    have hb : Below w1.heap.size w1 (w1.alloc (.cells (jobC J (.slice a n c)) 68)) := (Below.refl _ _).alloc (Nat.le_refl _) _
    exact ⟨_, rfl, fun ι => .sym (.sym _ _), hb.os, hb.tape, hb.output, hb.size, hb.block⟩
def fineKb : Kb := { w := .e, g := (.n (.n (.n (.n (.n (.n .e (some [gSpoil]) .e) none .e) none .e) none (.n .e none (.n .e (some [gPass]) .e))) none .e) none .e), c := .e }
theorem fineKb_gen [Rho] [Asm] [SymOK] (h1 : GFact Try.prog gPass) (h2 : GFact Try.prog gSpoil) : KbOK Try.prog fineKb := kbOK (lw := []) (lg := [((nat_lit 27), [gPass]), ((nat_lit 31), [gSpoil])]) (lc := []) .nil (.cons (.cons h1 .nil) (by kernel_rfl) (.cons (.cons h2 .nil) (by kernel_rfl) .nil)) .nil (by kernel_rfl) (by kernel_rfl) (by kernel_rfl)
theorem fmixed : Try.prog.follows .mixedOrders = true := by kernel_rfl
abbrev fasm0 : Asm := ⟨[((.func (.yield (nat_lit 20)) ⟨[(.func (.yield (nat_lit 0)) ⟨[(.int .i64 (.ofNat (nat_lit 20)))]⟩ ⟨[]⟩),(.int .i64 (.ofNat (nat_lit 1)))]⟩ ⟨[]⟩),true),((.func (.yield (nat_lit 20)) ⟨[(.func (.yield (nat_lit 0)) ⟨[(.int .i64 (.ofNat (nat_lit 21)))]⟩ ⟨[]⟩),(.int .i64 (.ofNat (nat_lit 2)))]⟩ ⟨[]⟩),true)]⟩
def frun0 : Chg := ⟨.func (.func (nat_lit 32)) ⟨[]⟩ ⟨[]⟩, [jobV], S1 .e (nat_lit 0), (.int .i64 (.ofNat (nat_lit 1))), (nat_lit 0), [], []⟩
theorem frun0_gen [Rho] (hS : @SymOK _ fasm0) (hK : KbOK Try.prog fineKb) : CFact Try.prog frun0 := @cfact _ fasm0 hS Try.prog fmixed tab (@tab_ok _ fasm0 hS) fineKb hK frun0 10000 (by kernel_rfl) (by kernel_rfl)
theorem fsym0 {J : Jb} {sl : Value} {w : World} (h : (passI J.wi J.sh J.p1 J.p2 == 1) = true ∧ (spoilI J.le J.tg == 2) = true) : @SymOK (fineRho J sl w) fasm0 := @SymOK.mk (fineRho J sl w) fasm0 fun c hc b hb => by
  obtain ⟨h1, h2⟩ := h
  replace hc : c = ((.func (.yield (nat_lit 20)) ⟨[(.func (.yield (nat_lit 0)) ⟨[(.int .i64 (.ofNat (nat_lit 20)))]⟩ ⟨[]⟩),(.int .i64 (.ofNat (nat_lit 1)))]⟩ ⟨[]⟩),true) ∨ c = ((.func (.yield (nat_lit 20)) ⟨[(.func (.yield (nat_lit 0)) ⟨[(.int .i64 (.ofNat (nat_lit 21)))]⟩ ⟨[]⟩),(.int .i64 (.ofNat (nat_lit 2)))]⟩ ⟨[]⟩),true) := by have hc : c ∈ [((.func (.yield (nat_lit 20)) ⟨[(.func (.yield (nat_lit 0)) ⟨[(.int .i64 (.ofNat (nat_lit 20)))]⟩ ⟨[]⟩),(.int .i64 (.ofNat (nat_lit 1)))]⟩ ⟨[]⟩),true), ((.func (.yield (nat_lit 20)) ⟨[(.func (.yield (nat_lit 0)) ⟨[(.int .i64 (.ofNat (nat_lit 21)))]⟩ ⟨[]⟩),(.int .i64 (.ofNat (nat_lit 2)))]⟩ ⟨[]⟩),true)] := hc; simpa only [List.mem_cons, List.not_mem_nil, or_false] using hc
  letI := fineRho J sl w
  rcases hc with rfl | rfl
  · have e := eqN (k := .i64) hb (.sym _ _) (.lit _ _); rw [e]; exact h1
  · have e := eqN (k := .i64) hb (.sym _ _) (.lit _ _); rw [e]; exact h2
theorem fcase0 {J : Jb} {a : Option Addr} {n c : Nat} {w : World} (hJ : J.In 1000) (hn : n = J.sh.length) (h : Go.Proofs.Ytggokdmlijipjaa.Rg w w.heap.size a J.sh) (hq : (passI J.wi J.sh J.p1 J.p2 == 1) = true ∧ (spoilI J.le J.tg == 2) = true) : Calls Try.prog 32 #[.agg (jobC J (.slice a n c))] w fun e w' => e = .returned (.int .i64 1) ∧ Below w.heap.size w w' := by
  letI := fineRho J (.slice a n c) w
  letI := fasm0
  haveI hS : SymOK := fsym0 hq
  have hK : KbOK Try.prog fineKb := fineKb_gen (gPass_ok hS hJ hn h) (gSpoil_ok hS)
  have hg : Try.prog.globals.size = 0 := by kernel_rfl
  refine (open_any (frun0_gen hS hK) (.cons jobV_vr .nil) rfl hg (by kernel_rfl) w (Nat.zero_le _) (fun b o hb => by rw [Tr.get_e] at hb; cases hb) ⟨Nat.le_refl _, fun _ _ _ => rfl⟩).mono ?_
  rintro e w' ⟨v', ι', rfl, hv, hk⟩
  have e1 := Den.is (.lit _ _) hv
  subst e1
  exact ⟨rfl, hk.os, hk.tape, hk.output, hk.size, hk.heap⟩
abbrev fasm1 : Asm := ⟨[((.func (.yield (nat_lit 20)) ⟨[(.func (.yield (nat_lit 0)) ⟨[(.int .i64 (.ofNat (nat_lit 20)))]⟩ ⟨[]⟩),(.int .i64 (.ofNat (nat_lit 1)))]⟩ ⟨[]⟩),true),((.func (.yield (nat_lit 20)) ⟨[(.func (.yield (nat_lit 0)) ⟨[(.int .i64 (.ofNat (nat_lit 21)))]⟩ ⟨[]⟩),(.int .i64 (.ofNat (nat_lit 2)))]⟩ ⟨[]⟩),false),((.func (.yield (nat_lit 20)) ⟨[(.func (.yield (nat_lit 0)) ⟨[(.int .i64 (.ofNat (nat_lit 20)))]⟩ ⟨[]⟩),(.int .i64 (.ofNat (nat_lit 2)))]⟩ ⟨[]⟩),false),((.func (.yield (nat_lit 20)) ⟨[(.func (.yield (nat_lit 0)) ⟨[(.int .i64 (.ofNat (nat_lit 21)))]⟩ ⟨[]⟩),(.int .i64 (.ofNat (nat_lit 1)))]⟩ ⟨[]⟩),true)]⟩
def frun1 : Chg := ⟨.func (.func (nat_lit 32)) ⟨[]⟩ ⟨[]⟩, [jobV], S1 .e (nat_lit 0), (.int .i64 (.ofNat (nat_lit 2))), (nat_lit 0), [], []⟩
theorem frun1_gen [Rho] (hS : @SymOK _ fasm1) (hK : KbOK Try.prog fineKb) : CFact Try.prog frun1 := @cfact _ fasm1 hS Try.prog fmixed tab (@tab_ok _ fasm1 hS) fineKb hK frun1 10000 (by kernel_rfl) (by kernel_rfl)
theorem fsym1 {J : Jb} {sl : Value} {w : World} (h : (passI J.wi J.sh J.p1 J.p2 == 1) = true ∧ (spoilI J.le J.tg == 2) = false ∧ (passI J.wi J.sh J.p1 J.p2 == 2) = false ∧ (spoilI J.le J.tg == 1) = true) : @SymOK (fineRho J sl w) fasm1 := @SymOK.mk (fineRho J sl w) fasm1 fun c hc b hb => by
  obtain ⟨h1, h2, h3, h4⟩ := h
  replace hc : c = ((.func (.yield (nat_lit 20)) ⟨[(.func (.yield (nat_lit 0)) ⟨[(.int .i64 (.ofNat (nat_lit 20)))]⟩ ⟨[]⟩),(.int .i64 (.ofNat (nat_lit 1)))]⟩ ⟨[]⟩),true) ∨ c = ((.func (.yield (nat_lit 20)) ⟨[(.func (.yield (nat_lit 0)) ⟨[(.int .i64 (.ofNat (nat_lit 21)))]⟩ ⟨[]⟩),(.int .i64 (.ofNat (nat_lit 2)))]⟩ ⟨[]⟩),false) ∨ c = ((.func (.yield (nat_lit 20)) ⟨[(.func (.yield (nat_lit 0)) ⟨[(.int .i64 (.ofNat (nat_lit 20)))]⟩ ⟨[]⟩),(.int .i64 (.ofNat (nat_lit 2)))]⟩ ⟨[]⟩),false) ∨ c = ((.func (.yield (nat_lit 20)) ⟨[(.func (.yield (nat_lit 0)) ⟨[(.int .i64 (.ofNat (nat_lit 21)))]⟩ ⟨[]⟩),(.int .i64 (.ofNat (nat_lit 1)))]⟩ ⟨[]⟩),true) := by have hc : c ∈ [((.func (.yield (nat_lit 20)) ⟨[(.func (.yield (nat_lit 0)) ⟨[(.int .i64 (.ofNat (nat_lit 20)))]⟩ ⟨[]⟩),(.int .i64 (.ofNat (nat_lit 1)))]⟩ ⟨[]⟩),true), ((.func (.yield (nat_lit 20)) ⟨[(.func (.yield (nat_lit 0)) ⟨[(.int .i64 (.ofNat (nat_lit 21)))]⟩ ⟨[]⟩),(.int .i64 (.ofNat (nat_lit 2)))]⟩ ⟨[]⟩),false), ((.func (.yield (nat_lit 20)) ⟨[(.func (.yield (nat_lit 0)) ⟨[(.int .i64 (.ofNat (nat_lit 20)))]⟩ ⟨[]⟩),(.int .i64 (.ofNat (nat_lit 2)))]⟩ ⟨[]⟩),false), ((.func (.yield (nat_lit 20)) ⟨[(.func (.yield (nat_lit 0)) ⟨[(.int .i64 (.ofNat (nat_lit 21)))]⟩ ⟨[]⟩),(.int .i64 (.ofNat (nat_lit 1)))]⟩ ⟨[]⟩),true)] := hc; simpa only [List.mem_cons, List.not_mem_nil, or_false] using hc
  letI := fineRho J sl w
  rcases hc with rfl | rfl | rfl | rfl
  · have e := eqN (k := .i64) hb (.sym _ _) (.lit _ _); rw [e]; exact h1
  · have e := eqN (k := .i64) hb (.sym _ _) (.lit _ _); rw [e]; exact h2
  · have e := eqN (k := .i64) hb (.sym _ _) (.lit _ _); rw [e]; exact h3
  · have e := eqN (k := .i64) hb (.sym _ _) (.lit _ _); rw [e]; exact h4
theorem fcase1 {J : Jb} {a : Option Addr} {n c : Nat} {w : World} (hJ : J.In 1000) (hn : n = J.sh.length) (h : Go.Proofs.Ytggokdmlijipjaa.Rg w w.heap.size a J.sh) (hq : (passI J.wi J.sh J.p1 J.p2 == 1) = true ∧ (spoilI J.le J.tg == 2) = false ∧ (passI J.wi J.sh J.p1 J.p2 == 2) = false ∧ (spoilI J.le J.tg == 1) = true) : Calls Try.prog 32 #[.agg (jobC J (.slice a n c))] w fun e w' => e = .returned (.int .i64 2) ∧ Below w.heap.size w w' := by
  letI := fineRho J (.slice a n c) w
  letI := fasm1
  haveI hS : SymOK := fsym1 hq
  have hK : KbOK Try.prog fineKb := fineKb_gen (gPass_ok hS hJ hn h) (gSpoil_ok hS)
  have hg : Try.prog.globals.size = 0 := by kernel_rfl
  refine (open_any (frun1_gen hS hK) (.cons jobV_vr .nil) rfl hg (by kernel_rfl) w (Nat.zero_le _) (fun b o hb => by rw [Tr.get_e] at hb; cases hb) ⟨Nat.le_refl _, fun _ _ _ => rfl⟩).mono ?_
  rintro e w' ⟨v', ι', rfl, hv, hk⟩
  have e1 := Den.is (.lit _ _) hv
  subst e1
  exact ⟨rfl, hk.os, hk.tape, hk.output, hk.size, hk.heap⟩
abbrev fasm2 : Asm := ⟨[((.func (.yield (nat_lit 20)) ⟨[(.func (.yield (nat_lit 0)) ⟨[(.int .i64 (.ofNat (nat_lit 20)))]⟩ ⟨[]⟩),(.int .i64 (.ofNat (nat_lit 1)))]⟩ ⟨[]⟩),true),((.func (.yield (nat_lit 20)) ⟨[(.func (.yield (nat_lit 0)) ⟨[(.int .i64 (.ofNat (nat_lit 21)))]⟩ ⟨[]⟩),(.int .i64 (.ofNat (nat_lit 2)))]⟩ ⟨[]⟩),false),((.func (.yield (nat_lit 20)) ⟨[(.func (.yield (nat_lit 0)) ⟨[(.int .i64 (.ofNat (nat_lit 20)))]⟩ ⟨[]⟩),(.int .i64 (.ofNat (nat_lit 2)))]⟩ ⟨[]⟩),false),((.func (.yield (nat_lit 20)) ⟨[(.func (.yield (nat_lit 0)) ⟨[(.int .i64 (.ofNat (nat_lit 21)))]⟩ ⟨[]⟩),(.int .i64 (.ofNat (nat_lit 1)))]⟩ ⟨[]⟩),false)]⟩
def frun2 : Chg := ⟨.func (.func (nat_lit 32)) ⟨[]⟩ ⟨[]⟩, [jobV], S1 .e (nat_lit 0), (.int .i64 (.ofNat (nat_lit 3))), (nat_lit 0), [], []⟩
theorem frun2_gen [Rho] (hS : @SymOK _ fasm2) (hK : KbOK Try.prog fineKb) : CFact Try.prog frun2 := @cfact _ fasm2 hS Try.prog fmixed tab (@tab_ok _ fasm2 hS) fineKb hK frun2 10000 (by kernel_rfl) (by kernel_rfl)
theorem fsym2 {J : Jb} {sl : Value} {w : World} (h : (passI J.wi J.sh J.p1 J.p2 == 1) = true ∧ (spoilI J.le J.tg == 2) = false ∧ (passI J.wi J.sh J.p1 J.p2 == 2) = false ∧ (spoilI J.le J.tg == 1) = false) : @SymOK (fineRho J sl w) fasm2 := @SymOK.mk (fineRho J sl w) fasm2 fun c hc b hb => by
  obtain ⟨h1, h2, h3, h4⟩ := h
  replace hc : c = ((.func (.yield (nat_lit 20)) ⟨[(.func (.yield (nat_lit 0)) ⟨[(.int .i64 (.ofNat (nat_lit 20)))]⟩ ⟨[]⟩),(.int .i64 (.ofNat (nat_lit 1)))]⟩ ⟨[]⟩),true) ∨ c = ((.func (.yield (nat_lit 20)) ⟨[(.func (.yield (nat_lit 0)) ⟨[(.int .i64 (.ofNat (nat_lit 21)))]⟩ ⟨[]⟩),(.int .i64 (.ofNat (nat_lit 2)))]⟩ ⟨[]⟩),false) ∨ c = ((.func (.yield (nat_lit 20)) ⟨[(.func (.yield (nat_lit 0)) ⟨[(.int .i64 (.ofNat (nat_lit 20)))]⟩ ⟨[]⟩),(.int .i64 (.ofNat (nat_lit 2)))]⟩ ⟨[]⟩),false) ∨ c = ((.func (.yield (nat_lit 20)) ⟨[(.func (.yield (nat_lit 0)) ⟨[(.int .i64 (.ofNat (nat_lit 21)))]⟩ ⟨[]⟩),(.int .i64 (.ofNat (nat_lit 1)))]⟩ ⟨[]⟩),false) := by have hc : c ∈ [((.func (.yield (nat_lit 20)) ⟨[(.func (.yield (nat_lit 0)) ⟨[(.int .i64 (.ofNat (nat_lit 20)))]⟩ ⟨[]⟩),(.int .i64 (.ofNat (nat_lit 1)))]⟩ ⟨[]⟩),true), ((.func (.yield (nat_lit 20)) ⟨[(.func (.yield (nat_lit 0)) ⟨[(.int .i64 (.ofNat (nat_lit 21)))]⟩ ⟨[]⟩),(.int .i64 (.ofNat (nat_lit 2)))]⟩ ⟨[]⟩),false), ((.func (.yield (nat_lit 20)) ⟨[(.func (.yield (nat_lit 0)) ⟨[(.int .i64 (.ofNat (nat_lit 20)))]⟩ ⟨[]⟩),(.int .i64 (.ofNat (nat_lit 2)))]⟩ ⟨[]⟩),false), ((.func (.yield (nat_lit 20)) ⟨[(.func (.yield (nat_lit 0)) ⟨[(.int .i64 (.ofNat (nat_lit 21)))]⟩ ⟨[]⟩),(.int .i64 (.ofNat (nat_lit 1)))]⟩ ⟨[]⟩),false)] := hc; simpa only [List.mem_cons, List.not_mem_nil, or_false] using hc
  letI := fineRho J sl w
  rcases hc with rfl | rfl | rfl | rfl
  · have e := eqN (k := .i64) hb (.sym _ _) (.lit _ _); rw [e]; exact h1
  · have e := eqN (k := .i64) hb (.sym _ _) (.lit _ _); rw [e]; exact h2
  · have e := eqN (k := .i64) hb (.sym _ _) (.lit _ _); rw [e]; exact h3
  · have e := eqN (k := .i64) hb (.sym _ _) (.lit _ _); rw [e]; exact h4
theorem fcase2 {J : Jb} {a : Option Addr} {n c : Nat} {w : World} (hJ : J.In 1000) (hn : n = J.sh.length) (h : Go.Proofs.Ytggokdmlijipjaa.Rg w w.heap.size a J.sh) (hq : (passI J.wi J.sh J.p1 J.p2 == 1) = true ∧ (spoilI J.le J.tg == 2) = false ∧ (passI J.wi J.sh J.p1 J.p2 == 2) = false ∧ (spoilI J.le J.tg == 1) = false) : Calls Try.prog 32 #[.agg (jobC J (.slice a n c))] w fun e w' => e = .returned (.int .i64 3) ∧ Below w.heap.size w w' := by
  letI := fineRho J (.slice a n c) w
  letI := fasm2
  haveI hS : SymOK := fsym2 hq
  have hK : KbOK Try.prog fineKb := fineKb_gen (gPass_ok hS hJ hn h) (gSpoil_ok hS)
  have hg : Try.prog.globals.size = 0 := by kernel_rfl
  refine (open_any (frun2_gen hS hK) (.cons jobV_vr .nil) rfl hg (by kernel_rfl) w (Nat.zero_le _) (fun b o hb => by rw [Tr.get_e] at hb; cases hb) ⟨Nat.le_refl _, fun _ _ _ => rfl⟩).mono ?_
  rintro e w' ⟨v', ι', rfl, hv, hk⟩
  have e1 := Den.is (.lit _ _) hv
  subst e1
  exact ⟨rfl, hk.os, hk.tape, hk.output, hk.size, hk.heap⟩
abbrev fasm3 : Asm := ⟨[((.func (.yield (nat_lit 20)) ⟨[(.func (.yield (nat_lit 0)) ⟨[(.int .i64 (.ofNat (nat_lit 20)))]⟩ ⟨[]⟩),(.int .i64 (.ofNat (nat_lit 1)))]⟩ ⟨[]⟩),false),((.func (.yield (nat_lit 20)) ⟨[(.func (.yield (nat_lit 0)) ⟨[(.int .i64 (.ofNat (nat_lit 20)))]⟩ ⟨[]⟩),(.int .i64 (.ofNat (nat_lit 2)))]⟩ ⟨[]⟩),true)]⟩
def frun3 : Chg := ⟨.func (.func (nat_lit 32)) ⟨[]⟩ ⟨[]⟩, [jobV], S1 .e (nat_lit 0), (.int .i64 (.ofNat (nat_lit 2))), (nat_lit 0), [], []⟩
theorem frun3_gen [Rho] (hS : @SymOK _ fasm3) (hK : KbOK Try.prog fineKb) : CFact Try.prog frun3 := @cfact _ fasm3 hS Try.prog fmixed tab (@tab_ok _ fasm3 hS) fineKb hK frun3 10000 (by kernel_rfl) (by kernel_rfl)
theorem fsym3 {J : Jb} {sl : Value} {w : World} (h : (passI J.wi J.sh J.p1 J.p2 == 1) = false ∧ (passI J.wi J.sh J.p1 J.p2 == 2) = true) : @SymOK (fineRho J sl w) fasm3 := @SymOK.mk (fineRho J sl w) fasm3 fun c hc b hb => by
  obtain ⟨h1, h3⟩ := h
  replace hc : c = ((.func (.yield (nat_lit 20)) ⟨[(.func (.yield (nat_lit 0)) ⟨[(.int .i64 (.ofNat (nat_lit 20)))]⟩ ⟨[]⟩),(.int .i64 (.ofNat (nat_lit 1)))]⟩ ⟨[]⟩),false) ∨ c = ((.func (.yield (nat_lit 20)) ⟨[(.func (.yield (nat_lit 0)) ⟨[(.int .i64 (.ofNat (nat_lit 20)))]⟩ ⟨[]⟩),(.int .i64 (.ofNat (nat_lit 2)))]⟩ ⟨[]⟩),true) := by have hc : c ∈ [((.func (.yield (nat_lit 20)) ⟨[(.func (.yield (nat_lit 0)) ⟨[(.int .i64 (.ofNat (nat_lit 20)))]⟩ ⟨[]⟩),(.int .i64 (.ofNat (nat_lit 1)))]⟩ ⟨[]⟩),false), ((.func (.yield (nat_lit 20)) ⟨[(.func (.yield (nat_lit 0)) ⟨[(.int .i64 (.ofNat (nat_lit 20)))]⟩ ⟨[]⟩),(.int .i64 (.ofNat (nat_lit 2)))]⟩ ⟨[]⟩),true)] := hc; simpa only [List.mem_cons, List.not_mem_nil, or_false] using hc
  letI := fineRho J sl w
  rcases hc with rfl | rfl
  · have e := eqN (k := .i64) hb (.sym _ _) (.lit _ _); rw [e]; exact h1
  · have e := eqN (k := .i64) hb (.sym _ _) (.lit _ _); rw [e]; exact h3
theorem fcase3 {J : Jb} {a : Option Addr} {n c : Nat} {w : World} (hJ : J.In 1000) (hn : n = J.sh.length) (h : Go.Proofs.Ytggokdmlijipjaa.Rg w w.heap.size a J.sh) (hq : (passI J.wi J.sh J.p1 J.p2 == 1) = false ∧ (passI J.wi J.sh J.p1 J.p2 == 2) = true) : Calls Try.prog 32 #[.agg (jobC J (.slice a n c))] w fun e w' => e = .returned (.int .i64 2) ∧ Below w.heap.size w w' := by
  letI := fineRho J (.slice a n c) w
  letI := fasm3
  haveI hS : SymOK := fsym3 hq
  have hK : KbOK Try.prog fineKb := fineKb_gen (gPass_ok hS hJ hn h) (gSpoil_ok hS)
  have hg : Try.prog.globals.size = 0 := by kernel_rfl
  refine (open_any (frun3_gen hS hK) (.cons jobV_vr .nil) rfl hg (by kernel_rfl) w (Nat.zero_le _) (fun b o hb => by rw [Tr.get_e] at hb; cases hb) ⟨Nat.le_refl _, fun _ _ _ => rfl⟩).mono ?_
  rintro e w' ⟨v', ι', rfl, hv, hk⟩
  have e1 := Den.is (.lit _ _) hv
  subst e1
  exact ⟨rfl, hk.os, hk.tape, hk.output, hk.size, hk.heap⟩
abbrev fasm4 : Asm := ⟨[((.func (.yield (nat_lit 20)) ⟨[(.func (.yield (nat_lit 0)) ⟨[(.int .i64 (.ofNat (nat_lit 20)))]⟩ ⟨[]⟩),(.int .i64 (.ofNat (nat_lit 1)))]⟩ ⟨[]⟩),false),((.func (.yield (nat_lit 20)) ⟨[(.func (.yield (nat_lit 0)) ⟨[(.int .i64 (.ofNat (nat_lit 20)))]⟩ ⟨[]⟩),(.int .i64 (.ofNat (nat_lit 2)))]⟩ ⟨[]⟩),false),((.func (.yield (nat_lit 20)) ⟨[(.func (.yield (nat_lit 0)) ⟨[(.int .i64 (.ofNat (nat_lit 21)))]⟩ ⟨[]⟩),(.int .i64 (.ofNat (nat_lit 1)))]⟩ ⟨[]⟩),true)]⟩
def frun4 : Chg := ⟨.func (.func (nat_lit 32)) ⟨[]⟩ ⟨[]⟩, [jobV], S1 .e (nat_lit 0), (.int .i64 (.ofNat (nat_lit 2))), (nat_lit 0), [], []⟩
theorem frun4_gen [Rho] (hS : @SymOK _ fasm4) (hK : KbOK Try.prog fineKb) : CFact Try.prog frun4 := @cfact _ fasm4 hS Try.prog fmixed tab (@tab_ok _ fasm4 hS) fineKb hK frun4 10000 (by kernel_rfl) (by kernel_rfl)
theorem fsym4 {J : Jb} {sl : Value} {w : World} (h : (passI J.wi J.sh J.p1 J.p2 == 1) = false ∧ (passI J.wi J.sh J.p1 J.p2 == 2) = false ∧ (spoilI J.le J.tg == 1) = true) : @SymOK (fineRho J sl w) fasm4 := @SymOK.mk (fineRho J sl w) fasm4 fun c hc b hb => by
  obtain ⟨h1, h3, h4⟩ := h
  replace hc : c = ((.func (.yield (nat_lit 20)) ⟨[(.func (.yield (nat_lit 0)) ⟨[(.int .i64 (.ofNat (nat_lit 20)))]⟩ ⟨[]⟩),(.int .i64 (.ofNat (nat_lit 1)))]⟩ ⟨[]⟩),false) ∨ c = ((.func (.yield (nat_lit 20)) ⟨[(.func (.yield (nat_lit 0)) ⟨[(.int .i64 (.ofNat (nat_lit 20)))]⟩ ⟨[]⟩),(.int .i64 (.ofNat (nat_lit 2)))]⟩ ⟨[]⟩),false) ∨ c = ((.func (.yield (nat_lit 20)) ⟨[(.func (.yield (nat_lit 0)) ⟨[(.int .i64 (.ofNat (nat_lit 21)))]⟩ ⟨[]⟩),(.int .i64 (.ofNat (nat_lit 1)))]⟩ ⟨[]⟩),true) := by have hc : c ∈ [((.func (.yield (nat_lit 20)) ⟨[(.func (.yield (nat_lit 0)) ⟨[(.int .i64 (.ofNat (nat_lit 20)))]⟩ ⟨[]⟩),(.int .i64 (.ofNat (nat_lit 1)))]⟩ ⟨[]⟩),false), ((.func (.yield (nat_lit 20)) ⟨[(.func (.yield (nat_lit 0)) ⟨[(.int .i64 (.ofNat (nat_lit 20)))]⟩ ⟨[]⟩),(.int .i64 (.ofNat (nat_lit 2)))]⟩ ⟨[]⟩),false), ((.func (.yield (nat_lit 20)) ⟨[(.func (.yield (nat_lit 0)) ⟨[(.int .i64 (.ofNat (nat_lit 21)))]⟩ ⟨[]⟩),(.int .i64 (.ofNat (nat_lit 1)))]⟩ ⟨[]⟩),true)] := hc; simpa only [List.mem_cons, List.not_mem_nil, or_false] using hc
  letI := fineRho J sl w
  rcases hc with rfl | rfl | rfl
  · have e := eqN (k := .i64) hb (.sym _ _) (.lit _ _); rw [e]; exact h1
  · have e := eqN (k := .i64) hb (.sym _ _) (.lit _ _); rw [e]; exact h3
  · have e := eqN (k := .i64) hb (.sym _ _) (.lit _ _); rw [e]; exact h4
theorem fcase4 {J : Jb} {a : Option Addr} {n c : Nat} {w : World} (hJ : J.In 1000) (hn : n = J.sh.length) (h : Go.Proofs.Ytggokdmlijipjaa.Rg w w.heap.size a J.sh) (hq : (passI J.wi J.sh J.p1 J.p2 == 1) = false ∧ (passI J.wi J.sh J.p1 J.p2 == 2) = false ∧ (spoilI J.le J.tg == 1) = true) : Calls Try.prog 32 #[.agg (jobC J (.slice a n c))] w fun e w' => e = .returned (.int .i64 2) ∧ Below w.heap.size w w' := by
  letI := fineRho J (.slice a n c) w
  letI := fasm4
  haveI hS : SymOK := fsym4 hq
  have hK : KbOK Try.prog fineKb := fineKb_gen (gPass_ok hS hJ hn h) (gSpoil_ok hS)
  have hg : Try.prog.globals.size = 0 := by kernel_rfl
  refine (open_any (frun4_gen hS hK) (.cons jobV_vr .nil) rfl hg (by kernel_rfl) w (Nat.zero_le _) (fun b o hb => by rw [Tr.get_e] at hb; cases hb) ⟨Nat.le_refl _, fun _ _ _ => rfl⟩).mono ?_
  rintro e w' ⟨v', ι', rfl, hv, hk⟩
  have e1 := Den.is (.lit _ _) hv
  subst e1
  exact ⟨rfl, hk.os, hk.tape, hk.output, hk.size, hk.heap⟩
abbrev fasm5 : Asm := ⟨[((.func (.yield (nat_lit 20)) ⟨[(.func (.yield (nat_lit 0)) ⟨[(.int .i64 (.ofNat (nat_lit 20)))]⟩ ⟨[]⟩),(.int .i64 (.ofNat (nat_lit 1)))]⟩ ⟨[]⟩),false),((.func (.yield (nat_lit 20)) ⟨[(.func (.yield (nat_lit 0)) ⟨[(.int .i64 (.ofNat (nat_lit 20)))]⟩ ⟨[]⟩),(.int .i64 (.ofNat (nat_lit 2)))]⟩ ⟨[]⟩),false),((.func (.yield (nat_lit 20)) ⟨[(.func (.yield (nat_lit 0)) ⟨[(.int .i64 (.ofNat (nat_lit 21)))]⟩ ⟨[]⟩),(.int .i64 (.ofNat (nat_lit 1)))]⟩ ⟨[]⟩),false)]⟩
def frun5 : Chg := ⟨.func (.func (nat_lit 32)) ⟨[]⟩ ⟨[]⟩, [jobV], S1 .e (nat_lit 0), (.int .i64 (.ofNat (nat_lit 3))), (nat_lit 0), [], []⟩
theorem frun5_gen [Rho] (hS : @SymOK _ fasm5) (hK : KbOK Try.prog fineKb) : CFact Try.prog frun5 := @cfact _ fasm5 hS Try.prog fmixed tab (@tab_ok _ fasm5 hS) fineKb hK frun5 10000 (by kernel_rfl) (by kernel_rfl)
theorem fsym5 {J : Jb} {sl : Value} {w : World} (h : (passI J.wi J.sh J.p1 J.p2 == 1) = false ∧ (passI J.wi J.sh J.p1 J.p2 == 2) = false ∧ (spoilI J.le J.tg == 1) = false) : @SymOK (fineRho J sl w) fasm5 := @SymOK.mk (fineRho J sl w) fasm5 fun c hc b hb => by
  obtain ⟨h1, h3, h4⟩ := h
  replace hc : c = ((.func (.yield (nat_lit 20)) ⟨[(.func (.yield (nat_lit 0)) ⟨[(.int .i64 (.ofNat (nat_lit 20)))]⟩ ⟨[]⟩),(.int .i64 (.ofNat (nat_lit 1)))]⟩ ⟨[]⟩),false) ∨ c = ((.func (.yield (nat_lit 20)) ⟨[(.func (.yield (nat_lit 0)) ⟨[(.int .i64 (.ofNat (nat_lit 20)))]⟩ ⟨[]⟩),(.int .i64 (.ofNat (nat_lit 2)))]⟩ ⟨[]⟩),false) ∨ c = ((.func (.yield (nat_lit 20)) ⟨[(.func (.yield (nat_lit 0)) ⟨[(.int .i64 (.ofNat (nat_lit 21)))]⟩ ⟨[]⟩),(.int .i64 (.ofNat (nat_lit 1)))]⟩ ⟨[]⟩),false) := by have hc : c ∈ [((.func (.yield (nat_lit 20)) ⟨[(.func (.yield (nat_lit 0)) ⟨[(.int .i64 (.ofNat (nat_lit 20)))]⟩ ⟨[]⟩),(.int .i64 (.ofNat (nat_lit 1)))]⟩ ⟨[]⟩),false), ((.func (.yield (nat_lit 20)) ⟨[(.func (.yield (nat_lit 0)) ⟨[(.int .i64 (.ofNat (nat_lit 20)))]⟩ ⟨[]⟩),(.int .i64 (.ofNat (nat_lit 2)))]⟩ ⟨[]⟩),false), ((.func (.yield (nat_lit 20)) ⟨[(.func (.yield (nat_lit 0)) ⟨[(.int .i64 (.ofNat (nat_lit 21)))]⟩ ⟨[]⟩),(.int .i64 (.ofNat (nat_lit 1)))]⟩ ⟨[]⟩),false)] := hc; simpa only [List.mem_cons, List.not_mem_nil, or_false] using hc
  letI := fineRho J sl w
  rcases hc with rfl | rfl | rfl
  · have e := eqN (k := .i64) hb (.sym _ _) (.lit _ _); rw [e]; exact h1
  · have e := eqN (k := .i64) hb (.sym _ _) (.lit _ _); rw [e]; exact h3
  · have e := eqN (k := .i64) hb (.sym _ _) (.lit _ _); rw [e]; exact h4
theorem fcase5 {J : Jb} {a : Option Addr} {n c : Nat} {w : World} (hJ : J.In 1000) (hn : n = J.sh.length) (h : Go.Proofs.Ytggokdmlijipjaa.Rg w w.heap.size a J.sh) (hq : (passI J.wi J.sh J.p1 J.p2 == 1) = false ∧ (passI J.wi J.sh J.p1 J.p2 == 2) = false ∧ (spoilI J.le J.tg == 1) = false) : Calls Try.prog 32 #[.agg (jobC J (.slice a n c))] w fun e w' => e = .returned (.int .i64 3) ∧ Below w.heap.size w w' := by
  letI := fineRho J (.slice a n c) w
  letI := fasm5
  haveI hS : SymOK := fsym5 hq
  have hK : KbOK Try.prog fineKb := fineKb_gen (gPass_ok hS hJ hn h) (gSpoil_ok hS)
  have hg : Try.prog.globals.size = 0 := by kernel_rfl
  refine (open_any (frun5_gen hS hK) (.cons jobV_vr .nil) rfl hg (by kernel_rfl) w (Nat.zero_le _) (fun b o hb => by rw [Tr.get_e] at hb; cases hb) ⟨Nat.le_refl _, fun _ _ _ => rfl⟩).mono ?_
  rintro e w' ⟨v', ι', rfl, hv, hk⟩
  have e1 := Den.is (.lit _ _) hv
  subst e1
  exact ⟨rfl, hk.os, hk.tape, hk.output, hk.size, hk.heap⟩
theorem fine_any' {J : Jb} {a : Option Addr} {n c : Nat} {w : World} (hJ : J.In 1000) (hn : n = J.sh.length) (h : Go.Proofs.Ytggokdmlijipjaa.Rg w w.heap.size a J.sh) : Calls Try.prog 32 #[.agg (jobC J (.slice a n c))] w fun e w' => e = .returned (.int .i64 (fineI J J.tg)) ∧ Below w.heap.size w w' := by
  have hf : fineI J J.tg = if passI J.wi J.sh J.p1 J.p2 = 1 ∧ spoilI J.le J.tg = 2 then 1 else if passI J.wi J.sh J.p1 J.p2 = 2 ∨ spoilI J.le J.tg = 1 then 2 else 3 := rfl
  rw [hf]
  have c0 := @fcase0 J a n c w hJ hn h
  have c1 := @fcase1 J a n c w hJ hn h
  have c2 := @fcase2 J a n c w hJ hn h
  have c3 := @fcase3 J a n c w hJ hn h
  have c4 := @fcase4 J a n c w hJ hn h
  have c5 := @fcase5 J a n c w hJ hn h
  generalize passI J.wi J.sh J.p1 J.p2 = p at *
  generalize spoilI J.le J.tg = q at *
  simp only [beq_iff_eq, beq_eq_false_iff_ne] at *
  by_cases h1 : p = 1
  · by_cases h2 : q = 2
    · rw [if_pos ⟨h1, h2⟩]; exact c0 ⟨h1, h2⟩
    · rw [if_neg (fun x => h2 x.2)]
      by_cases h4 : q = 1
      · rw [if_pos (.inr h4)]; exact c1 ⟨h1, h2, by omega, h4⟩
      · rw [if_neg (by omega)]; exact c2 ⟨h1, h2, by omega, h4⟩
  · rw [if_neg (fun x => h1 x.1)]
    by_cases h3 : p = 2
    · rw [if_pos (.inl h3)]; exact c3 ⟨h1, h3⟩
    · by_cases h4 : q = 1
      · rw [if_pos (.inr h4)]; exact c4 ⟨h1, h3, h4⟩
      · rw [if_neg (by omega)]; exact c5 ⟨h1, h3, h4⟩
end
end Go.Sim
/- Contracts of what a pot hands out: which numbers, and what is changed. -/
namespace Go.Proofs.Ytggokdmlijipjaa
set_option linter.all false
open Go.RowKit

/-- Block b is a pot. -/
def Pt (w : World) (b : Nat) : Prop := ∃ t s, Bk w b t #[.int .u64 s]
/-- Of what lay under B, the pot alone may have been changed. -/
structure PB (b B : Nat) (w w' : World) : Prop where
  os : w'.os = w.os
  tape : w'.tape = w.tape
  output : w'.output = w.output
  size : w.heap.size ≤ w'.heap.size
  heap : ∀ k, k < B → k ≠ b → w'.heap[k]? = w.heap[k]?
section
variable {b B B' : Nat} {w w' w'' : World} {t : TypeId} {s : Int} {p : Addr}
theorem Pt.lt (h : Pt w b) : b < w.heap.size := by obtain ⟨t, s, h⟩ := h; exact h.lt
theorem Pt.alloc (h : Pt w b) (o : Obj) : Pt (w.alloc o) b := by obtain ⟨t, s, h⟩ := h; exact ⟨t, s, h.alloc o⟩
theorem Pt.drew (h : Pt w b) : Pt w.drew b := h
theorem Pt.other (h : Pt w b) (hp : b ≠ p.block) (u : Value) : Pt (w.setCell p u) b := by obtain ⟨t, s, h⟩ := h; exact ⟨t, s, h.other hp u⟩
theorem Pt.below (h : Pt w b) (hb : Below B w w') (hg : b < B) : Pt w' b := by obtain ⟨t, s, h⟩ := h; exact ⟨t, s, h.below hb hg⟩
theorem Pt.grown {row : Option Nat} (h : Pt w b) (hb : w.grownBy w' row) (hg : some b ≠ row) : Pt w' b := by obtain ⟨t, s, h⟩ := h; exact ⟨t, s, h.grown hb hg⟩
theorem Pt.rowOther (h : Pt w b) {g : Nat} (hk : b ≠ g) (ds : Array Value) : Pt (w.setRow g ds) b := by obtain ⟨t, s, h⟩ := h; exact ⟨t, s, h.rowOther hk ds⟩
theorem PB.refl (b B : Nat) (w : World) : PB b B w w := ⟨rfl, rfl, rfl, Nat.le_refl _, fun _ _ _ => rfl⟩
theorem PB.trans (h : PB b B w w') (h' : PB b B' w' w'') (hB : B ≤ B') : PB b B w w'' := ⟨h'.os.trans h.os, h'.tape.trans h.tape, h'.output.trans h.output, Nat.le_trans h.size h'.size, fun k hk hb => (h'.heap k (Nat.lt_of_lt_of_le hk hB) hb).trans (h.heap k hk hb)⟩
theorem PB.below (h : PB b B w w') (h' : Below B' w' w'') (hB : B ≤ B') : PB b B w w'' := ⟨h'.os.trans h.os, h'.tape.trans h.tape, h'.output.trans h.output, Nat.le_trans h.size h'.size, fun k hk hb => (h'.block k (Nat.lt_of_lt_of_le hk hB)).trans (h.heap k hk hb)⟩
theorem PB.of (h : Below B w w') : PB b B w w' := ⟨h.os, h.tape, h.output, h.size, fun k hk _ => h.block k hk⟩
theorem PB.toBelow (h : PB b B w w') (hB : B ≤ b) : Below B w w' := ⟨h.os, h.tape, h.output, h.size, fun k hk => h.heap k hk (by omega)⟩
theorem PB.mono (h : PB b B w w') (hB : B' ≤ B) : PB b B' w w' := ⟨h.os, h.tape, h.output, h.size, fun k hk => h.heap k (by omega)⟩
theorem PB.alloc (h : PB b B w w') (hB : B ≤ w'.heap.size) (o : Obj) : PB b B w (w'.alloc o) := h.below ((Below.refl _ _).alloc hB o) (Nat.le_refl _)
theorem PB.setCell (h : PB b B w w') (hp : B ≤ p.block) (u : Value) : PB b B w (w'.setCell p u) := h.below ((Below.refl _ _).setCell hp u) (Nat.le_refl _)
/-- Blocks, ranges and numbers that are no pot are as they were. -/
theorem Bk.pb {g : Nat} {cs : Array Value} (h : Bk w g t cs) (hk : PB b B w w') (hg : g < B) (hb : g ≠ b) : Bk w' g t cs := (hk.heap g hg hb).trans h
theorem Pt.cell {i : Nat} {v : Value} (h : Pt w b) (hc : w.cell? ⟨b, i, none⟩ = some v) : ∃ s, v = .int .u64 s := by
  obtain ⟨t, s, h⟩ := h
  rw [cell_of_row w b i _ t (0, 0) h] at hc
  cases i with
  | zero => exact ⟨s, by simpa using hc.symm⟩
  | succ i => simp at hc
theorem PB.cell (h : PB b B w w') (hp : p.block < B) (hb : p.block ≠ b) : w'.cell? p = w.cell? p := World.cell?_of_block (h.heap _ hp hb)
theorem Rg.pb {a : Option Addr} {l : List R2} (h : Rg w w.heap.size a l) (hp : Pt w b) (hk : PB b w.heap.size w w') : Rg w' w'.heap.size a l := fun k r hr => by
  obtain ⟨g, off, e, hg, h1, h2⟩ := h k r hr
  have hne : g ≠ b := by
    rintro rfl
    obtain ⟨s, e⟩ := hp.cell h1
    cases e
  have := hk.size
  exact ⟨g, off, e, by omega, (hk.cell hg hne).trans h1, (hk.cell hg hne).trans h2⟩
theorem Is.pb {a : Option Addr} {l : List Int} (h : Is w w.heap.size a l) (hp : Pt w b) (hk : PB b w.heap.size w w') : Is w' w'.heap.size a l := fun k r hr => by
  obtain ⟨g, off, e, hg, h1⟩ := h k r hr
  have hne : g ≠ b := by
    rintro rfl
    obtain ⟨s, e⟩ := hp.cell h1
    cases e
  have := hk.size
  exact ⟨g, off, e, by omega, (hk.cell hg hne).trans h1⟩
theorem Put.pb {s' : Int} (hb : Bk w b t #[.int .u64 s]) (h : Put w w' b s s') : PB b w.heap.size w w' ∧ Pt w' b := by
  rcases h with rfl | ⟨rfl, _⟩
  · exact ⟨⟨rfl, rfl, rfl, by simp, fun k hk hkb => Below.heap_setCell w _ _ k hkb⟩, t, s', hb.put1 _⟩
  · exact ⟨PB.refl _ _ _, t, s, hb⟩
end

/-- What is said of a call that takes numbers out of a pot. -/
def PotEnd (b : Nat) (w : World) (P : Int → Prop) (e : Ending) (w' : World) : Prop := ∃ x, e = .returned (.int .i64 x) ∧ P x ∧ PB b w.heap.size w w' ∧ Pt w' b
theorem uptoP (b : Nat) (m : Int) (w : World) (hp : Pt w b) (hm : 0 ≤ m ∧ m ≤ 1000) : Calls Try.prog 23 #[.pointer (some ⟨b, 0, none⟩), .int .i64 m] w (PotEnd b w fun x => 0 ≤ x ∧ x ≤ m) := by
  obtain ⟨t, s, hb⟩ := hp
  refine (upto_any b s m w hm.2 (hb.at_ 0 _ rfl) (hb.free 0)).mono ?_
  rintro e w' ⟨rfl, hput⟩
  have h1 := uptoF_in s m hm.2
  have h2 := hput.pb hb
  exact ⟨_, rfl, by omega, h2.1, h2.2⟩
set_option maxHeartbeats 400000 in
theorem withinP (b : Nat) (lo hi : Int) (w : World) (hp : Pt w b) (h : -400 ≤ lo ∧ lo ≤ hi ∧ hi ≤ 400) : Calls Try.prog 11 #[.pointer (some ⟨b, 0, none⟩), .int .i64 lo, .int .i64 hi] w (PotEnd b w fun x => lo ≤ x ∧ x ≤ hi) := by
  obtain ⟨h1, h2, h3⟩ := h
  go_enter Try.func11, Try.ntmps11
  go_wp2_with (go_at_call 23; refine (uptoP _ _ _ hp (by omega)).mono ?_; rintro e w1 ⟨x, rfl, hx, hk, hp1⟩; obtain ⟨hx1, hx2⟩ := hx)
  go_ret
  exact ⟨_, rfl, by omega, hk, hp1⟩
def pick2 (x y u : Int) : Int := if u = 0 then x else y
set_option maxHeartbeats 400000 in
theorem of2_any (b q o : Nat) (s x y : Int) (w : World) (h : w.cell? ⟨b, 0, none⟩ = some (.int .u64 s)) (hf : w.frozen? ⟨b, 0, none⟩ = false) (hbq : b ≠ q)
    (h0 : w.cell? ⟨q, o, none⟩ = some (.int .i64 x)) (h1 : w.cell? ⟨q, o + 1, none⟩ = some (.int .i64 y)) :
    Calls Try.prog 22 #[.pointer (some ⟨b, 0, none⟩), .slice (some ⟨q, o, none⟩) 2 2] w fun e w' => e = .returned (.int .i64 (pick2 x y (uptoF s 1))) ∧ Put w w' b s (uptoS s 1) := by
  have hu := uptoF_in s 1 (by omega)
  have hcase : uptoF s 1 = 0 ∨ uptoF s 1 = 1 := by omega
  rcases hcase with e0 | e0
  · have he : pick2 x y (uptoF s 1) = x := by rw [e0]; rfl
    clear hu
    go_enter Try.func22, Try.ntmps22
    go_wp2_with (go_at_call 23; refine (upto_any _ _ _ _ (by decide) h hf).mono ?_; rintro e w1 ⟨rfl, hp⟩; have g0 := hp.cell hbq h0; have g1 := hp.cell hbq h1)
    go_ret
    exact ⟨by rw [he]; rfl, hp⟩
  · have he : pick2 x y (uptoF s 1) = y := by rw [e0]; rfl
    clear hu
    go_enter Try.func22, Try.ntmps22
    go_wp2_with (go_at_call 23; refine (upto_any _ _ _ _ (by decide) h hf).mono ?_; rintro e w1 ⟨rfl, hp⟩; have g0 := hp.cell hbq h0; have g1 := hp.cell hbq h1)
    go_ret
    exact ⟨by rw [he]; rfl, hp⟩
theorem of2P (b q : Nat) (x y : Int) (t : TypeId) (w : World) (hp : Pt w b) (hbq : b ≠ q) (hq : Bk w q t #[.int .i64 x, .int .i64 y]) : Calls Try.prog 22 #[.pointer (some ⟨b, 0, none⟩), .slice (some ⟨q, 0, none⟩) 2 2] w (PotEnd b w fun v => v = x ∨ v = y) := by
  obtain ⟨tb, s, hb⟩ := hp
  refine (of2_any b q 0 s x y w (hb.at_ 0 _ rfl) (hb.free 0) hbq (hq.at_ 0 _ rfl) (hq.at_ 1 _ rfl)).mono ?_
  rintro e w' ⟨rfl, hput⟩
  have h2 := hput.pb hb
  refine ⟨_, rfl, ?_, h2.1, h2.2⟩
  unfold pick2
  split
  · exact .inl rfl
  · exact .inr rfl
theorem of3P (b q : Nat) (x y z : Int) (t : TypeId) (w : World) (hp : Pt w b) (hbq : b ≠ q) (hq : Bk w q t #[.int .i64 x, .int .i64 y, .int .i64 z]) : Calls Try.prog 22 #[.pointer (some ⟨b, 0, none⟩), .slice (some ⟨q, 0, none⟩) 3 3] w (PotEnd b w fun v => v = x ∨ v = y ∨ v = z) := by
  obtain ⟨tb, s, hb⟩ := hp
  refine (of3_any b q 0 s x y z w (hb.at_ 0 _ rfl) (hb.free 0) hbq (hq.at_ 0 _ rfl) (hq.at_ 1 _ rfl) (hq.at_ 2 _ rfl)).mono ?_
  rintro e w' ⟨rfl, hput⟩
  have h2 := hput.pb hb
  refine ⟨_, rfl, ?_, h2.1, h2.2⟩
  unfold pick3
  split
  · exact .inl rfl
  · split
    · exact .inr (.inl rfl)
    · exact .inr (.inr rfl)
set_option maxHeartbeats 400000 in
theorem innerP (b : Nat) (lo hi : Int) (w : World) (hp : Pt w b) (h : -400 ≤ lo ∧ lo ≤ hi ∧ hi ≤ 400) : Calls Try.prog 25 #[.pointer (some ⟨b, 0, none⟩), .agg #[.int .i64 lo, .int .i64 hi]] w (PotEnd b w fun x => lo ≤ x ∧ x ≤ hi) := by
  have hlt := hp.lt
  have b0 : Bk (w.alloc (.cells #[.int .i64 lo, .int .i64 hi] 26)) w.heap.size 26 #[.int .i64 lo, .int .i64 hi] := Bk.new w _ _
  have p0 := hp.alloc (.cells #[.int .i64 lo, .int .i64 hi] 26)
  have k0 : PB b w.heap.size w (w.alloc (.cells #[.int .i64 lo, .int .i64 hi] 26)) := (PB.refl _ _ _).alloc (Nat.le_refl _) _
  go_enter Try.func25, Try.ntmps25
  have hne : w.heap.size ≠ b := by omega
  have hne' : b ≠ w.heap.size := by omega
  go_wp2_with fail
  go_region_held3 (fun w' => w'.cell? ⟨w.heap.size, 0, none⟩ = some (.int .i64 lo) ∧ w'.cell? ⟨w.heap.size, 1, none⟩ = some (.int .i64 hi)) (first | exact ⟨b2.at_ 0 _ rfl, b2.at_ 1 _ rfl⟩ | exact ⟨b0.at_ 0 _ rfl, b0.at_ 1 _ rfl⟩ | exact ⟨b1.at_ 0 _ rfl, b1.at_ 1 _ rfl⟩ | go_keep)
    (first
    | (go_at_call 11; refine (withinP _ _ _ _ (by first | exact p0 | exact p0.drew) h).mono ?_; rintro e w1 ⟨x, rfl, hx, hk1, hp1⟩; have hz1 := hk1.size; have b1 := (by first | exact b0.pb hk1 (by simp) hne | exact b0.drew.pb hk1 (by simp) hne : Bk w1 w.heap.size 26 #[.int .i64 lo, .int .i64 hi]); have k1 := (by first | exact k0.trans hk1 (by simp) | exact PB.trans (PB.below k0 (Below.refl _ _).drew (Nat.le_refl _)) hk1 (by simp) : PB b w.heap.size w w1); simp at hz1)
    | (go_at_call 22; refine (of3P b w1.heap.size lo hi x _ _ (by first | exact hp1.alloc _ | exact (hp1.alloc _).drew) (by have := hp1.lt; omega) (by first | exact Bk.new _ _ _ | exact (Bk.new _ _ _).drew)).mono ?_; rintro e w2 ⟨y, rfl, hy, hk2, hp2⟩; have hl1 := b1.lt; have b2 := (by first | exact (b1.alloc _).pb hk2 (by simp; omega) hne | exact (b1.alloc _).drew.pb hk2 (by simp; omega) hne : Bk w2 w.heap.size 26 #[.int .i64 lo, .int .i64 hi])))
  go_wp2
  go_ret
  refine ⟨y, rfl, by omega, ?_, hp2⟩
  exact (k1.alloc (by omega) _).trans hk2 (by simp; omega)
end Go.Proofs.Ytggokdmlijipjaa
/- The contract of work.after (package reed). -/
namespace Go.Proofs.Ytggokdmlijipjaa
set_option linter.all false
open Go.RowKit

theorem afterS_snoc (J : Jb) (t : Tg) (l : List Int) (x : Int) : afterS J t (l ++ [x]) = strk J (afterS J t l) x := by simp [afterS]
theorem afterS_in (J : Jb) (hJ : J.In 1000) : ∀ (l : List Int) (t : Tg) (n : Int), t.In n → (afterS J t l).In (n + 12 * l.length)
  | [], t, n, h => by simpa [afterS] using h
  | x :: l, t, n, h => by
    have h1 := afterS_in J hJ l (strk J t x) (n + 12) (strk_in J t x n h hJ)
    have e : afterS J t (x :: l) = afterS J (strk J t x) l := rfl
    rw [e]
    refine h1.mono ?_
    simp only [List.length_cons]
    omega

set_option maxHeartbeats 1000000 in
set_option maxRecDepth 100000 in
theorem after_any (J : Jb) (sa : Option Addr) (sn sc : Nat) (a : Option Addr) (n c : Nat) (l : List Int) (w : World) (h : J.In 200) (hn : n = l.length) (hm : n ≤ 6) (hl : ∀ x ∈ l, x = 1 ∨ x = 2) (hr : Is w w.heap.size a l) :
    Calls Try.prog 51 #[.agg (jobC J (.slice sa sn sc)), .slice a n c] w (AfterEnd J l (.slice sa sn sc) w) := by
  have Hn : Hid (n = l.length) := hn
  clear hn
  have Hh : Hid (Is w w.heap.size a l) := hr
  clear hr
  have HJ : Hid (J.In 200) := h
  clear h
  have Hl : Hid (∀ x ∈ l, x = 1 ∨ x = 2) := hl
  clear hl
  go_enter Try.func51, Try.ntmps51
  go_wp2_with fail
  go_loopw [9] (fun i wr => ∃ (k : Nat) (K : Jb), k ≤ n ∧ i = .int .i64 k ∧ K = J.setTg (afterS J J.tg (l.take k)) ∧ Bk wr w.heap.size 68 (jobC K (.slice sa sn sc)) ∧ Bk wr (w.heap.size + 1) 68 #[.int .i64 0, .int .i64 0, .int .i64 0, .int .i64 0, .int .i64 0, .int .i64 0, .int .i64 0, .int .i64 0, .int .i64 0, .int .i64 0, .int .i64 0, .int .i64 0, .int .i64 0, .int .i64 0, .int .i64 0, .slice none 0 0, .int .i64 0, .int .i64 0] ∧ Below w.heap.size w wr) (fun i _ => n - (intOf i).toNat)
  case atStart =>
    refine ⟨0, J, Nat.zero_le _, rfl, rfl, (Bk.new w _ _).alloc _, ?_, ((Below.refl _ _).alloc (Nat.le_refl _) _).alloc (by simp) _⟩
    have h1 := Bk.new (w.alloc (.cells (jobC J (.slice sa sn sc)) 68)) 68 #[.int .i64 0, .int .i64 0, .int .i64 0, .int .i64 0, .int .i64 0, .int .i64 0, .int .i64 0, .int .i64 0, .int .i64 0, .int .i64 0, .int .i64 0, .int .i64 0, .int .i64 0, .int .i64 0, .int .i64 0, .slice none 0 0, .int .i64 0, .int .i64 0]
    rw [World.size_alloc] at h1
    exact h1
  case round =>
    obtain ⟨k, K, hk, rfl, hK, hj, ho, hB⟩ := hrel
    have HK : Hid (K = J.setTg (afterS J J.tg (l.take k))) := hK
    clear hK
    have hz := hB.size
    have hl1 := hj.lt
    have hl2 := ho.lt
    by_cases hlt : k < n
    · have hkl : k < l.length := by rw [← Hn.out]; exact hlt
      obtain ⟨b, off, rfl, hbl, e0⟩ := Hh.out k l[k] (List.getElem?_eq_getElem hkl)
      replace e0 := (hB.cell (p := ⟨b, off + k, none⟩) hbl).trans e0
      have hbl' : b < wr.heap.size := by omega
      have HKin : Hid (K.In 1000) := by
        show K.In 1000
        have h1 := afterS_in J (HJ.out.mono (by decide)) (l.take k) J.tg 200 HJ.out.tg
        rw [HK.out]
        refine HJ.out.setTg (h1.mono ?_)
        have := List.length_take_le k l
        omega
      go_wp2_with (refine wpList_load_row rfl 68 _ rfl w.heap.size rfl _ (jobC K (.slice sa sn sc)) _ _ hj Try.underlying68 rfl szWork ?_)
      refine (stroked_any K (.slice sa sn sc) _ (Hl.out _ (List.getElem_mem hkl)) _ HKin.out).mono ?_
      rintro e w1 ⟨rfl, hb⟩
      have hz1 := hb.size
      have hj1 := hj.below hb hl1
      have ho1 := ho.below hb hl2
      clear e0
      have d0 := hj1.at_ 0 _ rfl
      have d1 := hj1.at_ 1 _ rfl
      have d2 := hj1.at_ 2 _ rfl
      have d3 := hj1.at_ 3 _ rfl
      have d4 := hj1.at_ 4 _ rfl
      have d5 := hj1.at_ 5 _ rfl
      have f0 := hj1.free 0
      have f1 := hj1.free 1
      have f2 := hj1.free 2
      have f3 := hj1.free 3
      have f4 := hj1.free 4
      have f5 := hj1.free 5
      go_wp2
      go_roundw
      case rel =>
        refine ⟨k + 1, K.setTg (strk K K.tg l[k]), by omega, by go_num, ?_, ((((((hj1.put 0 _).put 1 _).put 2 _).put 3 _).put 4 _).put 5 _), ?_, ?_⟩
        · rw [take_snoc l k hkl, afterS_snoc, HK.out]; rfl
        · iterate 6 (refine Bk.other ?_ (by simp) _)
          exact ho1
        · iterate 6 (refine Below.setCell ?_ (by simp) _)
          exact hB.trans (hb.mono hz)
      case measure => simp [intOf]; omega
    · obtain rfl : k = n := by omega
      go_wp2_with (first | (refine wpList_load_row rfl 68 _ rfl w.heap.size rfl _ (jobC K (.slice sa sn sc)) _ _ hj Try.underlying68 rfl szWork ?_) | (refine wpList_store_row rfl 68 _ _ rfl (w.heap.size + 1) (jobC K (.slice sa sn sc)) rfl rfl _ _ ho szWork rfl (oneJob _ _ _ _) ?_))
      have e : l.take k = l := by rw [Hn.out]; exact List.take_length
      refine bodyPost_ret (v := .agg (jobC K (.slice sa sn sc))) (results_cell_row Try.results51 _ _ _ _ _ _ _ rfl (ho.row _) Try.underlying68 rfl szWork) rfl ⟨by rw [HK.out, e], ?_⟩
      exact below_setRow hB (by simp) _
end Go.Proofs.Ytggokdmlijipjaa
/- Contracts of reed.checkStrokes, reed.filed and reed.After. -/
namespace Go.Proofs.Ytggokdmlijipjaa
set_option linter.all false
open Go.RowKit

def kindE : List Int → Int
  | [] => 0
  | x :: l => if x = 1 ∨ x = 2 then kindE l else 8
def strokesE (l : List Int) : Int := if 6 < l.length then 6 else kindE l
theorem kindE_ok : ∀ (l : List Int), kindE l = 0 → ∀ x ∈ l, x = 1 ∨ x = 2
  | [], _, x, h => by simp at h
  | y :: l, h, x, hx => by
    unfold kindE at h
    by_cases h0 : y = 1 ∨ y = 2
    · rw [if_pos h0] at h
      rcases List.mem_cons.1 hx with rfl | hx
      · exact h0
      · exact kindE_ok l h x hx
    · rw [if_neg h0] at h; omega

set_option maxHeartbeats 1000000 in
theorem checkStrokes_any (a : Option Addr) (n c : Nat) (l : List Int) (w : World) (hn : n = l.length) (hm : n ≤ 9223372036854775807) (h : Is w w.heap.size a l) :
    Calls Try.prog 50 #[.slice a n c] w fun e w' => e = .returned (.int .i64 (strokesE l)) ∧ w = w' := by
  have Hn : Hid (n = l.length) := hn
  have Hh : Hid (Is w w.heap.size a l) := h
  clear hn h
  by_cases h6 : 6 < n
  · have He : Hid (strokesE l = 6) := by show strokesE l = 6; unfold strokesE; rw [if_pos (by rw [← Hn.out]; exact h6)]
    go_enter Try.func50, Try.ntmps50
    go_wp2
    go_ret
    exact ⟨ret_i (by rw [He.out]), rfl⟩
  · have He : Hid (strokesE l = kindE l) := by show strokesE l = kindE l; unfold strokesE; rw [if_neg (by rw [← Hn.out]; exact h6)]
    go_enter Try.func50, Try.ntmps50
    go_wp2
    go_loop [10] (fun i => ∃ k : Nat, k ≤ n ∧ i = .int .i64 k ∧ Hid (kindE l = kindE (l.drop k))) (fun i => n - (intOf i).toNat)
    case atStart => exact ⟨0, Nat.zero_le _, rfl, hidMk rfl⟩
    case round =>
      obtain ⟨k, hk, rfl, Hf⟩ := hrel
      by_cases hlt : k < n
      · have hkl : k < l.length := by rw [← Hn.out]; exact hlt
        obtain ⟨b, off, rfl, hbl, e0⟩ := Hh.out k l[k] (List.getElem?_eq_getElem hkl)
        obtain ⟨x, Hx⟩ : ∃ x, Hid (x = l[k]) := ⟨_, hidMk rfl⟩
        rw [← Hx.out] at e0
        have Hd : Hid (l.drop k = x :: l.drop (k + 1)) := by show _ = _; rw [Hx.out]; exact List.drop_eq_getElem_cons hkl
        by_cases h1 : x = 1
        · have h1b : (x == 1) = true := by simp [h1]
          have Hi : Hid (x = 1 ∨ x = 2) := .inl h1
          clear h1
          go_wp2
          go_round
          case rel => exact ⟨k + 1, by omega, by go_num, hidMk (by rw [Hf.out, Hd.out, kindE, if_pos Hi.out])⟩
          case measure => simp [intOf]; omega
        · have h1b : (x == 1) = false := by simp [h1]
          by_cases h2 : x = 2
          · have h2b : (x == 2) = true := by simp [h2]
            have Hi : Hid (x = 1 ∨ x = 2) := .inr h2
            clear h1 h2
            go_wp2
            go_round
            case rel => exact ⟨k + 1, by omega, by go_num, hidMk (by rw [Hf.out, Hd.out, kindE, if_pos Hi.out])⟩
            case measure => simp [intOf]; omega
          · have h2b : (x == 2) = false := by simp [h2]
            have Hi : Hid (¬ (x = 1 ∨ x = 2)) := by show ¬ _; omega
            clear h1 h2
            go_wp2
            go_ret
            exact ⟨ret_i (by rw [He.out, Hf.out, Hd.out, kindE, if_neg Hi.out]), rfl⟩
      · obtain rfl : k = n := by omega
        go_wp2
        go_ret
        exact ⟨ret_i (by rw [He.out, Hf.out, List.drop_of_length_le (by rw [← Hn.out]; omega)]; rfl), rfl⟩

/-- The error of a job and strokes. -/
def filedE (J : Jb) (l : List Int) : Int := if J.check = 0 then strokesE l else J.check
def zeroJ : Jb := ⟨0, 0, 0, 0, 0, 0, 0, 0, 0, 0, 0, 0, 0, 0, 0, 0, 0, []⟩
/-- What 'filed' hands back: the work after the strokes, or none. -/
def FiledEnd (J : Jb) (l : List Int) (a : Option Addr) (n c : Nat) (w : World) (e : Ending) (w' : World) : Prop :=
  (if filedE J l = 0 then e = .returned (.tuple #[.agg (jobC (J.setTg (afterS J J.tg l)) (.slice a n c)), .int .i64 0])
    else e = .returned (.tuple #[.agg (jobC zeroJ (.slice none 0 0)), .int .i64 (filedE J l)])) ∧ Below w.heap.size w w'

theorem filed_first (J : Jb) (l : List Int) : firstE [J.check, strokesE l] = filedE J l := by
  unfold filedE firstE firstE firstE
  by_cases h : J.check = 0
  · rw [if_pos h, if_pos h]
    by_cases h2 : strokesE l = 0
    · rw [if_pos h2, h2]
    · rw [if_neg h2]
  · rw [if_neg h, if_neg h]

set_option maxHeartbeats 1000000 in
set_option maxRecDepth 100000 in
theorem filed_any (J : Jb) (a : Option Addr) (n c : Nat) (b : Option Addr) (m d : Nat) (l : List Int) (w : World) (hn : n = J.sh.length) (hm : n ≤ 9223372036854775807) (h : Rg w w.heap.size a J.sh)
    (hmn : m = l.length) (hmm : m ≤ 9223372036854775807) (hl : Is w w.heap.size b l) :
    Calls Try.prog 29 #[.agg (jobC J (.slice a n c)), .slice b m d] w (FiledEnd J l a n c w) := by
  have Hn : Hid (n = J.sh.length) := hn
  have Hh : Hid (Rg w w.heap.size a J.sh) := h
  have Hm : Hid (m = l.length) := hmn
  have Hl : Hid (Is w w.heap.size b l) := hl
  clear hn h hmn hl
  have b0 : Bk ((w.alloc (.cells (jobC J (.slice a n c)) 33)).alloc (.cells #[.int .i64 0, .int .i64 0, .int .i64 0, .int .i64 0, .int .i64 0, .int .i64 0, .int .i64 0, .int .i64 0, .int .i64 0, .int .i64 0, .int .i64 0, .int .i64 0, .int .i64 0, .int .i64 0, .int .i64 0, .slice none 0 0, .int .i64 0, .int .i64 0] 68)) w.heap.size 33 (jobC J (.slice a n c)) := (Bk.new w _ _).alloc _
  have b1 : Bk ((w.alloc (.cells (jobC J (.slice a n c)) 33)).alloc (.cells #[.int .i64 0, .int .i64 0, .int .i64 0, .int .i64 0, .int .i64 0, .int .i64 0, .int .i64 0, .int .i64 0, .int .i64 0, .int .i64 0, .int .i64 0, .int .i64 0, .int .i64 0, .int .i64 0, .int .i64 0, .slice none 0 0, .int .i64 0, .int .i64 0] 68)) (w.heap.size + 1) 68 #[.int .i64 0, .int .i64 0, .int .i64 0, .int .i64 0, .int .i64 0, .int .i64 0, .int .i64 0, .int .i64 0, .int .i64 0, .int .i64 0, .int .i64 0, .int .i64 0, .int .i64 0, .int .i64 0, .int .i64 0, .slice none 0 0, .int .i64 0, .int .i64 0] := Bk.newAt _ _ _ _ (by simp)
  have hW : Below w.heap.size w ((w.alloc (.cells (jobC J (.slice a n c)) 33)).alloc (.cells #[.int .i64 0, .int .i64 0, .int .i64 0, .int .i64 0, .int .i64 0, .int .i64 0, .int .i64 0, .int .i64 0, .int .i64 0, .int .i64 0, .int .i64 0, .int .i64 0, .int .i64 0, .int .i64 0, .int .i64 0, .slice none 0 0, .int .i64 0, .int .i64 0] 68)) := ((Below.refl _ _).alloc (Nat.le_refl _) _).alloc (by simp) _
  by_cases hc : filedE J l = 0
  · have hcb : (firstE [J.check, strokesE l] != 0) = false := by rw [filed_first]; simp [hc]
    have Hc := hidMk hc
    have hc0 : J.check = 0 := by
      by_cases h0 : J.check = 0
      · exact h0
      · unfold filedE at hc; rw [if_neg h0] at hc; exact absurd hc h0
    have hs0 : strokesE l = 0 := by unfold filedE at hc; rw [if_pos hc0] at hc; exact hc
    have HJ := hidMk ((check_ok hc0).inn.mono (by decide : (100 : Int) ≤ 200))
    have Hs := hidMk hs0
    have h6 : m ≤ 6 := by
      unfold strokesE at hs0
      rw [Hm.out]
      by_cases h6 : 6 < l.length
      · rw [if_pos h6] at hs0; omega
      · omega
    have Hk : Hid (∀ x ∈ l, x = 1 ∨ x = 2) := by
      show ∀ x ∈ l, x = 1 ∨ x = 2
      unfold strokesE at hs0
      by_cases h6 : 6 < l.length
      · rw [if_pos h6] at hs0; omega
      · rw [if_neg h6] at hs0; exact kindE_ok l hs0
    clear hc hc0 hs0
    go_enter Try.func29, Try.ntmps29
    go_wp2_with (refine wpList_load_row rfl 33 _ rfl w.heap.size rfl _ (jobC J (.slice a n c)) _ _ b0 Try.underlying33 rfl szJob ?_)
    refine (check_any J a n c _ Hn.out hm (Hh.out.up hW)).mono ?_
    rintro e w1 ⟨rfl, hb1⟩
    have hz1 := hb1.size
    simp only [World.size_alloc] at hz1
    have k0 := b0.below hb1 (by simp; omega)
    have k1 := b1.below hb1 (by simp)
    have hB1 : Below w.heap.size w w1 := hW.trans (hb1.mono (by simp; omega))
    clear hb1 b0 b1 hW
    go_wp2_with (first | (go_at_call 50; refine (checkStrokes_any _ _ _ l _ Hm.out hmm (Hl.out.up hB1)).mono ?_; rintro e w2 ⟨rfl, rfl⟩) | (go_at_call 43; refine (first_any _ _ _ [J.check, strokesE l] _ rfl (by simp) (Is.of_bk _ (Bk.new _ _ _) (by simp))).mono ?_; rintro e w2 ⟨rfl, rfl⟩) | (refine wpList_load_row rfl 33 _ rfl w.heap.size rfl _ (jobC J (.slice a n c)) _ _ (k0.alloc _) Try.underlying33 rfl szJob ?_))
    refine (after_any J a n c b m d l _ HJ.out Hm.out h6 Hk.out (Hl.out.up (hB1.alloc (by omega) _))).mono ?_
    rintro e w3 ⟨rfl, hb3⟩
    have hz3 := hb3.size
    simp only [World.size_alloc] at hz3
    have q1 := (k1.alloc _).below hb3 (by simp; omega)
    have hB3 : Below w.heap.size w w3 := (hB1.alloc (by omega) _).trans (hb3.mono (by simp; omega))
    clear hb3 k0 k1 hB1
    go_wp2_with (refine wpList_store_row rfl 68 _ _ rfl (w.heap.size + 1) (jobC (J.setTg (afterS J J.tg l)) (.slice a n c)) rfl rfl _ _ q1 szWork rfl (oneJob _ _ _ _) ?_)
    refine bodyPost_ret (results_row_tmp Try.results29 _ _ _ _ _ _ rfl rfl (q1.row _) Try.underlying68 szWork) rfl ⟨?_, below_setRow hB3 (by simp) _⟩
    rw [if_pos Hc.out]
    rfl
  · have hcb : (firstE [J.check, strokesE l] != 0) = true := by rw [filed_first]; simpa using hc
    have Hc := hidMk hc
    clear hc
    go_enter Try.func29, Try.ntmps29
    go_wp2_with (refine wpList_load_row rfl 33 _ rfl w.heap.size rfl _ (jobC J (.slice a n c)) _ _ b0 Try.underlying33 rfl szJob ?_)
    refine (check_any J a n c _ Hn.out hm (Hh.out.up hW)).mono ?_
    rintro e w1 ⟨rfl, hb1⟩
    have hz1 := hb1.size
    simp only [World.size_alloc] at hz1
    have k0 := b0.below hb1 (by simp; omega)
    have k1 := b1.below hb1 (by simp)
    have hB1 : Below w.heap.size w w1 := hW.trans (hb1.mono (by simp; omega))
    clear hb1 b0 b1 hW
    have q1 := k1.alloc (.cells #[.int .i64 J.check, .int .i64 (strokesE l)] 40)
    go_wp2_with (first | (go_at_call 50; refine (checkStrokes_any _ _ _ l _ Hm.out hmm (Hl.out.up hB1)).mono ?_; rintro e w2 ⟨rfl, rfl⟩) | (go_at_call 43; refine (first_any _ _ _ [J.check, strokesE l] _ rfl (by simp) (Is.of_bk _ (Bk.new _ _ _) (by simp))).mono ?_; rintro e w2 ⟨rfl, rfl⟩) | (refine wpList_store_row rfl 68 _ _ rfl (w.heap.size + 1) (jobC zeroJ (.slice none 0 0)) rfl rfl _ _ q1 szWork rfl (oneJob _ _ _ _) ?_))
    refine bodyPost_ret (results_row_tmp Try.results29 _ _ _ _ _ _ rfl rfl (q1.row _) Try.underlying68 szWork) rfl ⟨?_, below_setRow (hB1.alloc (by omega) _) (by simp) _⟩
    rw [if_neg Hc.out, ← filed_first]
    rfl

/-- What After answers. -/
def AfterAns (J : Jb) (l : List Int) (w : World) (e : Ending) (w' : World) : Prop :=
  (if filedE J l = 0 then e = .returned (.tuple #[.agg (tonC (afterS J J.tg l)), .int .i64 0])
    else e = .returned (.tuple #[.agg (tonC zeroJ.tg), .int .i64 (filedE J l)])) ∧ Below w.heap.size w w'
end Go.Proofs.Ytggokdmlijipjaa
/- The contract of reed.Passes on valid jobs. -/
namespace Go.Proofs.Ytggokdmlijipjaa
set_option linter.all false
open Go.RowKit

set_option maxHeartbeats 1000000 in
set_option maxRecDepth 100000 in
theorem passesF_ok (J : Jb) (hc : J.check = 0) (a : Option Addr) (n c : Nat) (w : World) (hn : n = J.sh.length) (hm : n ≤ 9223372036854775807) (h : Rg w w.heap.size a J.sh) :
    Calls Try.prog 9 #[.agg (jobC J (.slice a n c))] w fun e w' => e = .returned (.tuple #[.int .i64 (passI J.wi J.sh J.p1 J.p2), .int .i64 0]) ∧ Below w.heap.size w w' := by
  have Hn : Hid (n = J.sh.length) := hn
  have Hh : Hid (Rg w w.heap.size a J.sh) := h
  have HJ := hidMk ((check_ok hc).inn.mono (by decide : (100 : Int) ≤ 1000))
  have hcb : (J.check != 0) = false := by simp [hc]
  clear hn h hc
  have b0 : Bk (w.alloc (.cells (jobC J (.slice a n c)) 33)) w.heap.size 33 (jobC J (.slice a n c)) := Bk.new w _ _
  have hW : Below w.heap.size w (w.alloc (.cells (jobC J (.slice a n c)) 33)) := (Below.refl _ _).alloc (Nat.le_refl _) _
  go_enter Try.func9, Try.ntmps9
  go_wp2_with (refine wpList_load_row rfl 33 _ rfl w.heap.size rfl _ (jobC J (.slice a n c)) _ _ b0 Try.underlying33 rfl szJob ?_)
  refine (check_any J a n c _ Hn.out hm (Hh.out.up hW)).mono ?_
  rintro e w1 ⟨rfl, hb1⟩
  have hz1 := hb1.size
  simp only [World.size_alloc] at hz1
  have k0 := b0.below hb1 (by simp)
  have hB1 : Below w.heap.size w w1 := hW.trans (hb1.mono (by simp))
  clear hb1 b0 hW
  go_wp2_with (refine wpList_load_row rfl 33 _ rfl w.heap.size rfl _ (jobC J (.slice a n c)) _ _ k0 Try.underlying33 rfl szJob ?_)
  refine (passes_any J a n c _ HJ.out Hn.out (Hh.out.up hB1)).mono ?_
  rintro e w2 ⟨rfl, hb2⟩
  have hB2 : Below w.heap.size w w2 := hB1.trans (hb2.mono (by omega))
  go_wp2
  refine bodyPost_ret (v := .tuple #[.int .i64 (passI J.wi J.sh J.p1 J.p2), .int .i64 0]) (by simp [results, Try.results9, go_sem]) rfl ⟨rfl, hB2⟩
end Go.Proofs.Ytggokdmlijipjaa
