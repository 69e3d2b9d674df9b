/- Part 24 of the proof: FineG. -/
import Derived.Test.YtbebofmpimfbgaaB05
import Derived.Test.YtbebofmpimfbgaaB20
import Derived.Test.YtbebofmpimfbgaaB07
/- work.fine, on any job, by the reckoner: the job's numbers are symbols, its shifts are opaque. -/
namespace Go.Sim
set_option linter.all false
open Go Go.RowKit Go.Proofs Go.Proofs.Ytbebofmpimfbgaa
set_option maxRecDepth 1000000
noncomputable section
def fineL (J : Jb) : List Int := [J.p1, J.p2, J.t1, J.t2, J.r1, J.r2, J.u1, J.u2, J.d1, J.d2, J.x1, J.x2, J.y1, J.y2, J.le, J.wi, J.me, 0, 0, 0, passI J.wi J.sh J.p1 J.p2, spoilI J.le J.tg]
def nthF : List Int → Nat → Int
  | [], _ => 0
  | x :: _, 0 => x
  | _ :: l, i + 1 => nthF l i
abbrev fineRho (J : Jb) (sl : Value) (w : World) : Rho := ⟨nthF (fineL J), fun _ => sl, w.heap.size, fun k => w.heap[k]?⟩
def fy0 : Value := .func (.yield (nat_lit 0)) ⟨[(.int .i64 (.ofNat (nat_lit 0)))]⟩ ⟨[]⟩
def fy1 : Value := .func (.yield (nat_lit 0)) ⟨[(.int .i64 (.ofNat (nat_lit 1)))]⟩ ⟨[]⟩
def fy2 : Value := .func (.yield (nat_lit 0)) ⟨[(.int .i64 (.ofNat (nat_lit 2)))]⟩ ⟨[]⟩
def fy3 : Value := .func (.yield (nat_lit 0)) ⟨[(.int .i64 (.ofNat (nat_lit 3)))]⟩ ⟨[]⟩
def fy4 : Value := .func (.yield (nat_lit 0)) ⟨[(.int .i64 (.ofNat (nat_lit 4)))]⟩ ⟨[]⟩
def fy5 : Value := .func (.yield (nat_lit 0)) ⟨[(.int .i64 (.ofNat (nat_lit 5)))]⟩ ⟨[]⟩
def fy6 : Value := .func (.yield (nat_lit 0)) ⟨[(.int .i64 (.ofNat (nat_lit 6)))]⟩ ⟨[]⟩
def fy7 : Value := .func (.yield (nat_lit 0)) ⟨[(.int .i64 (.ofNat (nat_lit 7)))]⟩ ⟨[]⟩
def fy8 : Value := .func (.yield (nat_lit 0)) ⟨[(.int .i64 (.ofNat (nat_lit 8)))]⟩ ⟨[]⟩
def fy9 : Value := .func (.yield (nat_lit 0)) ⟨[(.int .i64 (.ofNat (nat_lit 9)))]⟩ ⟨[]⟩
def fy10 : Value := .func (.yield (nat_lit 0)) ⟨[(.int .i64 (.ofNat (nat_lit 10)))]⟩ ⟨[]⟩
def fy11 : Value := .func (.yield (nat_lit 0)) ⟨[(.int .i64 (.ofNat (nat_lit 11)))]⟩ ⟨[]⟩
def fy12 : Value := .func (.yield (nat_lit 0)) ⟨[(.int .i64 (.ofNat (nat_lit 12)))]⟩ ⟨[]⟩
def fy13 : Value := .func (.yield (nat_lit 0)) ⟨[(.int .i64 (.ofNat (nat_lit 13)))]⟩ ⟨[]⟩
def fy14 : Value := .func (.yield (nat_lit 0)) ⟨[(.int .i64 (.ofNat (nat_lit 14)))]⟩ ⟨[]⟩
def fy15 : Value := .func (.yield (nat_lit 0)) ⟨[(.int .i64 (.ofNat (nat_lit 15)))]⟩ ⟨[]⟩
def fy16 : Value := .func (.yield (nat_lit 0)) ⟨[(.int .i64 (.ofNat (nat_lit 16)))]⟩ ⟨[]⟩
def fy17 : Value := .func (.yield (nat_lit 0)) ⟨[(.int .i64 (.ofNat (nat_lit 20)))]⟩ ⟨[]⟩
def fy18 : Value := .func (.yield (nat_lit 0)) ⟨[(.int .i64 (.ofNat (nat_lit 21)))]⟩ ⟨[]⟩
def jobV : Value := (.agg ⟨[fy0,fy1,fy2,fy3,fy4,fy5,fy6,fy7,fy8,fy9,fy10,fy11,fy12,fy13,fy14,(.func (.yield (nat_lit 30)) ⟨[.nilFunc, (.int .u64 (.ofNat (nat_lit 0)))]⟩ ⟨[]⟩),fy15,fy16]⟩)
theorem jobV_is {J : Jb} {sl : Value} {w : World} {ι : Io} {u : Value} (h : @VR (fineRho J sl w) ι jobV u) : u = .agg (jobC J sl) := by
  letI := fineRho J sl w
  letI := Asm.none
  haveI : SymOK := SymOK.none
  obtain ⟨l, rfl, hl⟩ := h.aggI
  obtain ⟨x, y, rfl, h1, h2⟩ := LR.cut (a := [fy0,fy1,fy2,fy3,fy4,fy5,fy6,fy7,fy8,fy9,fy10,fy11,fy12,fy13,fy14]) (b := (.func (.yield (nat_lit 30)) ⟨[.nilFunc, (.int .u64 (.ofNat (nat_lit 0)))]⟩ ⟨[]⟩) :: [fy15,fy16]) hl
  have e1 := Dens.is (.cons (.sym _ _) (.cons (.sym _ _) (.cons (.sym _ _) (.cons (.sym _ _) (.cons (.sym _ _) (.cons (.sym _ _) (.cons (.sym _ _) (.cons (.sym _ _) (.cons (.sym _ _) (.cons (.sym _ _) (.cons (.sym _ _) (.cons (.sym _ _) (.cons (.sym _ _) (.cons (.sym _ _) (.cons (.sym _ _) .nil))))))))))))))) h1
  cases h2 with
  | cons hs h3 =>
    have e3 := Dens.is (.cons (.sym _ _) (.cons (.sym _ _) .nil)) h3
    have e2 := hs.opqI
    subst e1 e2 e3
    rfl
theorem jobV_vr {J : Jb} {a : Option Addr} {n c : Nat} {w : World} {ι : Io} : @VR (fineRho J (.slice a n c) w) ι jobV (.agg (jobC J (.slice a n c))) := by
  letI := fineRho J (.slice a n c) w
  exact .agg (.cons (.sym (.sym _ _)) (.cons (.sym (.sym _ _)) (.cons (.sym (.sym _ _)) (.cons (.sym (.sym _ _)) (.cons (.sym (.sym _ _)) (.cons (.sym (.sym _ _)) (.cons (.sym (.sym _ _)) (.cons (.sym (.sym _ _)) (.cons (.sym (.sym _ _)) (.cons (.sym (.sym _ _)) (.cons (.sym (.sym _ _)) (.cons (.sym (.sym _ _)) (.cons (.sym (.sym _ _)) (.cons (.sym (.sym _ _)) (.cons (.sym (.sym _ _)) (.cons (.opq rfl rfl) (.cons (.sym (.sym _ _)) (.cons (.sym (.sym _ _)) .nil))))))))))))))))))
def gPass : Gen := ⟨(nat_lit 69), [jobV], none, (nat_lit 0), [], fy17⟩
def gSpoil : Gen := ⟨(nat_lit 67), [jobV], none, (nat_lit 0), [], fy18⟩
theorem rg_env {w w' : World} {a : Option Addr} {l : List R2} (h : Go.Proofs.Ytbebofmpimfbgaa.Rg w w.heap.size a l) (hz : w.heap.size ≤ w'.heap.size) (ho : ∀ k, k < w.heap.size → w'.heap[k]? = w.heap[k]?) : Go.Proofs.Ytbebofmpimfbgaa.Rg w' w'.heap.size a l :=
  h.keep hz fun p hp => World.cell?_of_block (ho _ hp)
theorem gPass_ok [Asm] {J : Jb} {a : Option Addr} {n c : Nat} {w : World} (hS : @SymOK (fineRho J (.slice a n c) w) _) (hJ : J.In 1000) (hn : n = J.sh.length) (h : Go.Proofs.Ytbebofmpimfbgaa.Rg w w.heap.size a J.sh) : @GFact (fineRho J (.slice a n c) w) Try.prog gPass := by
  letI := fineRho J (.slice a n c) w
  haveI := hS
  refine ⟨⟨by decide, by decide⟩, fun ι w1 fv' args' q1 q2 q3 => ?_⟩
  cases q2 with
  | cons hv hnil =>
    cases hnil
    rw [jobV_is hv]
    have hg : Try.prog.globals.size = 0 := by kernel_rfl
    have hz : w.heap.size ≤ w1.heap.size := q3.env.top
    have ho : ∀ k, k < w.heap.size → w1.heap[k]? = w.heap[k]? := fun k hk => q3.env.old k (by omega) hk
    refine gplain Try.func69 rfl (by kernel_rfl) q1 ((passes_any J a n c w1 hJ hn (rg_env h hz ho)).mono ?_)
    rintro e w2 ⟨rfl, hb⟩
    exact ⟨_, rfl, fun ι => .sym (.sym _ _), hb.os, hb.tape, hb.output, hb.size, hb.block⟩
theorem gSpoil_ok [Asm] {J : Jb} {a : Option Addr} {n c : Nat} {w : World} (hS : @SymOK (fineRho J (.slice a n c) w) _) : @GFact (fineRho J (.slice a n c) w) Try.prog gSpoil := by
  letI := fineRho J (.slice a n c) w
  haveI := hS
  refine ⟨⟨by decide, by decide⟩, fun ι w1 fv' args' q1 q2 q3 => ?_⟩
  cases q2 with
  | cons hv hnil =>
    cases hnil
    rw [jobV_is hv]
    refine gplain Try.func67 rfl (by kernel_rfl) q1 ((spoiled_any J (.slice a n c) w1).mono ?_)
    rintro e w2 ⟨rfl, rfl⟩
    have hb : Below w1.heap.size w1 (w1.alloc (.cells (jobC J (.slice a n c)) 106)) := (Below.refl _ _).alloc (Nat.le_refl _) _
    exact ⟨_, rfl, fun ι => .sym (.sym _ _), hb.os, hb.tape, hb.output, hb.size, hb.block⟩
def fineKb : Kb := { w := .e, g := (.n (.n (.n .e none (.n (.n (.n (.n .e (some [gSpoil]) .e) none .e) none .e) none .e)) none (.n .e none (.n (.n (.n (.n .e (some [gPass]) .e) none .e) none .e) none .e))) none .e), c := .e }
theorem fineKb_gen [Rho] [Asm] [SymOK] (h1 : GFact Try.prog gPass) (h2 : GFact Try.prog gSpoil) : KbOK Try.prog fineKb := kbOK (lw := []) (lg := [((nat_lit 69), [gPass]), ((nat_lit 67), [gSpoil])]) (lc := []) .nil (.cons (.cons h1 .nil) (by kernel_rfl) (.cons (.cons h2 .nil) (by kernel_rfl) .nil)) .nil (by kernel_rfl) (by kernel_rfl) (by kernel_rfl)
theorem fmixed : Try.prog.follows .mixedOrders = true := by kernel_rfl
abbrev fasm0 : Asm := ⟨[((.func (.yield (nat_lit 20)) ⟨[fy17,(.int .i64 (.ofNat (nat_lit 1)))]⟩ ⟨[]⟩),true),((.func (.yield (nat_lit 20)) ⟨[fy18,(.int .i64 (.ofNat (nat_lit 2)))]⟩ ⟨[]⟩),true)]⟩
def frun0 : Chg := ⟨.func (.func (nat_lit 68)) ⟨[]⟩ ⟨[]⟩, [jobV], S1 .e (nat_lit 0), (.int .i64 (.ofNat (nat_lit 1))), (nat_lit 0), [], []⟩
theorem frun0_gen [Rho] (hS : @SymOK _ fasm0) (hK : KbOK Try.prog fineKb) : CFact Try.prog frun0 := @cfact _ fasm0 hS Try.prog fmixed tab (@tab_ok _ fasm0 hS) fineKb hK frun0 10000 (by kernel_rfl) (by kernel_rfl)
theorem fsym0 {J : Jb} {sl : Value} {w : World} (h : (passI J.wi J.sh J.p1 J.p2 == 1) = true ∧ (spoilI J.le J.tg == 2) = true) : @SymOK (fineRho J sl w) fasm0 := @SymOK.mk (fineRho J sl w) fasm0 fun c hc b hb => by
  obtain ⟨h1, h2⟩ := h
  replace hc : c = ((.func (.yield (nat_lit 20)) ⟨[fy17,(.int .i64 (.ofNat (nat_lit 1)))]⟩ ⟨[]⟩),true) ∨ c = ((.func (.yield (nat_lit 20)) ⟨[fy18,(.int .i64 (.ofNat (nat_lit 2)))]⟩ ⟨[]⟩),true) := by have hc : c ∈ [((.func (.yield (nat_lit 20)) ⟨[fy17,(.int .i64 (.ofNat (nat_lit 1)))]⟩ ⟨[]⟩),true), ((.func (.yield (nat_lit 20)) ⟨[fy18,(.int .i64 (.ofNat (nat_lit 2)))]⟩ ⟨[]⟩),true)] := hc; simpa only [List.mem_cons, List.not_mem_nil, or_false] using hc
  letI := fineRho J sl w
  rcases hc with rfl | rfl
  · have e := eqN (k := .i64) hb (.sym _ _) (.lit _ _); rw [e]; exact h1
  · have e := eqN (k := .i64) hb (.sym _ _) (.lit _ _); rw [e]; exact h2
theorem fcase0 {J : Jb} {a : Option Addr} {n c : Nat} {w : World} (hJ : J.In 1000) (hn : n = J.sh.length) (h : Go.Proofs.Ytbebofmpimfbgaa.Rg w w.heap.size a J.sh) (hq : (passI J.wi J.sh J.p1 J.p2 == 1) = true ∧ (spoilI J.le J.tg == 2) = true) : Calls Try.prog 68 #[.agg (jobC J (.slice a n c))] w fun e w' => e = .returned (.int .i64 1) ∧ Below w.heap.size w w' := by
  letI := fineRho J (.slice a n c) w
  letI := fasm0
  haveI hS : SymOK := fsym0 hq
  have hK : KbOK Try.prog fineKb := fineKb_gen (gPass_ok hS hJ hn h) (gSpoil_ok hS)
  have hg : Try.prog.globals.size = 0 := by kernel_rfl
  refine (open_any (frun0_gen hS hK) (.cons jobV_vr .nil) rfl hg (by kernel_rfl) w (Nat.zero_le _) (fun b o hb => by rw [Tr.get_e] at hb; cases hb) ⟨Nat.le_refl _, fun _ _ _ => rfl⟩).mono ?_
  rintro e w' ⟨v', ι', rfl, hv, hk⟩
  have e1 := Den.is (.lit _ _) hv
  subst e1
  exact ⟨rfl, hk.os, hk.tape, hk.output, hk.size, hk.heap⟩
abbrev fasm1 : Asm := ⟨[((.func (.yield (nat_lit 20)) ⟨[fy17,(.int .i64 (.ofNat (nat_lit 1)))]⟩ ⟨[]⟩),true),((.func (.yield (nat_lit 20)) ⟨[fy18,(.int .i64 (.ofNat (nat_lit 2)))]⟩ ⟨[]⟩),false),((.func (.yield (nat_lit 20)) ⟨[fy17,(.int .i64 (.ofNat (nat_lit 2)))]⟩ ⟨[]⟩),false),((.func (.yield (nat_lit 20)) ⟨[fy18,(.int .i64 (.ofNat (nat_lit 1)))]⟩ ⟨[]⟩),true)]⟩
def frun1 : Chg := ⟨.func (.func (nat_lit 68)) ⟨[]⟩ ⟨[]⟩, [jobV], S1 .e (nat_lit 0), (.int .i64 (.ofNat (nat_lit 2))), (nat_lit 0), [], []⟩
theorem frun1_gen [Rho] (hS : @SymOK _ fasm1) (hK : KbOK Try.prog fineKb) : CFact Try.prog frun1 := @cfact _ fasm1 hS Try.prog fmixed tab (@tab_ok _ fasm1 hS) fineKb hK frun1 10000 (by kernel_rfl) (by kernel_rfl)
theorem fsym1 {J : Jb} {sl : Value} {w : World} (h : (passI J.wi J.sh J.p1 J.p2 == 1) = true ∧ (spoilI J.le J.tg == 2) = false ∧ (passI J.wi J.sh J.p1 J.p2 == 2) = false ∧ (spoilI J.le J.tg == 1) = true) : @SymOK (fineRho J sl w) fasm1 := @SymOK.mk (fineRho J sl w) fasm1 fun c hc b hb => by
  obtain ⟨h1, h2, h3, h4⟩ := h
  replace hc : c = ((.func (.yield (nat_lit 20)) ⟨[fy17,(.int .i64 (.ofNat (nat_lit 1)))]⟩ ⟨[]⟩),true) ∨ c = ((.func (.yield (nat_lit 20)) ⟨[fy18,(.int .i64 (.ofNat (nat_lit 2)))]⟩ ⟨[]⟩),false) ∨ c = ((.func (.yield (nat_lit 20)) ⟨[fy17,(.int .i64 (.ofNat (nat_lit 2)))]⟩ ⟨[]⟩),false) ∨ c = ((.func (.yield (nat_lit 20)) ⟨[fy18,(.int .i64 (.ofNat (nat_lit 1)))]⟩ ⟨[]⟩),true) := by have hc : c ∈ [((.func (.yield (nat_lit 20)) ⟨[fy17,(.int .i64 (.ofNat (nat_lit 1)))]⟩ ⟨[]⟩),true), ((.func (.yield (nat_lit 20)) ⟨[fy18,(.int .i64 (.ofNat (nat_lit 2)))]⟩ ⟨[]⟩),false), ((.func (.yield (nat_lit 20)) ⟨[fy17,(.int .i64 (.ofNat (nat_lit 2)))]⟩ ⟨[]⟩),false), ((.func (.yield (nat_lit 20)) ⟨[fy18,(.int .i64 (.ofNat (nat_lit 1)))]⟩ ⟨[]⟩),true)] := hc; simpa only [List.mem_cons, List.not_mem_nil, or_false] using hc
  letI := fineRho J sl w
  rcases hc with rfl | rfl | rfl | rfl
  · have e := eqN (k := .i64) hb (.sym _ _) (.lit _ _); rw [e]; exact h1
  · have e := eqN (k := .i64) hb (.sym _ _) (.lit _ _); rw [e]; exact h2
  · have e := eqN (k := .i64) hb (.sym _ _) (.lit _ _); rw [e]; exact h3
  · have e := eqN (k := .i64) hb (.sym _ _) (.lit _ _); rw [e]; exact h4
theorem fcase1 {J : Jb} {a : Option Addr} {n c : Nat} {w : World} (hJ : J.In 1000) (hn : n = J.sh.length) (h : Go.Proofs.Ytbebofmpimfbgaa.Rg w w.heap.size a J.sh) (hq : (passI J.wi J.sh J.p1 J.p2 == 1) = true ∧ (spoilI J.le J.tg == 2) = false ∧ (passI J.wi J.sh J.p1 J.p2 == 2) = false ∧ (spoilI J.le J.tg == 1) = true) : Calls Try.prog 68 #[.agg (jobC J (.slice a n c))] w fun e w' => e = .returned (.int .i64 2) ∧ Below w.heap.size w w' := by
  letI := fineRho J (.slice a n c) w
  letI := fasm1
  haveI hS : SymOK := fsym1 hq
  have hK : KbOK Try.prog fineKb := fineKb_gen (gPass_ok hS hJ hn h) (gSpoil_ok hS)
  have hg : Try.prog.globals.size = 0 := by kernel_rfl
  refine (open_any (frun1_gen hS hK) (.cons jobV_vr .nil) rfl hg (by kernel_rfl) w (Nat.zero_le _) (fun b o hb => by rw [Tr.get_e] at hb; cases hb) ⟨Nat.le_refl _, fun _ _ _ => rfl⟩).mono ?_
  rintro e w' ⟨v', ι', rfl, hv, hk⟩
  have e1 := Den.is (.lit _ _) hv
  subst e1
  exact ⟨rfl, hk.os, hk.tape, hk.output, hk.size, hk.heap⟩
abbrev fasm2 : Asm := ⟨[((.func (.yield (nat_lit 20)) ⟨[fy17,(.int .i64 (.ofNat (nat_lit 1)))]⟩ ⟨[]⟩),true),((.func (.yield (nat_lit 20)) ⟨[fy18,(.int .i64 (.ofNat (nat_lit 2)))]⟩ ⟨[]⟩),false),((.func (.yield (nat_lit 20)) ⟨[fy17,(.int .i64 (.ofNat (nat_lit 2)))]⟩ ⟨[]⟩),false),((.func (.yield (nat_lit 20)) ⟨[fy18,(.int .i64 (.ofNat (nat_lit 1)))]⟩ ⟨[]⟩),false)]⟩
def frun2 : Chg := ⟨.func (.func (nat_lit 68)) ⟨[]⟩ ⟨[]⟩, [jobV], S1 .e (nat_lit 0), (.int .i64 (.ofNat (nat_lit 3))), (nat_lit 0), [], []⟩
theorem frun2_gen [Rho] (hS : @SymOK _ fasm2) (hK : KbOK Try.prog fineKb) : CFact Try.prog frun2 := @cfact _ fasm2 hS Try.prog fmixed tab (@tab_ok _ fasm2 hS) fineKb hK frun2 10000 (by kernel_rfl) (by kernel_rfl)
theorem fsym2 {J : Jb} {sl : Value} {w : World} (h : (passI J.wi J.sh J.p1 J.p2 == 1) = true ∧ (spoilI J.le J.tg == 2) = false ∧ (passI J.wi J.sh J.p1 J.p2 == 2) = false ∧ (spoilI J.le J.tg == 1) = false) : @SymOK (fineRho J sl w) fasm2 := @SymOK.mk (fineRho J sl w) fasm2 fun c hc b hb => by
  obtain ⟨h1, h2, h3, h4⟩ := h
  replace hc : c = ((.func (.yield (nat_lit 20)) ⟨[fy17,(.int .i64 (.ofNat (nat_lit 1)))]⟩ ⟨[]⟩),true) ∨ c = ((.func (.yield (nat_lit 20)) ⟨[fy18,(.int .i64 (.ofNat (nat_lit 2)))]⟩ ⟨[]⟩),false) ∨ c = ((.func (.yield (nat_lit 20)) ⟨[fy17,(.int .i64 (.ofNat (nat_lit 2)))]⟩ ⟨[]⟩),false) ∨ c = ((.func (.yield (nat_lit 20)) ⟨[fy18,(.int .i64 (.ofNat (nat_lit 1)))]⟩ ⟨[]⟩),false) := by have hc : c ∈ [((.func (.yield (nat_lit 20)) ⟨[fy17,(.int .i64 (.ofNat (nat_lit 1)))]⟩ ⟨[]⟩),true), ((.func (.yield (nat_lit 20)) ⟨[fy18,(.int .i64 (.ofNat (nat_lit 2)))]⟩ ⟨[]⟩),false), ((.func (.yield (nat_lit 20)) ⟨[fy17,(.int .i64 (.ofNat (nat_lit 2)))]⟩ ⟨[]⟩),false), ((.func (.yield (nat_lit 20)) ⟨[fy18,(.int .i64 (.ofNat (nat_lit 1)))]⟩ ⟨[]⟩),false)] := hc; simpa only [List.mem_cons, List.not_mem_nil, or_false] using hc
  letI := fineRho J sl w
  rcases hc with rfl | rfl | rfl | rfl
  · have e := eqN (k := .i64) hb (.sym _ _) (.lit _ _); rw [e]; exact h1
  · have e := eqN (k := .i64) hb (.sym _ _) (.lit _ _); rw [e]; exact h2
  · have e := eqN (k := .i64) hb (.sym _ _) (.lit _ _); rw [e]; exact h3
  · have e := eqN (k := .i64) hb (.sym _ _) (.lit _ _); rw [e]; exact h4
theorem fcase2 {J : Jb} {a : Option Addr} {n c : Nat} {w : World} (hJ : J.In 1000) (hn : n = J.sh.length) (h : Go.Proofs.Ytbebofmpimfbgaa.Rg w w.heap.size a J.sh) (hq : (passI J.wi J.sh J.p1 J.p2 == 1) = true ∧ (spoilI J.le J.tg == 2) = false ∧ (passI J.wi J.sh J.p1 J.p2 == 2) = false ∧ (spoilI J.le J.tg == 1) = false) : Calls Try.prog 68 #[.agg (jobC J (.slice a n c))] w fun e w' => e = .returned (.int .i64 3) ∧ Below w.heap.size w w' := by
  letI := fineRho J (.slice a n c) w
  letI := fasm2
  haveI hS : SymOK := fsym2 hq
  have hK : KbOK Try.prog fineKb := fineKb_gen (gPass_ok hS hJ hn h) (gSpoil_ok hS)
  have hg : Try.prog.globals.size = 0 := by kernel_rfl
  refine (open_any (frun2_gen hS hK) (.cons jobV_vr .nil) rfl hg (by kernel_rfl) w (Nat.zero_le _) (fun b o hb => by rw [Tr.get_e] at hb; cases hb) ⟨Nat.le_refl _, fun _ _ _ => rfl⟩).mono ?_
  rintro e w' ⟨v', ι', rfl, hv, hk⟩
  have e1 := Den.is (.lit _ _) hv
  subst e1
  exact ⟨rfl, hk.os, hk.tape, hk.output, hk.size, hk.heap⟩
abbrev fasm3 : Asm := ⟨[((.func (.yield (nat_lit 20)) ⟨[fy17,(.int .i64 (.ofNat (nat_lit 1)))]⟩ ⟨[]⟩),false),((.func (.yield (nat_lit 20)) ⟨[fy17,(.int .i64 (.ofNat (nat_lit 2)))]⟩ ⟨[]⟩),true)]⟩
def frun3 : Chg := ⟨.func (.func (nat_lit 68)) ⟨[]⟩ ⟨[]⟩, [jobV], S1 .e (nat_lit 0), (.int .i64 (.ofNat (nat_lit 2))), (nat_lit 0), [], []⟩
theorem frun3_gen [Rho] (hS : @SymOK _ fasm3) (hK : KbOK Try.prog fineKb) : CFact Try.prog frun3 := @cfact _ fasm3 hS Try.prog fmixed tab (@tab_ok _ fasm3 hS) fineKb hK frun3 10000 (by kernel_rfl) (by kernel_rfl)
theorem fsym3 {J : Jb} {sl : Value} {w : World} (h : (passI J.wi J.sh J.p1 J.p2 == 1) = false ∧ (passI J.wi J.sh J.p1 J.p2 == 2) = true) : @SymOK (fineRho J sl w) fasm3 := @SymOK.mk (fineRho J sl w) fasm3 fun c hc b hb => by
  obtain ⟨h1, h3⟩ := h
  replace hc : c = ((.func (.yield (nat_lit 20)) ⟨[fy17,(.int .i64 (.ofNat (nat_lit 1)))]⟩ ⟨[]⟩),false) ∨ c = ((.func (.yield (nat_lit 20)) ⟨[fy17,(.int .i64 (.ofNat (nat_lit 2)))]⟩ ⟨[]⟩),true) := by have hc : c ∈ [((.func (.yield (nat_lit 20)) ⟨[fy17,(.int .i64 (.ofNat (nat_lit 1)))]⟩ ⟨[]⟩),false), ((.func (.yield (nat_lit 20)) ⟨[fy17,(.int .i64 (.ofNat (nat_lit 2)))]⟩ ⟨[]⟩),true)] := hc; simpa only [List.mem_cons, List.not_mem_nil, or_false] using hc
  letI := fineRho J sl w
  rcases hc with rfl | rfl
  · have e := eqN (k := .i64) hb (.sym _ _) (.lit _ _); rw [e]; exact h1
  · have e := eqN (k := .i64) hb (.sym _ _) (.lit _ _); rw [e]; exact h3
theorem fcase3 {J : Jb} {a : Option Addr} {n c : Nat} {w : World} (hJ : J.In 1000) (hn : n = J.sh.length) (h : Go.Proofs.Ytbebofmpimfbgaa.Rg w w.heap.size a J.sh) (hq : (passI J.wi J.sh J.p1 J.p2 == 1) = false ∧ (passI J.wi J.sh J.p1 J.p2 == 2) = true) : Calls Try.prog 68 #[.agg (jobC J (.slice a n c))] w fun e w' => e = .returned (.int .i64 2) ∧ Below w.heap.size w w' := by
  letI := fineRho J (.slice a n c) w
  letI := fasm3
  haveI hS : SymOK := fsym3 hq
  have hK : KbOK Try.prog fineKb := fineKb_gen (gPass_ok hS hJ hn h) (gSpoil_ok hS)
  have hg : Try.prog.globals.size = 0 := by kernel_rfl
  refine (open_any (frun3_gen hS hK) (.cons jobV_vr .nil) rfl hg (by kernel_rfl) w (Nat.zero_le _) (fun b o hb => by rw [Tr.get_e] at hb; cases hb) ⟨Nat.le_refl _, fun _ _ _ => rfl⟩).mono ?_
  rintro e w' ⟨v', ι', rfl, hv, hk⟩
  have e1 := Den.is (.lit _ _) hv
  subst e1
  exact ⟨rfl, hk.os, hk.tape, hk.output, hk.size, hk.heap⟩
abbrev fasm4 : Asm := ⟨[((.func (.yield (nat_lit 20)) ⟨[fy17,(.int .i64 (.ofNat (nat_lit 1)))]⟩ ⟨[]⟩),false),((.func (.yield (nat_lit 20)) ⟨[fy17,(.int .i64 (.ofNat (nat_lit 2)))]⟩ ⟨[]⟩),false),((.func (.yield (nat_lit 20)) ⟨[fy18,(.int .i64 (.ofNat (nat_lit 1)))]⟩ ⟨[]⟩),true)]⟩
def frun4 : Chg := ⟨.func (.func (nat_lit 68)) ⟨[]⟩ ⟨[]⟩, [jobV], S1 .e (nat_lit 0), (.int .i64 (.ofNat (nat_lit 2))), (nat_lit 0), [], []⟩
theorem frun4_gen [Rho] (hS : @SymOK _ fasm4) (hK : KbOK Try.prog fineKb) : CFact Try.prog frun4 := @cfact _ fasm4 hS Try.prog fmixed tab (@tab_ok _ fasm4 hS) fineKb hK frun4 10000 (by kernel_rfl) (by kernel_rfl)
theorem fsym4 {J : Jb} {sl : Value} {w : World} (h : (passI J.wi J.sh J.p1 J.p2 == 1) = false ∧ (passI J.wi J.sh J.p1 J.p2 == 2) = false ∧ (spoilI J.le J.tg == 1) = true) : @SymOK (fineRho J sl w) fasm4 := @SymOK.mk (fineRho J sl w) fasm4 fun c hc b hb => by
  obtain ⟨h1, h3, h4⟩ := h
  replace hc : c = ((.func (.yield (nat_lit 20)) ⟨[fy17,(.int .i64 (.ofNat (nat_lit 1)))]⟩ ⟨[]⟩),false) ∨ c = ((.func (.yield (nat_lit 20)) ⟨[fy17,(.int .i64 (.ofNat (nat_lit 2)))]⟩ ⟨[]⟩),false) ∨ c = ((.func (.yield (nat_lit 20)) ⟨[fy18,(.int .i64 (.ofNat (nat_lit 1)))]⟩ ⟨[]⟩),true) := by have hc : c ∈ [((.func (.yield (nat_lit 20)) ⟨[fy17,(.int .i64 (.ofNat (nat_lit 1)))]⟩ ⟨[]⟩),false), ((.func (.yield (nat_lit 20)) ⟨[fy17,(.int .i64 (.ofNat (nat_lit 2)))]⟩ ⟨[]⟩),false), ((.func (.yield (nat_lit 20)) ⟨[fy18,(.int .i64 (.ofNat (nat_lit 1)))]⟩ ⟨[]⟩),true)] := hc; simpa only [List.mem_cons, List.not_mem_nil, or_false] using hc
  letI := fineRho J sl w
  rcases hc with rfl | rfl | rfl
  · have e := eqN (k := .i64) hb (.sym _ _) (.lit _ _); rw [e]; exact h1
  · have e := eqN (k := .i64) hb (.sym _ _) (.lit _ _); rw [e]; exact h3
  · have e := eqN (k := .i64) hb (.sym _ _) (.lit _ _); rw [e]; exact h4
theorem fcase4 {J : Jb} {a : Option Addr} {n c : Nat} {w : World} (hJ : J.In 1000) (hn : n = J.sh.length) (h : Go.Proofs.Ytbebofmpimfbgaa.Rg w w.heap.size a J.sh) (hq : (passI J.wi J.sh J.p1 J.p2 == 1) = false ∧ (passI J.wi J.sh J.p1 J.p2 == 2) = false ∧ (spoilI J.le J.tg == 1) = true) : Calls Try.prog 68 #[.agg (jobC J (.slice a n c))] w fun e w' => e = .returned (.int .i64 2) ∧ Below w.heap.size w w' := by
  letI := fineRho J (.slice a n c) w
  letI := fasm4
  haveI hS : SymOK := fsym4 hq
  have hK : KbOK Try.prog fineKb := fineKb_gen (gPass_ok hS hJ hn h) (gSpoil_ok hS)
  have hg : Try.prog.globals.size = 0 := by kernel_rfl
  refine (open_any (frun4_gen hS hK) (.cons jobV_vr .nil) rfl hg (by kernel_rfl) w (Nat.zero_le _) (fun b o hb => by rw [Tr.get_e] at hb; cases hb) ⟨Nat.le_refl _, fun _ _ _ => rfl⟩).mono ?_
  rintro e w' ⟨v', ι', rfl, hv, hk⟩
  have e1 := Den.is (.lit _ _) hv
  subst e1
  exact ⟨rfl, hk.os, hk.tape, hk.output, hk.size, hk.heap⟩
abbrev fasm5 : Asm := ⟨[((.func (.yield (nat_lit 20)) ⟨[fy17,(.int .i64 (.ofNat (nat_lit 1)))]⟩ ⟨[]⟩),false),((.func (.yield (nat_lit 20)) ⟨[fy17,(.int .i64 (.ofNat (nat_lit 2)))]⟩ ⟨[]⟩),false),((.func (.yield (nat_lit 20)) ⟨[fy18,(.int .i64 (.ofNat (nat_lit 1)))]⟩ ⟨[]⟩),false)]⟩
def frun5 : Chg := ⟨.func (.func (nat_lit 68)) ⟨[]⟩ ⟨[]⟩, [jobV], S1 .e (nat_lit 0), (.int .i64 (.ofNat (nat_lit 3))), (nat_lit 0), [], []⟩
theorem frun5_gen [Rho] (hS : @SymOK _ fasm5) (hK : KbOK Try.prog fineKb) : CFact Try.prog frun5 := @cfact _ fasm5 hS Try.prog fmixed tab (@tab_ok _ fasm5 hS) fineKb hK frun5 10000 (by kernel_rfl) (by kernel_rfl)
theorem fsym5 {J : Jb} {sl : Value} {w : World} (h : (passI J.wi J.sh J.p1 J.p2 == 1) = false ∧ (passI J.wi J.sh J.p1 J.p2 == 2) = false ∧ (spoilI J.le J.tg == 1) = false) : @SymOK (fineRho J sl w) fasm5 := @SymOK.mk (fineRho J sl w) fasm5 fun c hc b hb => by
  obtain ⟨h1, h3, h4⟩ := h
  replace hc : c = ((.func (.yield (nat_lit 20)) ⟨[fy17,(.int .i64 (.ofNat (nat_lit 1)))]⟩ ⟨[]⟩),false) ∨ c = ((.func (.yield (nat_lit 20)) ⟨[fy17,(.int .i64 (.ofNat (nat_lit 2)))]⟩ ⟨[]⟩),false) ∨ c = ((.func (.yield (nat_lit 20)) ⟨[fy18,(.int .i64 (.ofNat (nat_lit 1)))]⟩ ⟨[]⟩),false) := by have hc : c ∈ [((.func (.yield (nat_lit 20)) ⟨[fy17,(.int .i64 (.ofNat (nat_lit 1)))]⟩ ⟨[]⟩),false), ((.func (.yield (nat_lit 20)) ⟨[fy17,(.int .i64 (.ofNat (nat_lit 2)))]⟩ ⟨[]⟩),false), ((.func (.yield (nat_lit 20)) ⟨[fy18,(.int .i64 (.ofNat (nat_lit 1)))]⟩ ⟨[]⟩),false)] := hc; simpa only [List.mem_cons, List.not_mem_nil, or_false] using hc
  letI := fineRho J sl w
  rcases hc with rfl | rfl | rfl
  · have e := eqN (k := .i64) hb (.sym _ _) (.lit _ _); rw [e]; exact h1
  · have e := eqN (k := .i64) hb (.sym _ _) (.lit _ _); rw [e]; exact h3
  · have e := eqN (k := .i64) hb (.sym _ _) (.lit _ _); rw [e]; exact h4
theorem fcase5 {J : Jb} {a : Option Addr} {n c : Nat} {w : World} (hJ : J.In 1000) (hn : n = J.sh.length) (h : Go.Proofs.Ytbebofmpimfbgaa.Rg w w.heap.size a J.sh) (hq : (passI J.wi J.sh J.p1 J.p2 == 1) = false ∧ (passI J.wi J.sh J.p1 J.p2 == 2) = false ∧ (spoilI J.le J.tg == 1) = false) : Calls Try.prog 68 #[.agg (jobC J (.slice a n c))] w fun e w' => e = .returned (.int .i64 3) ∧ Below w.heap.size w w' := by
  letI := fineRho J (.slice a n c) w
  letI := fasm5
  haveI hS : SymOK := fsym5 hq
  have hK : KbOK Try.prog fineKb := fineKb_gen (gPass_ok hS hJ hn h) (gSpoil_ok hS)
  have hg : Try.prog.globals.size = 0 := by kernel_rfl
  refine (open_any (frun5_gen hS hK) (.cons jobV_vr .nil) rfl hg (by kernel_rfl) w (Nat.zero_le _) (fun b o hb => by rw [Tr.get_e] at hb; cases hb) ⟨Nat.le_refl _, fun _ _ _ => rfl⟩).mono ?_
  rintro e w' ⟨v', ι', rfl, hv, hk⟩
  have e1 := Den.is (.lit _ _) hv
  subst e1
  exact ⟨rfl, hk.os, hk.tape, hk.output, hk.size, hk.heap⟩
theorem fine_any' {J : Jb} {a : Option Addr} {n c : Nat} {w : World} (hJ : J.In 1000) (hn : n = J.sh.length) (h : Go.Proofs.Ytbebofmpimfbgaa.Rg w w.heap.size a J.sh) : Calls Try.prog 68 #[.agg (jobC J (.slice a n c))] w fun e w' => e = .returned (.int .i64 (fineI J J.tg)) ∧ Below w.heap.size w w' := by
  have hf : fineI J J.tg = if passI J.wi J.sh J.p1 J.p2 = 1 ∧ spoilI J.le J.tg = 2 then 1 else if passI J.wi J.sh J.p1 J.p2 = 2 ∨ spoilI J.le J.tg = 1 then 2 else 3 := rfl
  rw [hf]
  have c0 := @fcase0 J a n c w hJ hn h
  have c1 := @fcase1 J a n c w hJ hn h
  have c2 := @fcase2 J a n c w hJ hn h
  have c3 := @fcase3 J a n c w hJ hn h
  have c4 := @fcase4 J a n c w hJ hn h
  have c5 := @fcase5 J a n c w hJ hn h
  generalize passI J.wi J.sh J.p1 J.p2 = p at *
  generalize spoilI J.le J.tg = q at *
  simp only [beq_iff_eq, beq_eq_false_iff_ne] at *
  by_cases h1 : p = 1
  · by_cases h2 : q = 2
    · rw [if_pos ⟨h1, h2⟩]; exact c0 ⟨h1, h2⟩
    · rw [if_neg (fun x => h2 x.2)]
      by_cases h4 : q = 1
      · rw [if_pos (.inr h4)]; exact c1 ⟨h1, h2, by omega, h4⟩
      · rw [if_neg (by omega)]; exact c2 ⟨h1, h2, by omega, h4⟩
  · rw [if_neg (fun x => h1 x.1)]
    by_cases h3 : p = 2
    · rw [if_pos (.inl h3)]; exact c3 ⟨h1, h3⟩
    · by_cases h4 : q = 1
      · rw [if_pos (.inr h4)]; exact c4 ⟨h1, h3, h4⟩
      · rw [if_neg (by omega)]; exact c5 ⟨h1, h3, h4⟩
end
end Go.Sim
