/- Part 35 of the proof: JobRJF3, JobEJF, PFJF, Open, BkO. -/
import Derived.Test.YtadmcafbffjjbaaChecked
import Derived.ProofKit
import Derived.ChangeSlices
import Derived.Deep.SlicePairs
import Derived.Lib.SmallJoins
import Derived.Test.YtadmcafbffjjbaaB34
import Derived.Test.YtadmcafbffjjbaaB13
import Derived.Test.YtadmcafbffjjbaaB00
import Derived.Test.YtadmcafbffjjbaaB12
/- A job of a pot: one run. -/
namespace Go.Sim.JF
set_option linter.all false
open Go Go.RowKit Go.Proofs Go.Proofs.Ytadmcafbffjjbaa
set_option maxRecDepth 1000000
noncomputable section
abbrev asm3 : Asm := ⟨[((.func (.yield (nat_lit 21)) ⟨[wi0,wy139]⟩ ⟨[]⟩),true),((.func (.yield (nat_lit 21)) ⟨[wi0,(.func (.yield (nat_lit 2)) ⟨[wi0,wy139,wi1]⟩ ⟨[]⟩)]⟩ ⟨[]⟩),true),((.func (.yield (nat_lit 21)) ⟨[wi0,(.func (.yield (nat_lit 2)) ⟨[wi0,(.func (.yield (nat_lit 2)) ⟨[wi0,wy139,wi1]⟩ ⟨[]⟩),wi1]⟩ ⟨[]⟩)]⟩ ⟨[]⟩),true),((.func (.yield (nat_lit 21)) ⟨[wi0,(.func (.yield (nat_lit 2)) ⟨[wi0,(.func (.yield (nat_lit 2)) ⟨[wi0,(.func (.yield (nat_lit 2)) ⟨[wi0,wy139,wi1]⟩ ⟨[]⟩),wi1]⟩ ⟨[]⟩),wi1]⟩ ⟨[]⟩)]⟩ ⟨[]⟩),false)]⟩
def run3 : Chg := ⟨.func (.func (nat_lit 10)) ⟨[]⟩ ⟨[]⟩,[.pointer (some ⟨(nat_lit 0),(nat_lit 0),none⟩),.int .i64 (.ofNat (nat_lit 2)),.int .i64 (.ofNat (nat_lit 1))],⟨layB [.cells [sy .u64 (nat_lit 0)]] (nat_lit 0) .e,(nat_lit 1),(nat_lit 1),[]⟩,(.agg ⟨[(.func (.yield (nat_lit 6)) ⟨[wi0,wm59,(.func (.yield (nat_lit 2)) ⟨[wi0,(.func (.yield (nat_lit 1)) ⟨[wi0,wm15,wy103]⟩ ⟨[]⟩),wy105]⟩ ⟨[]⟩)]⟩ ⟨[]⟩),(.func (.yield (nat_lit 7)) ⟨[wi0,wi60,(.func (.yield (nat_lit 1)) ⟨[wi0,(.func (.yield (nat_lit 1)) ⟨[wi0,wm15,wy103]⟩ ⟨[]⟩),wy107]⟩ ⟨[]⟩)]⟩ ⟨[]⟩),(.func (.yield (nat_lit 6)) ⟨[wi0,wi0,(.func (.yield (nat_lit 2)) ⟨[wi0,(.func (.yield (nat_lit 1)) ⟨[wi0,wi20,wy108]⟩ ⟨[]⟩),wy110]⟩ ⟨[]⟩)]⟩ ⟨[]⟩),(.func (.yield (nat_lit 7)) ⟨[wi0,wi100,(.func (.yield (nat_lit 1)) ⟨[wi0,(.func (.yield (nat_lit 1)) ⟨[wi0,wi20,wy108]⟩ ⟨[]⟩),wy112]⟩ ⟨[]⟩)]⟩ ⟨[]⟩),(.func (.yield (nat_lit 6)) ⟨[wi0,wi0,(.func (.yield (nat_lit 2)) ⟨[wi0,(.func (.yield (nat_lit 1)) ⟨[wi0,wi20,wy113]⟩ ⟨[]⟩),wy115]⟩ ⟨[]⟩)]⟩ ⟨[]⟩),(.func (.yield (nat_lit 7)) ⟨[wi0,wi100,(.func (.yield (nat_lit 1)) ⟨[wi0,(.func (.yield (nat_lit 1)) ⟨[wi0,wi20,wy113]⟩ ⟨[]⟩),wy117]⟩ ⟨[]⟩)]⟩ ⟨[]⟩),(.func (.yield (nat_lit 6)) ⟨[wi0,wi0,(.func (.yield (nat_lit 2)) ⟨[wi0,(.func (.yield (nat_lit 1)) ⟨[wi0,wi1,wy118]⟩ ⟨[]⟩),wy120]⟩ ⟨[]⟩)]⟩ ⟨[]⟩),(.func (.yield (nat_lit 7)) ⟨[wi0,wi12,(.func (.yield (nat_lit 1)) ⟨[wi0,(.func (.yield (nat_lit 1)) ⟨[wi0,wi1,wy118]⟩ ⟨[]⟩),wy122]⟩ ⟨[]⟩)]⟩ ⟨[]⟩),(.func (.yield (nat_lit 6)) ⟨[wi0,wi0,(.func (.yield (nat_lit 2)) ⟨[wi0,(.func (.yield (nat_lit 1)) ⟨[wi0,wi1,wy123]⟩ ⟨[]⟩),wy125]⟩ ⟨[]⟩)]⟩ ⟨[]⟩),(.func (.yield (nat_lit 7)) ⟨[wi0,wi12,(.func (.yield (nat_lit 1)) ⟨[wi0,(.func (.yield (nat_lit 1)) ⟨[wi0,wi1,wy123]⟩ ⟨[]⟩),wy127]⟩ ⟨[]⟩)]⟩ ⟨[]⟩),(.func (.yield (nat_lit 6)) ⟨[wi0,wi0,(.func (.yield (nat_lit 2)) ⟨[wi0,wy128,wy130]⟩ ⟨[]⟩)]⟩ ⟨[]⟩),(.func (.yield (nat_lit 7)) ⟨[wi0,wi12,(.func (.yield (nat_lit 1)) ⟨[wi0,wy128,wy132]⟩ ⟨[]⟩)]⟩ ⟨[]⟩),(.func (.yield (nat_lit 6)) ⟨[wi0,wi0,(.func (.yield (nat_lit 2)) ⟨[wi0,wy133,wy135]⟩ ⟨[]⟩)]⟩ ⟨[]⟩),(.func (.yield (nat_lit 7)) ⟨[wi0,wi12,(.func (.yield (nat_lit 1)) ⟨[wi0,wy133,wy137]⟩ ⟨[]⟩)]⟩ ⟨[]⟩),(.func (.yield (nat_lit 1)) ⟨[wi0,wi10,wy138]⟩ ⟨[]⟩),(.slice (some ⟨(nat_lit 36),(nat_lit 0),none⟩) (nat_lit 3) (nat_lit 18446744073709551618)),(.func (.yield (nat_lit 1)) ⟨[wi0,wi1,wy100]⟩ ⟨[]⟩),wy102]⟩),(nat_lit 37),[(nat_lit 0)],[((nat_lit 0),(some (.cells [(.func (.yield (nat_lit 0)) ⟨[(.int .u64 (.ofNat (nat_lit 55)))]⟩ ⟨[]⟩)]))),((nat_lit 1),(some (.cells [(.func (.yield (nat_lit 6)) ⟨[wi0,wm59,(.func (.yield (nat_lit 2)) ⟨[wi0,(.func (.yield (nat_lit 1)) ⟨[wi0,wm15,wy103]⟩ ⟨[]⟩),wy105]⟩ ⟨[]⟩)]⟩ ⟨[]⟩),(.func (.yield (nat_lit 7)) ⟨[wi0,wi60,(.func (.yield (nat_lit 1)) ⟨[wi0,(.func (.yield (nat_lit 1)) ⟨[wi0,wm15,wy103]⟩ ⟨[]⟩),wy107]⟩ ⟨[]⟩)]⟩ ⟨[]⟩),(.func (.yield (nat_lit 6)) ⟨[wi0,wi0,(.func (.yield (nat_lit 2)) ⟨[wi0,(.func (.yield (nat_lit 1)) ⟨[wi0,wi20,wy108]⟩ ⟨[]⟩),wy110]⟩ ⟨[]⟩)]⟩ ⟨[]⟩),(.func (.yield (nat_lit 7)) ⟨[wi0,wi100,(.func (.yield (nat_lit 1)) ⟨[wi0,(.func (.yield (nat_lit 1)) ⟨[wi0,wi20,wy108]⟩ ⟨[]⟩),wy112]⟩ ⟨[]⟩)]⟩ ⟨[]⟩),(.func (.yield (nat_lit 6)) ⟨[wi0,wi0,(.func (.yield (nat_lit 2)) ⟨[wi0,(.func (.yield (nat_lit 1)) ⟨[wi0,wi20,wy113]⟩ ⟨[]⟩),wy115]⟩ ⟨[]⟩)]⟩ ⟨[]⟩),(.func (.yield (nat_lit 7)) ⟨[wi0,wi100,(.func (.yield (nat_lit 1)) ⟨[wi0,(.func (.yield (nat_lit 1)) ⟨[wi0,wi20,wy113]⟩ ⟨[]⟩),wy117]⟩ ⟨[]⟩)]⟩ ⟨[]⟩),(.func (.yield (nat_lit 6)) ⟨[wi0,wi0,(.func (.yield (nat_lit 2)) ⟨[wi0,(.func (.yield (nat_lit 1)) ⟨[wi0,wi1,wy118]⟩ ⟨[]⟩),wy120]⟩ ⟨[]⟩)]⟩ ⟨[]⟩),(.func (.yield (nat_lit 7)) ⟨[wi0,wi12,(.func (.yield (nat_lit 1)) ⟨[wi0,(.func (.yield (nat_lit 1)) ⟨[wi0,wi1,wy118]⟩ ⟨[]⟩),wy122]⟩ ⟨[]⟩)]⟩ ⟨[]⟩),(.func (.yield (nat_lit 6)) ⟨[wi0,wi0,(.func (.yield (nat_lit 2)) ⟨[wi0,(.func (.yield (nat_lit 1)) ⟨[wi0,wi1,wy123]⟩ ⟨[]⟩),wy125]⟩ ⟨[]⟩)]⟩ ⟨[]⟩),(.func (.yield (nat_lit 7)) ⟨[wi0,wi12,(.func (.yield (nat_lit 1)) ⟨[wi0,(.func (.yield (nat_lit 1)) ⟨[wi0,wi1,wy123]⟩ ⟨[]⟩),wy127]⟩ ⟨[]⟩)]⟩ ⟨[]⟩),(.func (.yield (nat_lit 6)) ⟨[wi0,wi0,(.func (.yield (nat_lit 2)) ⟨[wi0,wy128,wy130]⟩ ⟨[]⟩)]⟩ ⟨[]⟩),(.func (.yield (nat_lit 7)) ⟨[wi0,wi12,(.func (.yield (nat_lit 1)) ⟨[wi0,wy128,wy132]⟩ ⟨[]⟩)]⟩ ⟨[]⟩),(.func (.yield (nat_lit 6)) ⟨[wi0,wi0,(.func (.yield (nat_lit 2)) ⟨[wi0,wy133,wy135]⟩ ⟨[]⟩)]⟩ ⟨[]⟩),(.func (.yield (nat_lit 7)) ⟨[wi0,wi12,(.func (.yield (nat_lit 1)) ⟨[wi0,wy133,wy137]⟩ ⟨[]⟩)]⟩ ⟨[]⟩),(.func (.yield (nat_lit 1)) ⟨[wi0,wi10,wy138]⟩ ⟨[]⟩),(.slice (some ⟨(nat_lit 36),(nat_lit 0),none⟩) (nat_lit 3) (nat_lit 18446744073709551618)),(.func (.yield (nat_lit 1)) ⟨[wi0,wi1,wy100]⟩ ⟨[]⟩),wy102]))),((nat_lit 3),(some (.cells [(.func (.yield (nat_lit 6)) ⟨[wi0,wm59,(.func (.yield (nat_lit 2)) ⟨[wi0,(.func (.yield (nat_lit 1)) ⟨[wi0,wm15,wy103]⟩ ⟨[]⟩),wy105]⟩ ⟨[]⟩)]⟩ ⟨[]⟩),(.func (.yield (nat_lit 7)) ⟨[wi0,wi60,(.func (.yield (nat_lit 1)) ⟨[wi0,(.func (.yield (nat_lit 1)) ⟨[wi0,wm15,wy103]⟩ ⟨[]⟩),wy107]⟩ ⟨[]⟩)]⟩ ⟨[]⟩),(.func (.yield (nat_lit 6)) ⟨[wi0,wi0,(.func (.yield (nat_lit 2)) ⟨[wi0,(.func (.yield (nat_lit 1)) ⟨[wi0,wi20,wy108]⟩ ⟨[]⟩),wy110]⟩ ⟨[]⟩)]⟩ ⟨[]⟩),(.func (.yield (nat_lit 7)) ⟨[wi0,wi100,(.func (.yield (nat_lit 1)) ⟨[wi0,(.func (.yield (nat_lit 1)) ⟨[wi0,wi20,wy108]⟩ ⟨[]⟩),wy112]⟩ ⟨[]⟩)]⟩ ⟨[]⟩),(.func (.yield (nat_lit 6)) ⟨[wi0,wi0,(.func (.yield (nat_lit 2)) ⟨[wi0,(.func (.yield (nat_lit 1)) ⟨[wi0,wi20,wy113]⟩ ⟨[]⟩),wy115]⟩ ⟨[]⟩)]⟩ ⟨[]⟩),(.func (.yield (nat_lit 7)) ⟨[wi0,wi100,(.func (.yield (nat_lit 1)) ⟨[wi0,(.func (.yield (nat_lit 1)) ⟨[wi0,wi20,wy113]⟩ ⟨[]⟩),wy117]⟩ ⟨[]⟩)]⟩ ⟨[]⟩),(.func (.yield (nat_lit 6)) ⟨[wi0,wi0,(.func (.yield (nat_lit 2)) ⟨[wi0,(.func (.yield (nat_lit 1)) ⟨[wi0,wi1,wy118]⟩ ⟨[]⟩),wy120]⟩ ⟨[]⟩)]⟩ ⟨[]⟩),(.func (.yield (nat_lit 7)) ⟨[wi0,wi12,(.func (.yield (nat_lit 1)) ⟨[wi0,(.func (.yield (nat_lit 1)) ⟨[wi0,wi1,wy118]⟩ ⟨[]⟩),wy122]⟩ ⟨[]⟩)]⟩ ⟨[]⟩),(.func (.yield (nat_lit 6)) ⟨[wi0,wi0,(.func (.yield (nat_lit 2)) ⟨[wi0,(.func (.yield (nat_lit 1)) ⟨[wi0,wi1,wy123]⟩ ⟨[]⟩),wy125]⟩ ⟨[]⟩)]⟩ ⟨[]⟩),(.func (.yield (nat_lit 7)) ⟨[wi0,wi12,(.func (.yield (nat_lit 1)) ⟨[wi0,(.func (.yield (nat_lit 1)) ⟨[wi0,wi1,wy123]⟩ ⟨[]⟩),wy127]⟩ ⟨[]⟩)]⟩ ⟨[]⟩),(.func (.yield (nat_lit 6)) ⟨[wi0,wi0,(.func (.yield (nat_lit 2)) ⟨[wi0,wy128,wy130]⟩ ⟨[]⟩)]⟩ ⟨[]⟩),(.func (.yield (nat_lit 7)) ⟨[wi0,wi12,(.func (.yield (nat_lit 1)) ⟨[wi0,wy128,wy132]⟩ ⟨[]⟩)]⟩ ⟨[]⟩),(.func (.yield (nat_lit 6)) ⟨[wi0,wi0,(.func (.yield (nat_lit 2)) ⟨[wi0,wy133,wy135]⟩ ⟨[]⟩)]⟩ ⟨[]⟩),(.func (.yield (nat_lit 7)) ⟨[wi0,wi12,(.func (.yield (nat_lit 1)) ⟨[wi0,wy133,wy137]⟩ ⟨[]⟩)]⟩ ⟨[]⟩),(.func (.yield (nat_lit 1)) ⟨[wi0,wi10,wy138]⟩ ⟨[]⟩),(.slice (some ⟨(nat_lit 36),(nat_lit 0),none⟩) (nat_lit 3) (nat_lit 18446744073709551618)),(.func (.yield (nat_lit 1)) ⟨[wi0,wi1,wy100]⟩ ⟨[]⟩),wy102]))),((nat_lit 5),none),((nat_lit 9),none),((nat_lit 25),none),((nat_lit 13),none),((nat_lit 21),(some (.cells [(.func (.yield (nat_lit 6)) ⟨[wi0,wm59,(.func (.yield (nat_lit 2)) ⟨[wi0,(.func (.yield (nat_lit 1)) ⟨[wi0,wm2,wy145]⟩ ⟨[]⟩),wy147]⟩ ⟨[]⟩)]⟩ ⟨[]⟩),(.func (.yield (nat_lit 7)) ⟨[wi0,wi60,(.func (.yield (nat_lit 1)) ⟨[wi0,(.func (.yield (nat_lit 1)) ⟨[wi0,wm2,wy145]⟩ ⟨[]⟩),wy149]⟩ ⟨[]⟩)]⟩ ⟨[]⟩)]))),((nat_lit 2),(some (.cells [wi0,wi1,wy101]))),((nat_lit 4),none),((nat_lit 8),none),((nat_lit 16),none),((nat_lit 32),(some (.cells [(.func (.yield (nat_lit 6)) ⟨[wi0,wm59,(.func (.yield (nat_lit 2)) ⟨[wi0,(.func (.yield (nat_lit 1)) ⟨[wi0,wm2,wy150]⟩ ⟨[]⟩),wy152]⟩ ⟨[]⟩)]⟩ ⟨[]⟩),(.func (.yield (nat_lit 7)) ⟨[wi0,wi60,(.func (.yield (nat_lit 1)) ⟨[wi0,(.func (.yield (nat_lit 1)) ⟨[wi0,wm2,wy150]⟩ ⟨[]⟩),wy154]⟩ ⟨[]⟩)]⟩ ⟨[]⟩)]))),((nat_lit 12),none),((nat_lit 20),none),((nat_lit 36),(some (.cells [(.func (.yield (nat_lit 6)) ⟨[wi0,wm59,(.func (.yield (nat_lit 2)) ⟨[wi0,(.func (.yield (nat_lit 1)) ⟨[wi0,wm2,wy140]⟩ ⟨[]⟩),wy142]⟩ ⟨[]⟩)]⟩ ⟨[]⟩),(.func (.yield (nat_lit 7)) ⟨[wi0,wi60,(.func (.yield (nat_lit 1)) ⟨[wi0,(.func (.yield (nat_lit 1)) ⟨[wi0,wm2,wy140]⟩ ⟨[]⟩),wy144]⟩ ⟨[]⟩)]⟩ ⟨[]⟩),(.func (.yield (nat_lit 6)) ⟨[wi0,wm59,(.func (.yield (nat_lit 2)) ⟨[wi0,(.func (.yield (nat_lit 1)) ⟨[wi0,wm2,wy145]⟩ ⟨[]⟩),wy147]⟩ ⟨[]⟩)]⟩ ⟨[]⟩),(.func (.yield (nat_lit 7)) ⟨[wi0,wi60,(.func (.yield (nat_lit 1)) ⟨[wi0,(.func (.yield (nat_lit 1)) ⟨[wi0,wm2,wy145]⟩ ⟨[]⟩),wy149]⟩ ⟨[]⟩)]⟩ ⟨[]⟩),(.func (.yield (nat_lit 6)) ⟨[wi0,wm59,(.func (.yield (nat_lit 2)) ⟨[wi0,(.func (.yield (nat_lit 1)) ⟨[wi0,wm2,wy150]⟩ ⟨[]⟩),wy152]⟩ ⟨[]⟩)]⟩ ⟨[]⟩),(.func (.yield (nat_lit 7)) ⟨[wi0,wi60,(.func (.yield (nat_lit 1)) ⟨[wi0,(.func (.yield (nat_lit 1)) ⟨[wi0,wm2,wy150]⟩ ⟨[]⟩),wy154]⟩ ⟨[]⟩)]⟩ ⟨[]⟩)]))),((nat_lit 6),none),((nat_lit 10),(some (.cells [(.func (.yield (nat_lit 6)) ⟨[wi0,wm59,(.func (.yield (nat_lit 2)) ⟨[wi0,(.func (.yield (nat_lit 1)) ⟨[wi0,wm2,wy140]⟩ ⟨[]⟩),wy142]⟩ ⟨[]⟩)]⟩ ⟨[]⟩),(.func (.yield (nat_lit 7)) ⟨[wi0,wi60,(.func (.yield (nat_lit 1)) ⟨[wi0,(.func (.yield (nat_lit 1)) ⟨[wi0,wm2,wy140]⟩ ⟨[]⟩),wy144]⟩ ⟨[]⟩)]⟩ ⟨[]⟩)]))),((nat_lit 14),none)]⟩
theorem run3_ok {s : Int} (hS : @SymOK (jobRho s) asm3) : @CFact (jobRho s) Try.prog run3 := @cfact (jobRho s) asm3 hS Try.prog (@mixed (jobRho s) asm3 hS) tab (@tab_ok (jobRho s) asm3 hS) jobKb (@jobKb_ok asm3 s hS) run3 10000 (by kernel_rfl) (by kernel_rfl)
end
end Go.Sim.JF
/- JobOf(p, 2, 1), whatever the pot. -/
namespace Go.Sim.JF
set_option linter.all false
open Go Go.RowKit Go.Proofs Go.Proofs.Ytadmcafbffjjbaa
set_option maxRecDepth 1000000
noncomputable section
theorem ltJ [Rho] [Asm] [SymOK] {a b : Value} {v : Bool} {k : IntKind} {x y : Int} (h : DenB (nd 21 a [b]) v) (ha : Den a k x) (hb : Den b k y) : v = decide (x < y) := by
  cases h with
  | lt h1 h2 =>
    obtain ⟨rfl,rfl⟩ := ha.one h1
    obtain ⟨_,rfl⟩ := hb.one h2
    rfl
inductive DLs [Rho] : List Value → List Int → Prop
  | nil : DLs [] []
  | cons {v : Value} {x : Int} {l : List Value} {xs : List Int} : Den v .i64 x → DLs l xs → DLs (v :: l) (x :: xs)
theorem DLs.only [Rho] [Asm] [SymOK] {l : List Value} {xs : List Int} (h : DLs l xs) : ∀ {ι : Io} {l' : List Value},LR ι l l' → l' = xs.map fun n => .int .i64 n := by
  induction h with
  | nil => intro ι l' h; cases h; rfl
  | cons hd _ ih =>
    intro ι l' h
    cases h with
    | cons hv hl => rw [hd.only hv,ih hl]; rfl
theorem LR.app [Rho] {ι : Io} : ∀ {a b l : List Value},LR ι (a ++ b) l → ∃ x y,l = x ++ y ∧ LR ι a x ∧ LR ι b y
  | [],b,l,h => ⟨[],l,rfl,.nil,h⟩
  | v :: a,b,l,h => by
    cases h with
    | cons hv hl =>
      obtain ⟨x,y,rfl,h1,h2⟩ := LR.app (a := a) hl
      exact ⟨_ :: x,y,rfl,.cons hv h1,h2⟩
/-- The pot's block alone has been changed. -/
structure Jk (b : Nat) (w w' : World) : Prop where
  os : w'.os = w.os
  tape : w'.tape = w.tape
  output : w'.output = w.output
  size : w.heap.size ≤ w'.heap.size
  heap : ∀ k,k < w.heap.size → k ≠ b → w'.heap[k]? = w.heap[k]?
def potI (b : Nat) : Io := fun x => match x with
  | 0 => some (b,1)
  | _ + 1 => none
def potSt : St := ⟨layB [.cells [sy .u64 (nat_lit 0)]] (nat_lit 0) .e,(nat_lit 1),(nat_lit 1),[]⟩
theorem potSt_get [Rho] [Asm] [SymOK] (x : Nat) : potSt.h.get x = if x = 0 then some (.cells [sy .u64 (nat_lit 0)]) else none := by
  show (layB [.cells [sy .u64 (nat_lit 0)]] 0 .e).get x = _
  rw [layB_get (by decide) x]
  by_cases h : x = 0
  · subst h; rfl
  · rw [if_neg h,if_neg (by simp; omega)]; exact Tr.get_e _
theorem potI_inv {b x r c : Nat} (h : potI b x = some (r,c)) : x = 0 ∧ r = b ∧ c = 1 := by
  cases x with
  | zero => cases h; exact ⟨rfl,rfl,rfl⟩
  | succ x => cases h
theorem pot_wr [Rho] [Asm] [SymOK] {s : Int} (hs : Rho.ρ (nat_lit 0) = s) (hB : Rho.B = 0) {b : Nat} {t : TypeId} {w : World} (hb : Bk w b t #[.int .u64 s]) : WR Try.prog (potI b) potSt w :=
  WR.mk
    (fun x o hx => by
      rw [potSt_get] at hx
      split at hx
      · rename_i e
        subst e
        cases hx
        exact ⟨b,1,_,rfl,hb,#[.int .u64 s],t,rfl,rfl,[.int .u64 s],[],rfl,.cons (by rw [← hs]; exact .sym (.sym _ _)) .nil⟩
      · cases hx)
    (fun x y r c c' _ _ h1 h2 => by rw [(potI_inv h1).1,(potI_inv h2).1])
    (fun x r c h => by obtain ⟨_,rfl,_⟩ := potI_inv h; exact hb.lt)
    (fun x r h => by obtain ⟨r,c⟩ := r; rw [(potI_inv h).1]; exact Nat.zero_lt_one)
    (by show (1 : Nat) ≤ limH; decide)
    (Nat.le_refl _) (fun _ h => by cases h)
    (fun g c hg => by
      have := gsize_lt hg
      have e : Try.prog.globals.size = 0 := by kernel_rfl
      omega)
    ⟨fun _ _ _ _ => .inr (by rw [hB]; exact Nat.zero_le _),by rw [hB]; exact Nat.zero_le _,fun k _ h => by rw [hB] at h; exact absurd h (Nat.not_lt_zero _)⟩
theorem newIn {ι' : Io} {b : Nat} {w : World} {P : Nat → Nat → Prop} (h : ∀ x r c,potI b x = none → ι' x = some (r,c) → r < w.heap.size → ∃ b0 c0,potI b b0 = some (r,c0) ∧ P b0 c0) (x r c : Nat) (hx : ι' x = some (r,c)) (h0 : x ≠ 0) : w.heap.size ≤ r ∨ r = b := by
  by_cases hr : w.heap.size ≤ r
  · exact .inl hr
  · have e : potI b x = none := by
      cases x with
      | zero => exact absurd rfl h0
      | succ x => rfl
    obtain ⟨b0,c0,h1,_⟩ := h x r c e hx (by omega)
    exact .inr (potI_inv h1).2.1
theorem job_enter [Rho] [Asm] [SymOK] {s : Int} (hs : Rho.ρ (nat_lit 0) = s) (hB : Rho.B = 0) {b : Nat} {t : TypeId} {w : World} (hb : Bk w b t #[.int .u64 s]) {v : Value} {n1 : Nat} {upd : List (Nat × Option LO)} (hk : CFact Try.prog ⟨.func (.func (nat_lit 10)) ⟨[]⟩ ⟨[]⟩,[.pointer (some ⟨(nat_lit 0),(nat_lit 0),none⟩),.int .i64 (.ofNat (nat_lit 2)),.int .i64 (.ofNat (nat_lit 1))],potSt,v,n1,[(nat_lit 0)],upd⟩) :
    Calls Try.prog 10 #[.pointer (some ⟨b,0,none⟩),.int .i64 2,.int .i64 1] w fun e w' => ∃ v' ι',e = .returned v' ∧ VR ι' v v' ∧ (∀ x o,(applyU upd potSt.h).get x = some o → ∃ r c y,ι' x = some (r,c) ∧ w'.heap[r]? = some y ∧ OR Try.prog ι' c o y) ∧ (∀ x r c,ι' x = some (r,c) → r < w'.heap.size) ∧ ι' (nat_lit 0) = some (b,1) ∧ (∀ x r c,ι' x = some (r,c) → x ≠ 0 → w.heap.size ≤ r ∨ r = b) ∧ Jk b w w' := by
  rcases hk.2 (potI b) w (.func (.func (nat_lit 10)) #[] #[]) [.pointer (some ⟨b,0,none⟩),.int .i64 2,.int .i64 1] (.func (fun _ e => by cases e) .nil .nil) (.cons (.ptr (b := 0) (c := 1) rfl) (.cons (.int _ _) (.cons (.int _ _) .nil))) (pot_wr hs hB hb) with ⟨g,xs,ys,fn,hf,hfn,hbd,hname,hcall⟩ | ⟨r,lp,hf,_⟩
  · cases hf
    have hcall := hcall 0
    simp only [List.nil_append,List.append_nil] at hcall
    refine callsIn_wide.1 (CallsIn.mono hcall ?_)
    rintro e w' ⟨v',rfl,ι',hv,hp⟩
    refine ⟨v',ι',rfl,hv,hp.wr.obj,hp.wr.bound,hp.ext _ _ rfl,(fun x r c hx hx0 => newIn hp.newold x r c hx hx0),hp.os,hp.tape,hp.output,hp.size,fun k hk hkb => hp.frame k hk fun x c hx => ?_⟩
    exact absurd (potI_inv hx).2.1 hkb
  · cases hf
theorem pot_of [Rho] [Asm] [SymOK] {ι : Io} {w : World} {r : Nat} {cs : Array Value} {t : TypeId} {l' tl : List Value} {i : Nat} (h : w.heap[r]? = some (.cells cs t (0,0))) (hs : cs.size = 1) (hc : cs.toList = l' ++ tl) (hl : LR ι [sy .u64 i] l') : ∃ t s,Bk w r t #[.int .u64 s] := by
  cases hl with
  | cons hv hl =>
    cases hl
    have hv := sy_inv hv
    subst hv
    refine ⟨t,Rho.ρ i,?_⟩
    have e : cs = #[.int .u64 (Rho.ρ i)] := by
      obtain ⟨q⟩ := cs
      cases tl with
      | nil => simpa using hc
      | cons x tl => have e := congrArg List.length hc; simp at hs e; omega
    rw [← e]
    exact h
theorem slUI [Rho] {ι : Io} {b n z : Nat} {v' : Value} (h : VR ι (.slice (some ⟨b,(nat_lit 0),none⟩) n z) v') : ∃ r c k,v' = .slice (some ⟨r,0,none⟩) n k ∧ ι b = some (r,c) := by
  generalize hq : z = q at h
  cases h with
  | sl hb hk => exact ⟨_,_,_,rfl,hb⟩
  | slU hb h1 h2 h3 h4 => exact ⟨_,_,_,rfl,hb⟩
theorem rg_of {w : World} {r : Nat} {cs : Array Value} {t : TypeId} {l : List R2} {tl : List Value} {B : Nat} (h : w.heap[r]? = some (.cells cs t (0,0))) (hc : cs.toList = rgCells l ++ tl) (hB : r < B) : Go.Proofs.Ytadmcafbffjjbaa.Rg w B (some ⟨r,0,none⟩) l := fun k q hq => by
  obtain ⟨h1,h2⟩ := rgCells_at l k q hq
  have at_ : ∀ i v,(rgCells l)[i]? = some v → w.cell? ⟨r,0 + i,none⟩ = some v := fun i v hv => by
    rw [cell_of_row w r (0 + i) cs t (0,0) h,Nat.zero_add,← Array.getElem?_toList,hc]
    rw [List.getElem?_append_left (List.getElem?_eq_some_iff.1 hv).1]
    exact hv
  exact ⟨r,0,rfl,hB,at_ _ _ h1,at_ _ _ h2⟩
/-- What JobOf hands back. -/
def JobEnd (s : Int) (b n : Nat) (w : World) (e : Ending) (w' : World) : Prop :=
  ∃ a c,e = .returned (.agg (jobC (jobJ s n) (.slice a n c))) ∧ (∀ q o,a = some ⟨q,o,none⟩ → w.heap.size ≤ q ∨ q = b) ∧ Go.Proofs.Ytadmcafbffjjbaa.Rg w' w'.heap.size a (jobS s |>.take n) ∧ (∃ t s,Bk w' b t #[.int .u64 s]) ∧ Jk b w w'
theorem sym0 {s : Int} (h : res39 s = 0) : @SymOK (jobRho s) asm0 := @SymOK.mk (jobRho s) asm0 fun c hc b hb => by
  have hr : @Rho.ρ (jobRho s) (nat_lit 139) = 0 := h
  replace hc : c = ((.func (.yield (nat_lit 21)) ⟨[wi0,wy139]⟩ ⟨[]⟩),false) := by have hc : c ∈ [((.func (.yield (nat_lit 21)) ⟨[wi0,wy139]⟩ ⟨[]⟩),false)] := hc; simpa only [List.mem_cons,List.not_mem_nil,or_false] using hc
  rcases hc with rfl
  · letI := jobRho s; letI := Asm.none; haveI : SymOK := SymOK.none; have e := ltJ (k := .i64) hb (.lit _ _) (.sym _ _); rw [e,hr]; decide
theorem job0 {s : Int} {b : Nat} {t : TypeId} {w : World} (hb : Bk w b t #[.int .u64 s]) (h : res39 s = 0) : Calls Try.prog 10 #[.pointer (some ⟨b,0,none⟩),.int .i64 2,.int .i64 1] w (JobEnd s b 0 w) := by
  letI := jobRho s
  letI := asm0
  haveI := sym0 h
  refine (job_enter (s := s) rfl rfl hb (run0_ok (sym0 h))).mono ?_
  rintro e w' ⟨v',ι',rfl,hv,hobj,hbd,hι0,hfr,hk⟩
  have hpot : ∃ t s,Bk w' b t #[.int .u64 s] := by
    obtain ⟨r',c',o,e1,e2,cs,t',rfl,e3,l',tl,e4,e5⟩ := hobj (nat_lit 0) (.cells [(.func (.yield (nat_lit 0)) ⟨[(.int .u64 (.ofNat (nat_lit 40)))]⟩ ⟨[]⟩)]) (by kernel_rfl)
    rw [hι0] at e1
    cases e1
    exact pot_of e2 e3 e4 e5
  obtain ⟨l,rfl,hl⟩ := hv.aggI
  obtain ⟨x,y,rfl,h1,h2⟩ := LR.app (a := [(.func (.yield (nat_lit 6)) ⟨[wi0,wm59,(.func (.yield (nat_lit 2)) ⟨[wi0,(.func (.yield (nat_lit 1)) ⟨[wi0,wm15,wy103]⟩ ⟨[]⟩),wy105]⟩ ⟨[]⟩)]⟩ ⟨[]⟩),(.func (.yield (nat_lit 7)) ⟨[wi0,wi60,(.func (.yield (nat_lit 1)) ⟨[wi0,(.func (.yield (nat_lit 1)) ⟨[wi0,wm15,wy103]⟩ ⟨[]⟩),wy107]⟩ ⟨[]⟩)]⟩ ⟨[]⟩),(.func (.yield (nat_lit 6)) ⟨[wi0,wi0,(.func (.yield (nat_lit 2)) ⟨[wi0,(.func (.yield (nat_lit 1)) ⟨[wi0,wi20,wy108]⟩ ⟨[]⟩),wy110]⟩ ⟨[]⟩)]⟩ ⟨[]⟩),(.func (.yield (nat_lit 7)) ⟨[wi0,wi100,(.func (.yield (nat_lit 1)) ⟨[wi0,(.func (.yield (nat_lit 1)) ⟨[wi0,wi20,wy108]⟩ ⟨[]⟩),wy112]⟩ ⟨[]⟩)]⟩ ⟨[]⟩),(.func (.yield (nat_lit 6)) ⟨[wi0,wi0,(.func (.yield (nat_lit 2)) ⟨[wi0,(.func (.yield (nat_lit 1)) ⟨[wi0,wi20,wy113]⟩ ⟨[]⟩),wy115]⟩ ⟨[]⟩)]⟩ ⟨[]⟩),(.func (.yield (nat_lit 7)) ⟨[wi0,wi100,(.func (.yield (nat_lit 1)) ⟨[wi0,(.func (.yield (nat_lit 1)) ⟨[wi0,wi20,wy113]⟩ ⟨[]⟩),wy117]⟩ ⟨[]⟩)]⟩ ⟨[]⟩),(.func (.yield (nat_lit 6)) ⟨[wi0,wi0,(.func (.yield (nat_lit 2)) ⟨[wi0,(.func (.yield (nat_lit 1)) ⟨[wi0,wi1,wy118]⟩ ⟨[]⟩),wy120]⟩ ⟨[]⟩)]⟩ ⟨[]⟩),(.func (.yield (nat_lit 7)) ⟨[wi0,wi12,(.func (.yield (nat_lit 1)) ⟨[wi0,(.func (.yield (nat_lit 1)) ⟨[wi0,wi1,wy118]⟩ ⟨[]⟩),wy122]⟩ ⟨[]⟩)]⟩ ⟨[]⟩),(.func (.yield (nat_lit 6)) ⟨[wi0,wi0,(.func (.yield (nat_lit 2)) ⟨[wi0,(.func (.yield (nat_lit 1)) ⟨[wi0,wi1,wy123]⟩ ⟨[]⟩),wy125]⟩ ⟨[]⟩)]⟩ ⟨[]⟩),(.func (.yield (nat_lit 7)) ⟨[wi0,wi12,(.func (.yield (nat_lit 1)) ⟨[wi0,(.func (.yield (nat_lit 1)) ⟨[wi0,wi1,wy123]⟩ ⟨[]⟩),wy127]⟩ ⟨[]⟩)]⟩ ⟨[]⟩),(.func (.yield (nat_lit 6)) ⟨[wi0,wi0,(.func (.yield (nat_lit 2)) ⟨[wi0,wy128,wy130]⟩ ⟨[]⟩)]⟩ ⟨[]⟩),(.func (.yield (nat_lit 7)) ⟨[wi0,wi12,(.func (.yield (nat_lit 1)) ⟨[wi0,wy128,wy132]⟩ ⟨[]⟩)]⟩ ⟨[]⟩),(.func (.yield (nat_lit 6)) ⟨[wi0,wi0,(.func (.yield (nat_lit 2)) ⟨[wi0,wy133,wy135]⟩ ⟨[]⟩)]⟩ ⟨[]⟩),(.func (.yield (nat_lit 7)) ⟨[wi0,wi12,(.func (.yield (nat_lit 1)) ⟨[wi0,wy133,wy137]⟩ ⟨[]⟩)]⟩ ⟨[]⟩),(.func (.yield (nat_lit 1)) ⟨[wi0,wi10,wy138]⟩ ⟨[]⟩)]) (b := (.slice none (nat_lit 0) (nat_lit 0)) :: [(.func (.yield (nat_lit 1)) ⟨[wi0,wi1,wy100]⟩ ⟨[]⟩),wy102]) hl
  have e1 := DLs.only (.cons (.max (.lit _ _) (.sub (.add (.lit _ _) (.sym _ _)) (.sym _ _))) (.cons (.min (.lit _ _) (.add (.add (.lit _ _) (.sym _ _)) (.sym _ _))) (.cons (.max (.lit _ _) (.sub (.add (.lit _ _) (.sym _ _)) (.sym _ _))) (.cons (.min (.lit _ _) (.add (.add (.lit _ _) (.sym _ _)) (.sym _ _))) (.cons (.max (.lit _ _) (.sub (.add (.lit _ _) (.sym _ _)) (.sym _ _))) (.cons (.min (.lit _ _) (.add (.add (.lit _ _) (.sym _ _)) (.sym _ _))) (.cons (.max (.lit _ _) (.sub (.add (.lit _ _) (.sym _ _)) (.sym _ _))) (.cons (.min (.lit _ _) (.add (.add (.lit _ _) (.sym _ _)) (.sym _ _))) (.cons (.max (.lit _ _) (.sub (.add (.lit _ _) (.sym _ _)) (.sym _ _))) (.cons (.min (.lit _ _) (.add (.add (.lit _ _) (.sym _ _)) (.sym _ _))) (.cons (.max (.lit _ _) (.sub (.sym _ _) (.sym _ _))) (.cons (.min (.lit _ _) (.add (.sym _ _) (.sym _ _))) (.cons (.max (.lit _ _) (.sub (.sym _ _) (.sym _ _))) (.cons (.min (.lit _ _) (.add (.sym _ _) (.sym _ _))) (.cons (.add (.lit _ _) (.sym _ _)) .nil))))))))))))))) h1
  cases h2 with
  | cons hs h3 =>
    have e3 := DLs.only (.cons (.add (.lit _ _) (.sym _ _)) (.cons (.sym _ _) .nil)) h3
    subst e1 e3
    have hsl := hs.sl0I (by decide)
    subst hsl
    exact ⟨none,0,rfl,(fun q o h => by cases h),Go.Proofs.Ytadmcafbffjjbaa.Rg.nil _ _ _,hpot,hk⟩
theorem sym1 {s : Int} (h : res39 s = 1) : @SymOK (jobRho s) asm1 := @SymOK.mk (jobRho s) asm1 fun c hc b hb => by
  have hr : @Rho.ρ (jobRho s) (nat_lit 139) = 1 := h
  replace hc : c = ((.func (.yield (nat_lit 21)) ⟨[wi0,wy139]⟩ ⟨[]⟩),true) ∨ c = ((.func (.yield (nat_lit 21)) ⟨[wi0,(.func (.yield (nat_lit 2)) ⟨[wi0,wy139,wi1]⟩ ⟨[]⟩)]⟩ ⟨[]⟩),false) := by have hc : c ∈ [((.func (.yield (nat_lit 21)) ⟨[wi0,wy139]⟩ ⟨[]⟩),true),((.func (.yield (nat_lit 21)) ⟨[wi0,(.func (.yield (nat_lit 2)) ⟨[wi0,wy139,wi1]⟩ ⟨[]⟩)]⟩ ⟨[]⟩),false)] := hc; simpa only [List.mem_cons,List.not_mem_nil,or_false] using hc
  rcases hc with rfl | rfl
  · letI := jobRho s; letI := Asm.none; haveI : SymOK := SymOK.none; have e := ltJ (k := .i64) hb (.lit _ _) (.sym _ _); rw [e,hr]; decide
  · letI := jobRho s; letI := Asm.none; haveI : SymOK := SymOK.none; have e := ltJ (k := .i64) hb (.lit _ _) (.sub (.sym _ _) (.lit _ _)); rw [e,hr]; decide
theorem job1 {s : Int} {b : Nat} {t : TypeId} {w : World} (hb : Bk w b t #[.int .u64 s]) (h : res39 s = 1) : Calls Try.prog 10 #[.pointer (some ⟨b,0,none⟩),.int .i64 2,.int .i64 1] w (JobEnd s b 1 w) := by
  letI := jobRho s
  letI := asm1
  haveI := sym1 h
  refine (job_enter (s := s) rfl rfl hb (run1_ok (sym1 h))).mono ?_
  rintro e w' ⟨v',ι',rfl,hv,hobj,hbd,hι0,hfr,hk⟩
  have hpot : ∃ t s,Bk w' b t #[.int .u64 s] := by
    obtain ⟨r',c',o,e1,e2,cs,t',rfl,e3,l',tl,e4,e5⟩ := hobj (nat_lit 0) (.cells [(.func (.yield (nat_lit 0)) ⟨[(.int .u64 (.ofNat (nat_lit 45)))]⟩ ⟨[]⟩)]) (by kernel_rfl)
    rw [hι0] at e1
    cases e1
    exact pot_of e2 e3 e4 e5
  obtain ⟨l,rfl,hl⟩ := hv.aggI
  obtain ⟨x,y,rfl,h1,h2⟩ := LR.app (a := [(.func (.yield (nat_lit 6)) ⟨[wi0,wm59,(.func (.yield (nat_lit 2)) ⟨[wi0,(.func (.yield (nat_lit 1)) ⟨[wi0,wm15,wy103]⟩ ⟨[]⟩),wy105]⟩ ⟨[]⟩)]⟩ ⟨[]⟩),(.func (.yield (nat_lit 7)) ⟨[wi0,wi60,(.func (.yield (nat_lit 1)) ⟨[wi0,(.func (.yield (nat_lit 1)) ⟨[wi0,wm15,wy103]⟩ ⟨[]⟩),wy107]⟩ ⟨[]⟩)]⟩ ⟨[]⟩),(.func (.yield (nat_lit 6)) ⟨[wi0,wi0,(.func (.yield (nat_lit 2)) ⟨[wi0,(.func (.yield (nat_lit 1)) ⟨[wi0,wi20,wy108]⟩ ⟨[]⟩),wy110]⟩ ⟨[]⟩)]⟩ ⟨[]⟩),(.func (.yield (nat_lit 7)) ⟨[wi0,wi100,(.func (.yield (nat_lit 1)) ⟨[wi0,(.func (.yield (nat_lit 1)) ⟨[wi0,wi20,wy108]⟩ ⟨[]⟩),wy112]⟩ ⟨[]⟩)]⟩ ⟨[]⟩),(.func (.yield (nat_lit 6)) ⟨[wi0,wi0,(.func (.yield (nat_lit 2)) ⟨[wi0,(.func (.yield (nat_lit 1)) ⟨[wi0,wi20,wy113]⟩ ⟨[]⟩),wy115]⟩ ⟨[]⟩)]⟩ ⟨[]⟩),(.func (.yield (nat_lit 7)) ⟨[wi0,wi100,(.func (.yield (nat_lit 1)) ⟨[wi0,(.func (.yield (nat_lit 1)) ⟨[wi0,wi20,wy113]⟩ ⟨[]⟩),wy117]⟩ ⟨[]⟩)]⟩ ⟨[]⟩),(.func (.yield (nat_lit 6)) ⟨[wi0,wi0,(.func (.yield (nat_lit 2)) ⟨[wi0,(.func (.yield (nat_lit 1)) ⟨[wi0,wi1,wy118]⟩ ⟨[]⟩),wy120]⟩ ⟨[]⟩)]⟩ ⟨[]⟩),(.func (.yield (nat_lit 7)) ⟨[wi0,wi12,(.func (.yield (nat_lit 1)) ⟨[wi0,(.func (.yield (nat_lit 1)) ⟨[wi0,wi1,wy118]⟩ ⟨[]⟩),wy122]⟩ ⟨[]⟩)]⟩ ⟨[]⟩),(.func (.yield (nat_lit 6)) ⟨[wi0,wi0,(.func (.yield (nat_lit 2)) ⟨[wi0,(.func (.yield (nat_lit 1)) ⟨[wi0,wi1,wy123]⟩ ⟨[]⟩),wy125]⟩ ⟨[]⟩)]⟩ ⟨[]⟩),(.func (.yield (nat_lit 7)) ⟨[wi0,wi12,(.func (.yield (nat_lit 1)) ⟨[wi0,(.func (.yield (nat_lit 1)) ⟨[wi0,wi1,wy123]⟩ ⟨[]⟩),wy127]⟩ ⟨[]⟩)]⟩ ⟨[]⟩),(.func (.yield (nat_lit 6)) ⟨[wi0,wi0,(.func (.yield (nat_lit 2)) ⟨[wi0,wy128,wy130]⟩ ⟨[]⟩)]⟩ ⟨[]⟩),(.func (.yield (nat_lit 7)) ⟨[wi0,wi12,(.func (.yield (nat_lit 1)) ⟨[wi0,wy128,wy132]⟩ ⟨[]⟩)]⟩ ⟨[]⟩),(.func (.yield (nat_lit 6)) ⟨[wi0,wi0,(.func (.yield (nat_lit 2)) ⟨[wi0,wy133,wy135]⟩ ⟨[]⟩)]⟩ ⟨[]⟩),(.func (.yield (nat_lit 7)) ⟨[wi0,wi12,(.func (.yield (nat_lit 1)) ⟨[wi0,wy133,wy137]⟩ ⟨[]⟩)]⟩ ⟨[]⟩),(.func (.yield (nat_lit 1)) ⟨[wi0,wi10,wy138]⟩ ⟨[]⟩)]) (b := (.slice (some ⟨(nat_lit 14),(nat_lit 0),none⟩) (nat_lit 1) (nat_lit 18446744073709551618)) :: [(.func (.yield (nat_lit 1)) ⟨[wi0,wi1,wy100]⟩ ⟨[]⟩),wy102]) hl
  have e1 := DLs.only (.cons (.max (.lit _ _) (.sub (.add (.lit _ _) (.sym _ _)) (.sym _ _))) (.cons (.min (.lit _ _) (.add (.add (.lit _ _) (.sym _ _)) (.sym _ _))) (.cons (.max (.lit _ _) (.sub (.add (.lit _ _) (.sym _ _)) (.sym _ _))) (.cons (.min (.lit _ _) (.add (.add (.lit _ _) (.sym _ _)) (.sym _ _))) (.cons (.max (.lit _ _) (.sub (.add (.lit _ _) (.sym _ _)) (.sym _ _))) (.cons (.min (.lit _ _) (.add (.add (.lit _ _) (.sym _ _)) (.sym _ _))) (.cons (.max (.lit _ _) (.sub (.add (.lit _ _) (.sym _ _)) (.sym _ _))) (.cons (.min (.lit _ _) (.add (.add (.lit _ _) (.sym _ _)) (.sym _ _))) (.cons (.max (.lit _ _) (.sub (.add (.lit _ _) (.sym _ _)) (.sym _ _))) (.cons (.min (.lit _ _) (.add (.add (.lit _ _) (.sym _ _)) (.sym _ _))) (.cons (.max (.lit _ _) (.sub (.sym _ _) (.sym _ _))) (.cons (.min (.lit _ _) (.add (.sym _ _) (.sym _ _))) (.cons (.max (.lit _ _) (.sub (.sym _ _) (.sym _ _))) (.cons (.min (.lit _ _) (.add (.sym _ _) (.sym _ _))) (.cons (.add (.lit _ _) (.sym _ _)) .nil))))))))))))))) h1
  cases h2 with
  | cons hs h3 =>
    have e3 := DLs.only (.cons (.add (.lit _ _) (.sym _ _)) (.cons (.sym _ _) .nil)) h3
    subst e1 e3
    obtain ⟨r,cc,cp,rfl,hι⟩ := slUI hs
    obtain ⟨r',c',o,e1,e2,cs,t',rfl,e3,l',tl,e4,e5⟩ := hobj (nat_lit 14) (.cells [(.func (.yield (nat_lit 6)) ⟨[wi0,wm59,(.func (.yield (nat_lit 2)) ⟨[wi0,(.func (.yield (nat_lit 1)) ⟨[wi0,wm2,wy140]⟩ ⟨[]⟩),wy142]⟩ ⟨[]⟩)]⟩ ⟨[]⟩),(.func (.yield (nat_lit 7)) ⟨[wi0,wi60,(.func (.yield (nat_lit 1)) ⟨[wi0,(.func (.yield (nat_lit 1)) ⟨[wi0,wm2,wy140]⟩ ⟨[]⟩),wy144]⟩ ⟨[]⟩)]⟩ ⟨[]⟩)]) (by kernel_rfl)
    rw [hι] at e1
    cases e1
    have e6 := DLs.only (.cons (.max (.lit _ _) (.sub (.add (.lit _ _) (.sym _ _)) (.sym _ _))) (.cons (.min (.lit _ _) (.add (.add (.lit _ _) (.sym _ _)) (.sym _ _))) .nil)) e5
    subst e6
    refine ⟨some ⟨r,0,none⟩,cp,rfl,(fun q o h => by cases h; exact hfr _ _ _ hι (by decide)),?_,hpot,hk⟩
    exact rg_of (l := (jobS s).take 1) e2 (by rw [e4]; rfl) (hbd _ _ _ hι)
theorem sym2 {s : Int} (h : res39 s = 2) : @SymOK (jobRho s) asm2 := @SymOK.mk (jobRho s) asm2 fun c hc b hb => by
  have hr : @Rho.ρ (jobRho s) (nat_lit 139) = 2 := h
  replace hc : c = ((.func (.yield (nat_lit 21)) ⟨[wi0,wy139]⟩ ⟨[]⟩),true) ∨ c = ((.func (.yield (nat_lit 21)) ⟨[wi0,(.func (.yield (nat_lit 2)) ⟨[wi0,wy139,wi1]⟩ ⟨[]⟩)]⟩ ⟨[]⟩),true) ∨ c = ((.func (.yield (nat_lit 21)) ⟨[wi0,(.func (.yield (nat_lit 2)) ⟨[wi0,(.func (.yield (nat_lit 2)) ⟨[wi0,wy139,wi1]⟩ ⟨[]⟩),wi1]⟩ ⟨[]⟩)]⟩ ⟨[]⟩),false) := by have hc : c ∈ [((.func (.yield (nat_lit 21)) ⟨[wi0,wy139]⟩ ⟨[]⟩),true),((.func (.yield (nat_lit 21)) ⟨[wi0,(.func (.yield (nat_lit 2)) ⟨[wi0,wy139,wi1]⟩ ⟨[]⟩)]⟩ ⟨[]⟩),true),((.func (.yield (nat_lit 21)) ⟨[wi0,(.func (.yield (nat_lit 2)) ⟨[wi0,(.func (.yield (nat_lit 2)) ⟨[wi0,wy139,wi1]⟩ ⟨[]⟩),wi1]⟩ ⟨[]⟩)]⟩ ⟨[]⟩),false)] := hc; simpa only [List.mem_cons,List.not_mem_nil,or_false] using hc
  rcases hc with rfl | rfl | rfl
  · letI := jobRho s; letI := Asm.none; haveI : SymOK := SymOK.none; have e := ltJ (k := .i64) hb (.lit _ _) (.sym _ _); rw [e,hr]; decide
  · letI := jobRho s; letI := Asm.none; haveI : SymOK := SymOK.none; have e := ltJ (k := .i64) hb (.lit _ _) (.sub (.sym _ _) (.lit _ _)); rw [e,hr]; decide
  · letI := jobRho s; letI := Asm.none; haveI : SymOK := SymOK.none; have e := ltJ (k := .i64) hb (.lit _ _) (.sub (.sub (.sym _ _) (.lit _ _)) (.lit _ _)); rw [e,hr]; decide
theorem job2 {s : Int} {b : Nat} {t : TypeId} {w : World} (hb : Bk w b t #[.int .u64 s]) (h : res39 s = 2) : Calls Try.prog 10 #[.pointer (some ⟨b,0,none⟩),.int .i64 2,.int .i64 1] w (JobEnd s b 2 w) := by
  letI := jobRho s
  letI := asm2
  haveI := sym2 h
  refine (job_enter (s := s) rfl rfl hb (run2_ok (sym2 h))).mono ?_
  rintro e w' ⟨v',ι',rfl,hv,hobj,hbd,hι0,hfr,hk⟩
  have hpot : ∃ t s,Bk w' b t #[.int .u64 s] := by
    obtain ⟨r',c',o,e1,e2,cs,t',rfl,e3,l',tl,e4,e5⟩ := hobj (nat_lit 0) (.cells [(.func (.yield (nat_lit 0)) ⟨[(.int .u64 (.ofNat (nat_lit 50)))]⟩ ⟨[]⟩)]) (by kernel_rfl)
    rw [hι0] at e1
    cases e1
    exact pot_of e2 e3 e4 e5
  obtain ⟨l,rfl,hl⟩ := hv.aggI
  obtain ⟨x,y,rfl,h1,h2⟩ := LR.app (a := [(.func (.yield (nat_lit 6)) ⟨[wi0,wm59,(.func (.yield (nat_lit 2)) ⟨[wi0,(.func (.yield (nat_lit 1)) ⟨[wi0,wm15,wy103]⟩ ⟨[]⟩),wy105]⟩ ⟨[]⟩)]⟩ ⟨[]⟩),(.func (.yield (nat_lit 7)) ⟨[wi0,wi60,(.func (.yield (nat_lit 1)) ⟨[wi0,(.func (.yield (nat_lit 1)) ⟨[wi0,wm15,wy103]⟩ ⟨[]⟩),wy107]⟩ ⟨[]⟩)]⟩ ⟨[]⟩),(.func (.yield (nat_lit 6)) ⟨[wi0,wi0,(.func (.yield (nat_lit 2)) ⟨[wi0,(.func (.yield (nat_lit 1)) ⟨[wi0,wi20,wy108]⟩ ⟨[]⟩),wy110]⟩ ⟨[]⟩)]⟩ ⟨[]⟩),(.func (.yield (nat_lit 7)) ⟨[wi0,wi100,(.func (.yield (nat_lit 1)) ⟨[wi0,(.func (.yield (nat_lit 1)) ⟨[wi0,wi20,wy108]⟩ ⟨[]⟩),wy112]⟩ ⟨[]⟩)]⟩ ⟨[]⟩),(.func (.yield (nat_lit 6)) ⟨[wi0,wi0,(.func (.yield (nat_lit 2)) ⟨[wi0,(.func (.yield (nat_lit 1)) ⟨[wi0,wi20,wy113]⟩ ⟨[]⟩),wy115]⟩ ⟨[]⟩)]⟩ ⟨[]⟩),(.func (.yield (nat_lit 7)) ⟨[wi0,wi100,(.func (.yield (nat_lit 1)) ⟨[wi0,(.func (.yield (nat_lit 1)) ⟨[wi0,wi20,wy113]⟩ ⟨[]⟩),wy117]⟩ ⟨[]⟩)]⟩ ⟨[]⟩),(.func (.yield (nat_lit 6)) ⟨[wi0,wi0,(.func (.yield (nat_lit 2)) ⟨[wi0,(.func (.yield (nat_lit 1)) ⟨[wi0,wi1,wy118]⟩ ⟨[]⟩),wy120]⟩ ⟨[]⟩)]⟩ ⟨[]⟩),(.func (.yield (nat_lit 7)) ⟨[wi0,wi12,(.func (.yield (nat_lit 1)) ⟨[wi0,(.func (.yield (nat_lit 1)) ⟨[wi0,wi1,wy118]⟩ ⟨[]⟩),wy122]⟩ ⟨[]⟩)]⟩ ⟨[]⟩),(.func (.yield (nat_lit 6)) ⟨[wi0,wi0,(.func (.yield (nat_lit 2)) ⟨[wi0,(.func (.yield (nat_lit 1)) ⟨[wi0,wi1,wy123]⟩ ⟨[]⟩),wy125]⟩ ⟨[]⟩)]⟩ ⟨[]⟩),(.func (.yield (nat_lit 7)) ⟨[wi0,wi12,(.func (.yield (nat_lit 1)) ⟨[wi0,(.func (.yield (nat_lit 1)) ⟨[wi0,wi1,wy123]⟩ ⟨[]⟩),wy127]⟩ ⟨[]⟩)]⟩ ⟨[]⟩),(.func (.yield (nat_lit 6)) ⟨[wi0,wi0,(.func (.yield (nat_lit 2)) ⟨[wi0,wy128,wy130]⟩ ⟨[]⟩)]⟩ ⟨[]⟩),(.func (.yield (nat_lit 7)) ⟨[wi0,wi12,(.func (.yield (nat_lit 1)) ⟨[wi0,wy128,wy132]⟩ ⟨[]⟩)]⟩ ⟨[]⟩),(.func (.yield (nat_lit 6)) ⟨[wi0,wi0,(.func (.yield (nat_lit 2)) ⟨[wi0,wy133,wy135]⟩ ⟨[]⟩)]⟩ ⟨[]⟩),(.func (.yield (nat_lit 7)) ⟨[wi0,wi12,(.func (.yield (nat_lit 1)) ⟨[wi0,wy133,wy137]⟩ ⟨[]⟩)]⟩ ⟨[]⟩),(.func (.yield (nat_lit 1)) ⟨[wi0,wi10,wy138]⟩ ⟨[]⟩)]) (b := (.slice (some ⟨(nat_lit 25),(nat_lit 0),none⟩) (nat_lit 2) (nat_lit 18446744073709551618)) :: [(.func (.yield (nat_lit 1)) ⟨[wi0,wi1,wy100]⟩ ⟨[]⟩),wy102]) hl
  have e1 := DLs.only (.cons (.max (.lit _ _) (.sub (.add (.lit _ _) (.sym _ _)) (.sym _ _))) (.cons (.min (.lit _ _) (.add (.add (.lit _ _) (.sym _ _)) (.sym _ _))) (.cons (.max (.lit _ _) (.sub (.add (.lit _ _) (.sym _ _)) (.sym _ _))) (.cons (.min (.lit _ _) (.add (.add (.lit _ _) (.sym _ _)) (.sym _ _))) (.cons (.max (.lit _ _) (.sub (.add (.lit _ _) (.sym _ _)) (.sym _ _))) (.cons (.min (.lit _ _) (.add (.add (.lit _ _) (.sym _ _)) (.sym _ _))) (.cons (.max (.lit _ _) (.sub (.add (.lit _ _) (.sym _ _)) (.sym _ _))) (.cons (.min (.lit _ _) (.add (.add (.lit _ _) (.sym _ _)) (.sym _ _))) (.cons (.max (.lit _ _) (.sub (.add (.lit _ _) (.sym _ _)) (.sym _ _))) (.cons (.min (.lit _ _) (.add (.add (.lit _ _) (.sym _ _)) (.sym _ _))) (.cons (.max (.lit _ _) (.sub (.sym _ _) (.sym _ _))) (.cons (.min (.lit _ _) (.add (.sym _ _) (.sym _ _))) (.cons (.max (.lit _ _) (.sub (.sym _ _) (.sym _ _))) (.cons (.min (.lit _ _) (.add (.sym _ _) (.sym _ _))) (.cons (.add (.lit _ _) (.sym _ _)) .nil))))))))))))))) h1
  cases h2 with
  | cons hs h3 =>
    have e3 := DLs.only (.cons (.add (.lit _ _) (.sym _ _)) (.cons (.sym _ _) .nil)) h3
    subst e1 e3
    obtain ⟨r,cc,cp,rfl,hι⟩ := slUI hs
    obtain ⟨r',c',o,e1,e2,cs,t',rfl,e3,l',tl,e4,e5⟩ := hobj (nat_lit 25) (.cells [(.func (.yield (nat_lit 6)) ⟨[wi0,wm59,(.func (.yield (nat_lit 2)) ⟨[wi0,(.func (.yield (nat_lit 1)) ⟨[wi0,wm2,wy140]⟩ ⟨[]⟩),wy142]⟩ ⟨[]⟩)]⟩ ⟨[]⟩),(.func (.yield (nat_lit 7)) ⟨[wi0,wi60,(.func (.yield (nat_lit 1)) ⟨[wi0,(.func (.yield (nat_lit 1)) ⟨[wi0,wm2,wy140]⟩ ⟨[]⟩),wy144]⟩ ⟨[]⟩)]⟩ ⟨[]⟩),(.func (.yield (nat_lit 6)) ⟨[wi0,wm59,(.func (.yield (nat_lit 2)) ⟨[wi0,(.func (.yield (nat_lit 1)) ⟨[wi0,wm2,wy145]⟩ ⟨[]⟩),wy147]⟩ ⟨[]⟩)]⟩ ⟨[]⟩),(.func (.yield (nat_lit 7)) ⟨[wi0,wi60,(.func (.yield (nat_lit 1)) ⟨[wi0,(.func (.yield (nat_lit 1)) ⟨[wi0,wm2,wy145]⟩ ⟨[]⟩),wy149]⟩ ⟨[]⟩)]⟩ ⟨[]⟩)]) (by kernel_rfl)
    rw [hι] at e1
    cases e1
    have e6 := DLs.only (.cons (.max (.lit _ _) (.sub (.add (.lit _ _) (.sym _ _)) (.sym _ _))) (.cons (.min (.lit _ _) (.add (.add (.lit _ _) (.sym _ _)) (.sym _ _))) (.cons (.max (.lit _ _) (.sub (.add (.lit _ _) (.sym _ _)) (.sym _ _))) (.cons (.min (.lit _ _) (.add (.add (.lit _ _) (.sym _ _)) (.sym _ _))) .nil)))) e5
    subst e6
    refine ⟨some ⟨r,0,none⟩,cp,rfl,(fun q o h => by cases h; exact hfr _ _ _ hι (by decide)),?_,hpot,hk⟩
    exact rg_of (l := (jobS s).take 2) e2 (by rw [e4]; rfl) (hbd _ _ _ hι)
theorem sym3 {s : Int} (h : res39 s = 3) : @SymOK (jobRho s) asm3 := @SymOK.mk (jobRho s) asm3 fun c hc b hb => by
  have hr : @Rho.ρ (jobRho s) (nat_lit 139) = 3 := h
  replace hc : c = ((.func (.yield (nat_lit 21)) ⟨[wi0,wy139]⟩ ⟨[]⟩),true) ∨ c = ((.func (.yield (nat_lit 21)) ⟨[wi0,(.func (.yield (nat_lit 2)) ⟨[wi0,wy139,wi1]⟩ ⟨[]⟩)]⟩ ⟨[]⟩),true) ∨ c = ((.func (.yield (nat_lit 21)) ⟨[wi0,(.func (.yield (nat_lit 2)) ⟨[wi0,(.func (.yield (nat_lit 2)) ⟨[wi0,wy139,wi1]⟩ ⟨[]⟩),wi1]⟩ ⟨[]⟩)]⟩ ⟨[]⟩),true) ∨ c = ((.func (.yield (nat_lit 21)) ⟨[wi0,(.func (.yield (nat_lit 2)) ⟨[wi0,(.func (.yield (nat_lit 2)) ⟨[wi0,(.func (.yield (nat_lit 2)) ⟨[wi0,wy139,wi1]⟩ ⟨[]⟩),wi1]⟩ ⟨[]⟩),wi1]⟩ ⟨[]⟩)]⟩ ⟨[]⟩),false) := by have hc : c ∈ [((.func (.yield (nat_lit 21)) ⟨[wi0,wy139]⟩ ⟨[]⟩),true),((.func (.yield (nat_lit 21)) ⟨[wi0,(.func (.yield (nat_lit 2)) ⟨[wi0,wy139,wi1]⟩ ⟨[]⟩)]⟩ ⟨[]⟩),true),((.func (.yield (nat_lit 21)) ⟨[wi0,(.func (.yield (nat_lit 2)) ⟨[wi0,(.func (.yield (nat_lit 2)) ⟨[wi0,wy139,wi1]⟩ ⟨[]⟩),wi1]⟩ ⟨[]⟩)]⟩ ⟨[]⟩),true),((.func (.yield (nat_lit 21)) ⟨[wi0,(.func (.yield (nat_lit 2)) ⟨[wi0,(.func (.yield (nat_lit 2)) ⟨[wi0,(.func (.yield (nat_lit 2)) ⟨[wi0,wy139,wi1]⟩ ⟨[]⟩),wi1]⟩ ⟨[]⟩),wi1]⟩ ⟨[]⟩)]⟩ ⟨[]⟩),false)] := hc; simpa only [List.mem_cons,List.not_mem_nil,or_false] using hc
  rcases hc with rfl | rfl | rfl | rfl
  · letI := jobRho s; letI := Asm.none; haveI : SymOK := SymOK.none; have e := ltJ (k := .i64) hb (.lit _ _) (.sym _ _); rw [e,hr]; decide
  · letI := jobRho s; letI := Asm.none; haveI : SymOK := SymOK.none; have e := ltJ (k := .i64) hb (.lit _ _) (.sub (.sym _ _) (.lit _ _)); rw [e,hr]; decide
  · letI := jobRho s; letI := Asm.none; haveI : SymOK := SymOK.none; have e := ltJ (k := .i64) hb (.lit _ _) (.sub (.sub (.sym _ _) (.lit _ _)) (.lit _ _)); rw [e,hr]; decide
  · letI := jobRho s; letI := Asm.none; haveI : SymOK := SymOK.none; have e := ltJ (k := .i64) hb (.lit _ _) (.sub (.sub (.sub (.sym _ _) (.lit _ _)) (.lit _ _)) (.lit _ _)); rw [e,hr]; decide
theorem job3 {s : Int} {b : Nat} {t : TypeId} {w : World} (hb : Bk w b t #[.int .u64 s]) (h : res39 s = 3) : Calls Try.prog 10 #[.pointer (some ⟨b,0,none⟩),.int .i64 2,.int .i64 1] w (JobEnd s b 3 w) := by
  letI := jobRho s
  letI := asm3
  haveI := sym3 h
  refine (job_enter (s := s) rfl rfl hb (run3_ok (sym3 h))).mono ?_
  rintro e w' ⟨v',ι',rfl,hv,hobj,hbd,hι0,hfr,hk⟩
  have hpot : ∃ t s,Bk w' b t #[.int .u64 s] := by
    obtain ⟨r',c',o,e1,e2,cs,t',rfl,e3,l',tl,e4,e5⟩ := hobj (nat_lit 0) (.cells [(.func (.yield (nat_lit 0)) ⟨[(.int .u64 (.ofNat (nat_lit 55)))]⟩ ⟨[]⟩)]) (by kernel_rfl)
    rw [hι0] at e1
    cases e1
    exact pot_of e2 e3 e4 e5
  obtain ⟨l,rfl,hl⟩ := hv.aggI
  obtain ⟨x,y,rfl,h1,h2⟩ := LR.app (a := [(.func (.yield (nat_lit 6)) ⟨[wi0,wm59,(.func (.yield (nat_lit 2)) ⟨[wi0,(.func (.yield (nat_lit 1)) ⟨[wi0,wm15,wy103]⟩ ⟨[]⟩),wy105]⟩ ⟨[]⟩)]⟩ ⟨[]⟩),(.func (.yield (nat_lit 7)) ⟨[wi0,wi60,(.func (.yield (nat_lit 1)) ⟨[wi0,(.func (.yield (nat_lit 1)) ⟨[wi0,wm15,wy103]⟩ ⟨[]⟩),wy107]⟩ ⟨[]⟩)]⟩ ⟨[]⟩),(.func (.yield (nat_lit 6)) ⟨[wi0,wi0,(.func (.yield (nat_lit 2)) ⟨[wi0,(.func (.yield (nat_lit 1)) ⟨[wi0,wi20,wy108]⟩ ⟨[]⟩),wy110]⟩ ⟨[]⟩)]⟩ ⟨[]⟩),(.func (.yield (nat_lit 7)) ⟨[wi0,wi100,(.func (.yield (nat_lit 1)) ⟨[wi0,(.func (.yield (nat_lit 1)) ⟨[wi0,wi20,wy108]⟩ ⟨[]⟩),wy112]⟩ ⟨[]⟩)]⟩ ⟨[]⟩),(.func (.yield (nat_lit 6)) ⟨[wi0,wi0,(.func (.yield (nat_lit 2)) ⟨[wi0,(.func (.yield (nat_lit 1)) ⟨[wi0,wi20,wy113]⟩ ⟨[]⟩),wy115]⟩ ⟨[]⟩)]⟩ ⟨[]⟩),(.func (.yield (nat_lit 7)) ⟨[wi0,wi100,(.func (.yield (nat_lit 1)) ⟨[wi0,(.func (.yield (nat_lit 1)) ⟨[wi0,wi20,wy113]⟩ ⟨[]⟩),wy117]⟩ ⟨[]⟩)]⟩ ⟨[]⟩),(.func (.yield (nat_lit 6)) ⟨[wi0,wi0,(.func (.yield (nat_lit 2)) ⟨[wi0,(.func (.yield (nat_lit 1)) ⟨[wi0,wi1,wy118]⟩ ⟨[]⟩),wy120]⟩ ⟨[]⟩)]⟩ ⟨[]⟩),(.func (.yield (nat_lit 7)) ⟨[wi0,wi12,(.func (.yield (nat_lit 1)) ⟨[wi0,(.func (.yield (nat_lit 1)) ⟨[wi0,wi1,wy118]⟩ ⟨[]⟩),wy122]⟩ ⟨[]⟩)]⟩ ⟨[]⟩),(.func (.yield (nat_lit 6)) ⟨[wi0,wi0,(.func (.yield (nat_lit 2)) ⟨[wi0,(.func (.yield (nat_lit 1)) ⟨[wi0,wi1,wy123]⟩ ⟨[]⟩),wy125]⟩ ⟨[]⟩)]⟩ ⟨[]⟩),(.func (.yield (nat_lit 7)) ⟨[wi0,wi12,(.func (.yield (nat_lit 1)) ⟨[wi0,(.func (.yield (nat_lit 1)) ⟨[wi0,wi1,wy123]⟩ ⟨[]⟩),wy127]⟩ ⟨[]⟩)]⟩ ⟨[]⟩),(.func (.yield (nat_lit 6)) ⟨[wi0,wi0,(.func (.yield (nat_lit 2)) ⟨[wi0,wy128,wy130]⟩ ⟨[]⟩)]⟩ ⟨[]⟩),(.func (.yield (nat_lit 7)) ⟨[wi0,wi12,(.func (.yield (nat_lit 1)) ⟨[wi0,wy128,wy132]⟩ ⟨[]⟩)]⟩ ⟨[]⟩),(.func (.yield (nat_lit 6)) ⟨[wi0,wi0,(.func (.yield (nat_lit 2)) ⟨[wi0,wy133,wy135]⟩ ⟨[]⟩)]⟩ ⟨[]⟩),(.func (.yield (nat_lit 7)) ⟨[wi0,wi12,(.func (.yield (nat_lit 1)) ⟨[wi0,wy133,wy137]⟩ ⟨[]⟩)]⟩ ⟨[]⟩),(.func (.yield (nat_lit 1)) ⟨[wi0,wi10,wy138]⟩ ⟨[]⟩)]) (b := (.slice (some ⟨(nat_lit 36),(nat_lit 0),none⟩) (nat_lit 3) (nat_lit 18446744073709551618)) :: [(.func (.yield (nat_lit 1)) ⟨[wi0,wi1,wy100]⟩ ⟨[]⟩),wy102]) hl
  have e1 := DLs.only (.cons (.max (.lit _ _) (.sub (.add (.lit _ _) (.sym _ _)) (.sym _ _))) (.cons (.min (.lit _ _) (.add (.add (.lit _ _) (.sym _ _)) (.sym _ _))) (.cons (.max (.lit _ _) (.sub (.add (.lit _ _) (.sym _ _)) (.sym _ _))) (.cons (.min (.lit _ _) (.add (.add (.lit _ _) (.sym _ _)) (.sym _ _))) (.cons (.max (.lit _ _) (.sub (.add (.lit _ _) (.sym _ _)) (.sym _ _))) (.cons (.min (.lit _ _) (.add (.add (.lit _ _) (.sym _ _)) (.sym _ _))) (.cons (.max (.lit _ _) (.sub (.add (.lit _ _) (.sym _ _)) (.sym _ _))) (.cons (.min (.lit _ _) (.add (.add (.lit _ _) (.sym _ _)) (.sym _ _))) (.cons (.max (.lit _ _) (.sub (.add (.lit _ _) (.sym _ _)) (.sym _ _))) (.cons (.min (.lit _ _) (.add (.add (.lit _ _) (.sym _ _)) (.sym _ _))) (.cons (.max (.lit _ _) (.sub (.sym _ _) (.sym _ _))) (.cons (.min (.lit _ _) (.add (.sym _ _) (.sym _ _))) (.cons (.max (.lit _ _) (.sub (.sym _ _) (.sym _ _))) (.cons (.min (.lit _ _) (.add (.sym _ _) (.sym _ _))) (.cons (.add (.lit _ _) (.sym _ _)) .nil))))))))))))))) h1
  cases h2 with
  | cons hs h3 =>
    have e3 := DLs.only (.cons (.add (.lit _ _) (.sym _ _)) (.cons (.sym _ _) .nil)) h3
    subst e1 e3
    obtain ⟨r,cc,cp,rfl,hι⟩ := slUI hs
    obtain ⟨r',c',o,e1,e2,cs,t',rfl,e3,l',tl,e4,e5⟩ := hobj (nat_lit 36) (.cells [(.func (.yield (nat_lit 6)) ⟨[wi0,wm59,(.func (.yield (nat_lit 2)) ⟨[wi0,(.func (.yield (nat_lit 1)) ⟨[wi0,wm2,wy140]⟩ ⟨[]⟩),wy142]⟩ ⟨[]⟩)]⟩ ⟨[]⟩),(.func (.yield (nat_lit 7)) ⟨[wi0,wi60,(.func (.yield (nat_lit 1)) ⟨[wi0,(.func (.yield (nat_lit 1)) ⟨[wi0,wm2,wy140]⟩ ⟨[]⟩),wy144]⟩ ⟨[]⟩)]⟩ ⟨[]⟩),(.func (.yield (nat_lit 6)) ⟨[wi0,wm59,(.func (.yield (nat_lit 2)) ⟨[wi0,(.func (.yield (nat_lit 1)) ⟨[wi0,wm2,wy145]⟩ ⟨[]⟩),wy147]⟩ ⟨[]⟩)]⟩ ⟨[]⟩),(.func (.yield (nat_lit 7)) ⟨[wi0,wi60,(.func (.yield (nat_lit 1)) ⟨[wi0,(.func (.yield (nat_lit 1)) ⟨[wi0,wm2,wy145]⟩ ⟨[]⟩),wy149]⟩ ⟨[]⟩)]⟩ ⟨[]⟩),(.func (.yield (nat_lit 6)) ⟨[wi0,wm59,(.func (.yield (nat_lit 2)) ⟨[wi0,(.func (.yield (nat_lit 1)) ⟨[wi0,wm2,wy150]⟩ ⟨[]⟩),wy152]⟩ ⟨[]⟩)]⟩ ⟨[]⟩),(.func (.yield (nat_lit 7)) ⟨[wi0,wi60,(.func (.yield (nat_lit 1)) ⟨[wi0,(.func (.yield (nat_lit 1)) ⟨[wi0,wm2,wy150]⟩ ⟨[]⟩),wy154]⟩ ⟨[]⟩)]⟩ ⟨[]⟩)]) (by kernel_rfl)
    rw [hι] at e1
    cases e1
    have e6 := DLs.only (.cons (.max (.lit _ _) (.sub (.add (.lit _ _) (.sym _ _)) (.sym _ _))) (.cons (.min (.lit _ _) (.add (.add (.lit _ _) (.sym _ _)) (.sym _ _))) (.cons (.max (.lit _ _) (.sub (.add (.lit _ _) (.sym _ _)) (.sym _ _))) (.cons (.min (.lit _ _) (.add (.add (.lit _ _) (.sym _ _)) (.sym _ _))) (.cons (.max (.lit _ _) (.sub (.add (.lit _ _) (.sym _ _)) (.sym _ _))) (.cons (.min (.lit _ _) (.add (.add (.lit _ _) (.sym _ _)) (.sym _ _))) .nil)))))) e5
    subst e6
    refine ⟨some ⟨r,0,none⟩,cp,rfl,(fun q o h => by cases h; exact hfr _ _ _ hι (by decide)),?_,hpot,hk⟩
    exact rg_of (l := (jobS s).take 3) e2 (by rw [e4]; rfl) (hbd _ _ _ hι)
theorem jobOf_any {s : Int} {b : Nat} {t : TypeId} {w : World} (hb : Bk w b t #[.int .u64 s]) : Calls Try.prog 10 #[.pointer (some ⟨b,0,none⟩),.int .i64 2,.int .i64 1] w fun e w' => ∃ n,n ≤ 3 ∧ JobEnd s b n w e w' := by
  have h := rb39 s
  rcases (by omega : res39 s = 0 ∨ res39 s = 1 ∨ res39 s = 2 ∨ res39 s = 3) with h | h | h | h
  · exact (job0 hb h).mono fun e w' q => ⟨0,by decide,q⟩
  · exact (job1 hb h).mono fun e w' q => ⟨1,by decide,q⟩
  · exact (job2 hb h).mono fun e w' q => ⟨2,by decide,q⟩
  · exact (job3 hb h).mono fun e w' q => ⟨3,by decide,q⟩
end
end Go.Sim.JF
/- JobOf(p, 2, 1), as the law ReedBlanks wants it. -/
namespace Go.Proofs.Ytadmcafbffjjbaa
set_option linter.all false
open Go Go.RowKit
theorem jobf_JF : JobOKf 2 1 := by
  intro b w hp
  obtain ⟨t,s,hb⟩ := hp
  refine (Sim.JF.jobOf_any hb).mono ?_
  rintro e w' ⟨n,hn,a,c,rfl,hfr,hrg,hpt,hk⟩
  refine ⟨Sim.JF.jobJ s n,a,n,c,rfl,?_,hrg,Sim.JF.job_check s n,hfr,⟨hk.os,hk.tape,hk.output,hk.size,hk.heap⟩,hpt⟩
  show n = ((Sim.JF.jobS s).take n).length
  have : (Sim.JF.jobS s).length = 3 := rfl
  rw [List.length_take]
  omega
end Go.Proofs.Ytadmcafbffjjbaa
/- An argument that is a job, and one that is a range, opened to their numbers. -/
namespace Go.Proofs.Ytadmcafbffjjbaa
set_option linter.all false
open Go Go.ChangeShapes Go.WideShapes Go.ChangeAt Go.RowKit Go.Deep

section
variable {H : Type} {enc : TypeId × Value → H} {w : World} {base : Nat} {spare : Nat → Bool} {held : Bool}
theorem fld {t : TypeId} {fs : Array Field} {fuel : Nat} {cs : List Value} {x : DataW H × List MemPlace} (ht : Try.prog.underlying t = some (.struct fs)) (h : DataW.trod enc Try.prog w base spare held fuel t cs = some x) (i : Nat) (f : Field) (hf : fs[i]? = some f) :
    ∃ n y,DataW.trod enc Try.prog w base spare held n f.type ((cs.drop f.offset).take (Try.prog.cellsOf f.type)) = some y := by
  obtain ⟨xs,n,_,_,_,hl,hg⟩ := DataW.trod_struct ht h
  have := hg i f hf
  have hi : i < xs.length := by rw [hl]; exact (Array.getElem?_eq_some_iff.1 hf).1
  exact ⟨n,xs[i],this.trans (List.getElem?_eq_getElem hi)⟩
theorem oc1 : Try.prog.cellsOf 3 = 1 := by kernel_rfl
theorem oc2 : Try.prog.cellsOf 23 = 2 := by kernel_rfl
theorem oc6 : Try.prog.cellsOf 25 = 6 := by kernel_rfl
theorem oc9 : Try.prog.cellsOf 27 = 9 := by kernel_rfl
theorem ocS : Try.prog.cellsOf 28 = 1 := by kernel_rfl
theorem oc18 : Try.prog.cellsOf 30 = 18 := by kernel_rfl
theorem int_open {fuel : Nat} {x : Value} {z : DataW H × List MemPlace} (h : DataW.trod enc Try.prog w base spare held fuel 3 [x] = some z) : ∃ a,x = .int .i64 a ∧ (Lit.int .i64 a).wf = true := by
  obtain ⟨n,e,_,hw⟩ := DataW.trod_int Try.underlying3 h
  exact ⟨n,by simpa using e,hw⟩
theorem rng_open {fuel : Nat} {x y : Value} {z : DataW H × List MemPlace} (h : DataW.trod enc Try.prog w base spare held fuel 23 [x,y] = some z) : ∃ a b,x = .int .i64 a ∧ y = .int .i64 b := by
  obtain ⟨n0,y0,h0⟩ := fld Try.underlying23 h 0 _ rfl
  obtain ⟨n1,y1,h1⟩ := fld Try.underlying23 h 1 _ rfl
  simp [oc1] at h0 h1
  obtain ⟨a,rfl,_⟩ := int_open h0
  obtain ⟨b,rfl,_⟩ := int_open h1
  exact ⟨a,b,rfl,rfl⟩
theorem ton_open {fuel : Nat} {c0 c1 c2 c3 c4 c5 : Value} {z : DataW H × List MemPlace} (h : DataW.trod enc Try.prog w base spare held fuel 25 [c0,c1,c2,c3,c4,c5] = some z) :
    ∃ a0 a1 a2 a3 a4 a5,c0 = .int .i64 a0 ∧ c1 = .int .i64 a1 ∧ c2 = .int .i64 a2 ∧ c3 = .int .i64 a3 ∧ c4 = .int .i64 a4 ∧ c5 = .int .i64 a5 := by
  obtain ⟨n0,y0,h0⟩ := fld Try.underlying25 h 0 _ rfl
  obtain ⟨n1,y1,h1⟩ := fld Try.underlying25 h 1 _ rfl
  obtain ⟨n2,y2,h2⟩ := fld Try.underlying25 h 2 _ rfl
  simp [oc2] at h0 h1 h2
  obtain ⟨a0,a1,rfl,rfl⟩ := rng_open h0
  obtain ⟨a2,a3,rfl,rfl⟩ := rng_open h1
  obtain ⟨a4,a5,rfl,rfl⟩ := rng_open h2
  exact ⟨a0,a1,a2,a3,a4,a5,rfl,rfl,rfl,rfl,rfl,rfl⟩
theorem file_open {fuel : Nat} {c0 c1 c2 c3 c4 c5 c6 c7 c8 : Value} {z : DataW H × List MemPlace} (h : DataW.trod enc Try.prog w base spare held fuel 27 [c0,c1,c2,c3,c4,c5,c6,c7,c8] = some z) :
    ∃ a0 a1 a2 a3 a4 a5 a6 a7 a8,c0 = .int .i64 a0 ∧ c1 = .int .i64 a1 ∧ c2 = .int .i64 a2 ∧ c3 = .int .i64 a3 ∧ c4 = .int .i64 a4 ∧ c5 = .int .i64 a5 ∧ c6 = .int .i64 a6 ∧ c7 = .int .i64 a7 ∧ c8 = .int .i64 a8 := by
  obtain ⟨n0,y0,h0⟩ := fld Try.underlying27 h 0 _ rfl
  obtain ⟨n1,y1,h1⟩ := fld Try.underlying27 h 1 _ rfl
  obtain ⟨n2,y2,h2⟩ := fld Try.underlying27 h 2 _ rfl
  obtain ⟨n3,y3,h3⟩ := fld Try.underlying27 h 3 _ rfl
  obtain ⟨n4,y4,h4⟩ := fld Try.underlying27 h 4 _ rfl
  simp [oc1,oc2] at h0 h1 h2 h3 h4
  obtain ⟨a0,a1,rfl,rfl⟩ := rng_open h0
  obtain ⟨a2,a3,rfl,rfl⟩ := rng_open h1
  obtain ⟨a4,a5,rfl,rfl⟩ := rng_open h2
  obtain ⟨a6,a7,rfl,rfl⟩ := rng_open h3
  obtain ⟨a8,rfl,_⟩ := int_open h4
  exact ⟨a0,a1,a2,a3,a4,a5,a6,a7,a8,rfl,rfl,rfl,rfl,rfl,rfl,rfl,rfl,rfl⟩
def intV : Value → Int
  | .int _ n => n
  | _ => 0
theorem nospot {W : World} (a : Addr) {k : IntKind} {n : Int} (h0 : W.cell? a = some (.int k n)) : ∃ b o,a = ⟨b,o,none⟩ ∧ b < W.heap.size := by
  obtain ⟨ab,ao,asp⟩ := a
  have hs : asp = none ∧ ab < W.heap.size := by
    unfold World.cell? at h0
    cases hq : W.heap[ab]? with
    | none => simp only [hq] at h0; cases h0
    | some o =>
      refine ⟨?_,(Array.getElem?_eq_some_iff.1 hq).1⟩
      simp only [hq] at h0
      cases o with
      | cells cs t f =>
        cases asp with
        | none => rfl
        | some z => simp at h0
      | _ => simp at h0
  obtain ⟨rfl,hb⟩ := hs
  exact ⟨ab,ao,rfl,hb⟩
theorem add_plain (b o k : Nat) : (⟨b,o,none⟩ : Addr).add k = ⟨b,o + k,none⟩ := by
  unfold Addr.add
  split
  · rename_i hk0; subst hk0; rfl
  · rfl
theorem rgs_open {fuel : Nat} {v : Value} {z : DataW H × List MemPlace} (h : DataW.trod enc Try.prog w base spare held fuel 28 [v] = some z) :
    ∃ (a : Option Addr) (n c : Nat) (l : List R2),v = .slice a n c ∧ n = l.length ∧ n ≤ 9223372036854775807 ∧ Rg w w.heap.size a l := by
  rcases open_slice_pairs Try.underlying28 Try.underlying23 oc2 rfl rfl oc1 oc1 h with ⟨hcs,_⟩ | ⟨a,len,cap,m,n,V0,V1,D0,D1,P0,P1,hcs,_,hl,hm,hmm,_,hx⟩
  · exact ⟨none,0,0,[],by simpa using hcs,rfl,by decide,Rg.nil _ _ _⟩
  · have hv : v = .slice (some a) len cap := by simpa using hcs
    have hlm : len ≤ m := by rw [hmm]; split <;> omega
    refine ⟨some a,len,cap,(List.range len).map fun i => (intV (V0 i),intV (V1 i)),hv,by simp,by unfold maxLen at hm; omega,?_⟩
    intro k x hk
    have hkl : k < len := by simpa using (List.getElem?_eq_some_iff.1 hk).1
    have hx' : x = (intV (V0 k),intV (V1 k)) := by
      rw [List.getElem?_map,List.getElem?_range hkl] at hk
      simpa using hk.symm
    obtain ⟨e0,e1,t0,t1⟩ := hx k (by omega)
    obtain ⟨f0,_,s0,_⟩ := hx 0 (by omega)
    obtain ⟨i0,hi0,_⟩ := int_open t0
    obtain ⟨i1,hi1,_⟩ := int_open t1
    obtain ⟨j0,hj0,_⟩ := int_open s0
    rw [hi0] at e0
    rw [hi1] at e1
    rw [hj0] at f0
    have ez : a.add (0 * 2) = a := rfl
    rw [ez] at f0
    obtain ⟨ab,ao,rfl,hb⟩ := nospot a f0
    rw [add_plain] at e0 e1
    subst hx'
    refine ⟨ab,ao,rfl,hb,?_,?_⟩
    · rw [hi0]; exact e0
    · rw [hi1]; exact e1
set_option maxRecDepth 100000 in
theorem job_open {r : Reach} {b0 : Nat} {v : Value} {d : DataW H} {p : List MemPlace} (hv : Value.okWide Try.prog w r b0 30 v) (h : DataW.Trod enc Try.prog w base spare held 30 v d p) :
    ∃ (J : Jb) (a : Option Addr) (n c : Nat),v = .agg (jobC J (.slice a n c)) ∧ n = J.sh.length ∧ n ≤ 9223372036854775807 ∧ Rg w w.heap.size a J.sh := by
  obtain ⟨cs,rfl,hsz⟩ := okWide_struct Try.underlying30 hv
  obtain ⟨l⟩ := cs
  match l,hsz.trans oc18 with
  | [c0,c1,c2,c3,c4,c5,c6,c7,c8,c9,c10,c11,c12,c13,c14,c15,c16,c17],_ =>
    obtain ⟨fuel,hf⟩ := h
    obtain ⟨n0,y0,h0⟩ := fld Try.underlying30 hf 0 _ rfl
    obtain ⟨n1,y1,h1⟩ := fld Try.underlying30 hf 1 _ rfl
    obtain ⟨n2,y2,h2⟩ := fld Try.underlying30 hf 2 _ rfl
    obtain ⟨n3,y3,h3⟩ := fld Try.underlying30 hf 3 _ rfl
    obtain ⟨n4,y4,h4⟩ := fld Try.underlying30 hf 4 _ rfl
    simp [oc1,oc6,oc9,ocS,Value.cells] at h0 h1 h2 h3 h4
    obtain ⟨a0,a1,a2,a3,a4,a5,rfl,rfl,rfl,rfl,rfl,rfl⟩ := ton_open h0
    obtain ⟨b0,b1,b2,b3,b4,b5,b6,b7,b8,rfl,rfl,rfl,rfl,rfl,rfl,rfl,rfl,rfl⟩ := file_open h1
    obtain ⟨a,n,c,l,rfl,hn,hm,hrg⟩ := rgs_open h2
    obtain ⟨q,rfl,_⟩ := int_open h3
    obtain ⟨r,rfl,_⟩ := int_open h4
    exact ⟨⟨a0,a1,a2,a3,a4,a5,b0,b1,b2,b3,b4,b5,b6,b7,b8,q,r,l⟩,a,n,c,rfl,hn,hm,hrg⟩
end
end Go.Proofs.Ytadmcafbffjjbaa
/- An argument that is a list of jobs, opened. -/
namespace Go.Proofs.Ytadmcafbffjjbaa
set_option linter.all false
open Go.RowKit
open Go Go.ChangeShapes Go.WideShapes Go.ChangeAt Go.RowKit Go.Deep
section
variable {H : Type} {enc : TypeId × Value → H} {w : World} {base : Nat} {spare : Nat → Bool} {held : Bool}
set_option maxRecDepth 100000 in
theorem job_cells {fuel : Nat} {cs : List Value} {z : DataW H × List MemPlace} (hl : cs.length = 18) (hf : DataW.trod enc Try.prog w base spare held fuel 30 cs = some z) :
    ∃ (E : Ent),cs = E.V.toList ∧ E.n = E.J.sh.length ∧ E.n ≤ 9223372036854775807 ∧ Rg w w.heap.size E.a E.J.sh := by
  match cs,hl with
  | [c0,c1,c2,c3,c4,c5,c6,c7,c8,c9,c10,c11,c12,c13,c14,c15,c16,c17],_ =>
    obtain ⟨n0,y0,h0⟩ := fld Try.underlying30 hf 0 _ rfl
    obtain ⟨n1,y1,h1⟩ := fld Try.underlying30 hf 1 _ rfl
    obtain ⟨n2,y2,h2⟩ := fld Try.underlying30 hf 2 _ rfl
    obtain ⟨n3,y3,h3⟩ := fld Try.underlying30 hf 3 _ rfl
    obtain ⟨n4,y4,h4⟩ := fld Try.underlying30 hf 4 _ rfl
    simp [oc1,oc6,oc9,ocS,Value.cells] at h0 h1 h2 h3 h4
    obtain ⟨a0,a1,a2,a3,a4,a5,rfl,rfl,rfl,rfl,rfl,rfl⟩ := ton_open h0
    obtain ⟨b0,b1,b2,b3,b4,b5,b6,b7,b8,rfl,rfl,rfl,rfl,rfl,rfl,rfl,rfl,rfl⟩ := file_open h1
    obtain ⟨a,n,c,l,rfl,hn,hm,hrg⟩ := rgs_open h2
    obtain ⟨q,rfl,_⟩ := int_open h3
    obtain ⟨r,rfl,_⟩ := int_open h4
    exact ⟨⟨⟨a0,a1,a2,a3,a4,a5,b0,b1,b2,b3,b4,b5,b6,b7,b8,q,r,l⟩,a,n,c⟩,rfl,hn,hm,hrg⟩
theorem choose_list {α : Type} [Inhabited α] {n : Nat} {P : Nat → α → Prop} (h : ∀ i,i < n → ∃ x,P i x) : ∃ l : List α,l.length = n ∧ ∀ i x,l[i]? = some x → P i x := by
  classical
  refine ⟨(List.range n).map fun i => if hi : i < n then Classical.choose (h i hi) else default,by simp,fun i x hx => ?_⟩
  have hi : i < n := by simpa using (List.getElem?_eq_some_iff.1 hx).1
  rw [List.getElem?_map,List.getElem?_range hi,Option.map_some,Option.some.injEq,dif_pos hi] at hx
  rw [← hx]
  exact Classical.choose_spec (h i hi)
instance : Inhabited Ent := ⟨⟨⟨0,0,0,0,0,0,0,0,0,0,0,0,0,0,0,0,0,[]⟩,none,0,0⟩⟩
theorem jobs_open {fuel : Nat} {cs : List Value} {z : DataW H × List MemPlace} (h : DataW.trod enc Try.prog w base spare held fuel 37 cs = some z) :
    ∃ (a : Option Addr) (n c : Nat) (es : List Ent),cs = [.slice a n c] ∧ n ≤ 9223372036854775807 ∧ Js w w.heap.size a n es := by
  rcases DataW.trod_slice Try.underlying37 h with ⟨hcs,_⟩ | ⟨a,len,cap,elems,rest,n,_,hcs,_,_,hlc,hcm,hel,hi,_⟩
  · exact ⟨none,0,0,[],hcs,by decide,Js.nil _ _ _⟩
  · rw [oc18] at hi
    have key : ∀ i,i < len → ∃ E : Ent,(∀ j v,E.V.toList[j]? = some v → w.cell? ((a.add (i * 18)).add j) = some v) ∧ Rg w w.heap.size E.a E.J.sh ∧ E.n = E.J.sh.length ∧ E.n ≤ 9223372036854775807 := by
      intro i hil
      have h1 := hi i hil
      rw [List.getElem?_eq_getElem (by rw [hel]; exact hil)] at h1
      obtain ⟨c,hc,ht⟩ := Option.bind_eq_some_iff.1 h1
      obtain ⟨_,hlen,hce⟩ := World.cells?_some hc
      obtain ⟨E,rfl,he1,he2,he3⟩ := job_cells hlen ht
      refine ⟨E,fun j v hj => ?_,he3,he1,he2⟩
      have hj18 : j < 18 := by have := (List.getElem?_eq_some_iff.1 hj).1; rw [Ent.V_len] at this; exact this
      rw [hce j hj18]
      exact hj
    obtain ⟨es,hlen,hes⟩ := choose_list key
    refine ⟨some a,len,cap,es,hcs,by unfold maxLen at hcm; omega,hlen.symm,fun k e hk => ?_,fun e he => ?_⟩
    · obtain ⟨hk1,_⟩ := hes k e hk
      have hkl : k < len := by rw [← hlen]; exact (List.getElem?_eq_some_iff.1 hk).1
      obtain ⟨e0,he0⟩ : ∃ e,es[0]? = some e := ⟨es[0]'(by omega),List.getElem?_eq_getElem _⟩
      have h0 := (hes 0 e0 he0).1 0 (.int .i64 e0.J.p1) rfl
      have ez : (a.add (0 * 18)).add 0 = a := rfl
      rw [ez] at h0
      obtain ⟨ab,ao,rfl,hb⟩ := nospot a h0
      refine ⟨ab,ao,rfl,hb,fun j v hj => ?_⟩
      have h2 := hk1 j v hj
      rw [add_plain,add_plain] at h2
      exact h2
    · obtain ⟨k,hk,rfl⟩ := List.getElem_of_mem he
      obtain ⟨_,h2,h3,h4⟩ := hes k es[k] (List.getElem?_eq_getElem hk)
      exact ⟨h2,h3,h4⟩
end
end Go.Proofs.Ytadmcafbffjjbaa
