/- Part 35 of the proof: JobRJD3, JobEJD, PJJD, JobPJG. -/
import Derived.Test.YtadmcafbffjjbaaG34
import Derived.Test.YtadmcafbffjjbaaG13
import Derived.Test.YtadmcafbffjjbaaG33
import Derived.Test.YtadmcafbffjjbaaG01
/- A job of a pot: one run. -/
namespace Go.Sim.JD
set_option linter.all false
open Go Go.RowKit Go.Proofs Go.Proofs.Ytadmcafbffjjbaa
set_option maxRecDepth 1000000
noncomputable section
abbrev asm3 : Asm := ⟨[((.func (.yield (nat_lit 21)) ⟨[wi0,wy139]⟩ ⟨[]⟩),true),((.func (.yield (nat_lit 21)) ⟨[wi0,(.func (.yield (nat_lit 2)) ⟨[wi0,wy139,wi1]⟩ ⟨[]⟩)]⟩ ⟨[]⟩),true),((.func (.yield (nat_lit 21)) ⟨[wi0,(.func (.yield (nat_lit 2)) ⟨[wi0,(.func (.yield (nat_lit 2)) ⟨[wi0,wy139,wi1]⟩ ⟨[]⟩),wi1]⟩ ⟨[]⟩)]⟩ ⟨[]⟩),true),((.func (.yield (nat_lit 21)) ⟨[wi0,(.func (.yield (nat_lit 2)) ⟨[wi0,(.func (.yield (nat_lit 2)) ⟨[wi0,(.func (.yield (nat_lit 2)) ⟨[wi0,wy139,wi1]⟩ ⟨[]⟩),wi1]⟩ ⟨[]⟩),wi1]⟩ ⟨[]⟩)]⟩ ⟨[]⟩),false)]⟩
def run3 : Chg := ⟨.func (.func (nat_lit 10)) ⟨[]⟩ ⟨[]⟩,[.pointer (some ⟨(nat_lit 0),(nat_lit 0),none⟩),.int .i64 (.ofNat (nat_lit 3)),.int .i64 (.ofNat (nat_lit 1))],⟨layB [.cells [sy .u64 (nat_lit 0)]] (nat_lit 0) .e,(nat_lit 1),(nat_lit 1),[]⟩,(.agg ⟨[(.func (.yield (nat_lit 6)) ⟨[wi0,wm59,(.func (.yield (nat_lit 2)) ⟨[wi0,(.func (.yield (nat_lit 1)) ⟨[wi0,wm15,wy103]⟩ ⟨[]⟩),wy105]⟩ ⟨[]⟩)]⟩ ⟨[]⟩),(.func (.yield (nat_lit 7)) ⟨[wi0,wi60,(.func (.yield (nat_lit 1)) ⟨[wi0,(.func (.yield (nat_lit 1)) ⟨[wi0,wm15,wy103]⟩ ⟨[]⟩),wy107]⟩ ⟨[]⟩)]⟩ ⟨[]⟩),(.func (.yield (nat_lit 6)) ⟨[wi0,wi0,(.func (.yield (nat_lit 2)) ⟨[wi0,(.func (.yield (nat_lit 1)) ⟨[wi0,wi20,wy108]⟩ ⟨[]⟩),wy110]⟩ ⟨[]⟩)]⟩ ⟨[]⟩),(.func (.yield (nat_lit 7)) ⟨[wi0,wi100,(.func (.yield (nat_lit 1)) ⟨[wi0,(.func (.yield (nat_lit 1)) ⟨[wi0,wi20,wy108]⟩ ⟨[]⟩),wy112]⟩ ⟨[]⟩)]⟩ ⟨[]⟩),(.func (.yield (nat_lit 6)) ⟨[wi0,wi0,(.func (.yield (nat_lit 2)) ⟨[wi0,(.func (.yield (nat_lit 1)) ⟨[wi0,wi20,wy113]⟩ ⟨[]⟩),wy115]⟩ ⟨[]⟩)]⟩ ⟨[]⟩),(.func (.yield (nat_lit 7)) ⟨[wi0,wi100,(.func (.yield (nat_lit 1)) ⟨[wi0,(.func (.yield (nat_lit 1)) ⟨[wi0,wi20,wy113]⟩ ⟨[]⟩),wy117]⟩ ⟨[]⟩)]⟩ ⟨[]⟩),(.func (.yield (nat_lit 6)) ⟨[wi0,wi0,(.func (.yield (nat_lit 2)) ⟨[wi0,(.func (.yield (nat_lit 1)) ⟨[wi0,wi1,wy118]⟩ ⟨[]⟩),wy120]⟩ ⟨[]⟩)]⟩ ⟨[]⟩),(.func (.yield (nat_lit 7)) ⟨[wi0,wi12,(.func (.yield (nat_lit 1)) ⟨[wi0,(.func (.yield (nat_lit 1)) ⟨[wi0,wi1,wy118]⟩ ⟨[]⟩),wy122]⟩ ⟨[]⟩)]⟩ ⟨[]⟩),(.func (.yield (nat_lit 6)) ⟨[wi0,wi0,(.func (.yield (nat_lit 2)) ⟨[wi0,(.func (.yield (nat_lit 1)) ⟨[wi0,wi1,wy123]⟩ ⟨[]⟩),wy125]⟩ ⟨[]⟩)]⟩ ⟨[]⟩),(.func (.yield (nat_lit 7)) ⟨[wi0,wi12,(.func (.yield (nat_lit 1)) ⟨[wi0,(.func (.yield (nat_lit 1)) ⟨[wi0,wi1,wy123]⟩ ⟨[]⟩),wy127]⟩ ⟨[]⟩)]⟩ ⟨[]⟩),(.func (.yield (nat_lit 6)) ⟨[wi0,wi0,(.func (.yield (nat_lit 2)) ⟨[wi0,wy128,wy130]⟩ ⟨[]⟩)]⟩ ⟨[]⟩),(.func (.yield (nat_lit 7)) ⟨[wi0,wi12,(.func (.yield (nat_lit 1)) ⟨[wi0,wy128,wy132]⟩ ⟨[]⟩)]⟩ ⟨[]⟩),(.func (.yield (nat_lit 6)) ⟨[wi0,wi0,(.func (.yield (nat_lit 2)) ⟨[wi0,wy133,wy135]⟩ ⟨[]⟩)]⟩ ⟨[]⟩),(.func (.yield (nat_lit 7)) ⟨[wi0,wi12,(.func (.yield (nat_lit 1)) ⟨[wi0,wy133,wy137]⟩ ⟨[]⟩)]⟩ ⟨[]⟩),(.func (.yield (nat_lit 1)) ⟨[wi0,wi10,wy138]⟩ ⟨[]⟩),(.slice (some ⟨(nat_lit 36),(nat_lit 0),none⟩) (nat_lit 3) (nat_lit 18446744073709551618)),(.func (.yield (nat_lit 1)) ⟨[wi0,wi1,wy100]⟩ ⟨[]⟩),wy102]⟩),(nat_lit 37),[(nat_lit 0)],[((nat_lit 0),(some (.cells [(.func (.yield (nat_lit 0)) ⟨[(.int .u64 (.ofNat (nat_lit 55)))]⟩ ⟨[]⟩)]))),((nat_lit 1),(some (.cells [(.func (.yield (nat_lit 6)) ⟨[wi0,wm59,(.func (.yield (nat_lit 2)) ⟨[wi0,(.func (.yield (nat_lit 1)) ⟨[wi0,wm15,wy103]⟩ ⟨[]⟩),wy105]⟩ ⟨[]⟩)]⟩ ⟨[]⟩),(.func (.yield (nat_lit 7)) ⟨[wi0,wi60,(.func (.yield (nat_lit 1)) ⟨[wi0,(.func (.yield (nat_lit 1)) ⟨[wi0,wm15,wy103]⟩ ⟨[]⟩),wy107]⟩ ⟨[]⟩)]⟩ ⟨[]⟩),(.func (.yield (nat_lit 6)) ⟨[wi0,wi0,(.func (.yield (nat_lit 2)) ⟨[wi0,(.func (.yield (nat_lit 1)) ⟨[wi0,wi20,wy108]⟩ ⟨[]⟩),wy110]⟩ ⟨[]⟩)]⟩ ⟨[]⟩),(.func (.yield (nat_lit 7)) ⟨[wi0,wi100,(.func (.yield (nat_lit 1)) ⟨[wi0,(.func (.yield (nat_lit 1)) ⟨[wi0,wi20,wy108]⟩ ⟨[]⟩),wy112]⟩ ⟨[]⟩)]⟩ ⟨[]⟩),(.func (.yield (nat_lit 6)) ⟨[wi0,wi0,(.func (.yield (nat_lit 2)) ⟨[wi0,(.func (.yield (nat_lit 1)) ⟨[wi0,wi20,wy113]⟩ ⟨[]⟩),wy115]⟩ ⟨[]⟩)]⟩ ⟨[]⟩),(.func (.yield (nat_lit 7)) ⟨[wi0,wi100,(.func (.yield (nat_lit 1)) ⟨[wi0,(.func (.yield (nat_lit 1)) ⟨[wi0,wi20,wy113]⟩ ⟨[]⟩),wy117]⟩ ⟨[]⟩)]⟩ ⟨[]⟩),(.func (.yield (nat_lit 6)) ⟨[wi0,wi0,(.func (.yield (nat_lit 2)) ⟨[wi0,(.func (.yield (nat_lit 1)) ⟨[wi0,wi1,wy118]⟩ ⟨[]⟩),wy120]⟩ ⟨[]⟩)]⟩ ⟨[]⟩),(.func (.yield (nat_lit 7)) ⟨[wi0,wi12,(.func (.yield (nat_lit 1)) ⟨[wi0,(.func (.yield (nat_lit 1)) ⟨[wi0,wi1,wy118]⟩ ⟨[]⟩),wy122]⟩ ⟨[]⟩)]⟩ ⟨[]⟩),(.func (.yield (nat_lit 6)) ⟨[wi0,wi0,(.func (.yield (nat_lit 2)) ⟨[wi0,(.func (.yield (nat_lit 1)) ⟨[wi0,wi1,wy123]⟩ ⟨[]⟩),wy125]⟩ ⟨[]⟩)]⟩ ⟨[]⟩),(.func (.yield (nat_lit 7)) ⟨[wi0,wi12,(.func (.yield (nat_lit 1)) ⟨[wi0,(.func (.yield (nat_lit 1)) ⟨[wi0,wi1,wy123]⟩ ⟨[]⟩),wy127]⟩ ⟨[]⟩)]⟩ ⟨[]⟩),(.func (.yield (nat_lit 6)) ⟨[wi0,wi0,(.func (.yield (nat_lit 2)) ⟨[wi0,wy128,wy130]⟩ ⟨[]⟩)]⟩ ⟨[]⟩),(.func (.yield (nat_lit 7)) ⟨[wi0,wi12,(.func (.yield (nat_lit 1)) ⟨[wi0,wy128,wy132]⟩ ⟨[]⟩)]⟩ ⟨[]⟩),(.func (.yield (nat_lit 6)) ⟨[wi0,wi0,(.func (.yield (nat_lit 2)) ⟨[wi0,wy133,wy135]⟩ ⟨[]⟩)]⟩ ⟨[]⟩),(.func (.yield (nat_lit 7)) ⟨[wi0,wi12,(.func (.yield (nat_lit 1)) ⟨[wi0,wy133,wy137]⟩ ⟨[]⟩)]⟩ ⟨[]⟩),(.func (.yield (nat_lit 1)) ⟨[wi0,wi10,wy138]⟩ ⟨[]⟩),(.slice (some ⟨(nat_lit 36),(nat_lit 0),none⟩) (nat_lit 3) (nat_lit 18446744073709551618)),(.func (.yield (nat_lit 1)) ⟨[wi0,wi1,wy100]⟩ ⟨[]⟩),wy102]))),((nat_lit 3),(some (.cells [(.func (.yield (nat_lit 6)) ⟨[wi0,wm59,(.func (.yield (nat_lit 2)) ⟨[wi0,(.func (.yield (nat_lit 1)) ⟨[wi0,wm15,wy103]⟩ ⟨[]⟩),wy105]⟩ ⟨[]⟩)]⟩ ⟨[]⟩),(.func (.yield (nat_lit 7)) ⟨[wi0,wi60,(.func (.yield (nat_lit 1)) ⟨[wi0,(.func (.yield (nat_lit 1)) ⟨[wi0,wm15,wy103]⟩ ⟨[]⟩),wy107]⟩ ⟨[]⟩)]⟩ ⟨[]⟩),(.func (.yield (nat_lit 6)) ⟨[wi0,wi0,(.func (.yield (nat_lit 2)) ⟨[wi0,(.func (.yield (nat_lit 1)) ⟨[wi0,wi20,wy108]⟩ ⟨[]⟩),wy110]⟩ ⟨[]⟩)]⟩ ⟨[]⟩),(.func (.yield (nat_lit 7)) ⟨[wi0,wi100,(.func (.yield (nat_lit 1)) ⟨[wi0,(.func (.yield (nat_lit 1)) ⟨[wi0,wi20,wy108]⟩ ⟨[]⟩),wy112]⟩ ⟨[]⟩)]⟩ ⟨[]⟩),(.func (.yield (nat_lit 6)) ⟨[wi0,wi0,(.func (.yield (nat_lit 2)) ⟨[wi0,(.func (.yield (nat_lit 1)) ⟨[wi0,wi20,wy113]⟩ ⟨[]⟩),wy115]⟩ ⟨[]⟩)]⟩ ⟨[]⟩),(.func (.yield (nat_lit 7)) ⟨[wi0,wi100,(.func (.yield (nat_lit 1)) ⟨[wi0,(.func (.yield (nat_lit 1)) ⟨[wi0,wi20,wy113]⟩ ⟨[]⟩),wy117]⟩ ⟨[]⟩)]⟩ ⟨[]⟩),(.func (.yield (nat_lit 6)) ⟨[wi0,wi0,(.func (.yield (nat_lit 2)) ⟨[wi0,(.func (.yield (nat_lit 1)) ⟨[wi0,wi1,wy118]⟩ ⟨[]⟩),wy120]⟩ ⟨[]⟩)]⟩ ⟨[]⟩),(.func (.yield (nat_lit 7)) ⟨[wi0,wi12,(.func (.yield (nat_lit 1)) ⟨[wi0,(.func (.yield (nat_lit 1)) ⟨[wi0,wi1,wy118]⟩ ⟨[]⟩),wy122]⟩ ⟨[]⟩)]⟩ ⟨[]⟩),(.func (.yield (nat_lit 6)) ⟨[wi0,wi0,(.func (.yield (nat_lit 2)) ⟨[wi0,(.func (.yield (nat_lit 1)) ⟨[wi0,wi1,wy123]⟩ ⟨[]⟩),wy125]⟩ ⟨[]⟩)]⟩ ⟨[]⟩),(.func (.yield (nat_lit 7)) ⟨[wi0,wi12,(.func (.yield (nat_lit 1)) ⟨[wi0,(.func (.yield (nat_lit 1)) ⟨[wi0,wi1,wy123]⟩ ⟨[]⟩),wy127]⟩ ⟨[]⟩)]⟩ ⟨[]⟩),(.func (.yield (nat_lit 6)) ⟨[wi0,wi0,(.func (.yield (nat_lit 2)) ⟨[wi0,wy128,wy130]⟩ ⟨[]⟩)]⟩ ⟨[]⟩),(.func (.yield (nat_lit 7)) ⟨[wi0,wi12,(.func (.yield (nat_lit 1)) ⟨[wi0,wy128,wy132]⟩ ⟨[]⟩)]⟩ ⟨[]⟩),(.func (.yield (nat_lit 6)) ⟨[wi0,wi0,(.func (.yield (nat_lit 2)) ⟨[wi0,wy133,wy135]⟩ ⟨[]⟩)]⟩ ⟨[]⟩),(.func (.yield (nat_lit 7)) ⟨[wi0,wi12,(.func (.yield (nat_lit 1)) ⟨[wi0,wy133,wy137]⟩ ⟨[]⟩)]⟩ ⟨[]⟩),(.func (.yield (nat_lit 1)) ⟨[wi0,wi10,wy138]⟩ ⟨[]⟩),(.slice (some ⟨(nat_lit 36),(nat_lit 0),none⟩) (nat_lit 3) (nat_lit 18446744073709551618)),(.func (.yield (nat_lit 1)) ⟨[wi0,wi1,wy100]⟩ ⟨[]⟩),wy102]))),((nat_lit 5),none),((nat_lit 9),none),((nat_lit 25),none),((nat_lit 13),none),((nat_lit 21),(some (.cells [(.func (.yield (nat_lit 6)) ⟨[wi0,wm59,(.func (.yield (nat_lit 2)) ⟨[wi0,(.func (.yield (nat_lit 1)) ⟨[wi0,wm2,wy145]⟩ ⟨[]⟩),wy147]⟩ ⟨[]⟩)]⟩ ⟨[]⟩),(.func (.yield (nat_lit 7)) ⟨[wi0,wi60,(.func (.yield (nat_lit 1)) ⟨[wi0,(.func (.yield (nat_lit 1)) ⟨[wi0,wm2,wy145]⟩ ⟨[]⟩),wy149]⟩ ⟨[]⟩)]⟩ ⟨[]⟩)]))),((nat_lit 2),(some (.cells [wi0,wi1,wy101]))),((nat_lit 4),none),((nat_lit 8),none),((nat_lit 16),none),((nat_lit 32),(some (.cells [(.func (.yield (nat_lit 6)) ⟨[wi0,wm59,(.func (.yield (nat_lit 2)) ⟨[wi0,(.func (.yield (nat_lit 1)) ⟨[wi0,wm2,wy150]⟩ ⟨[]⟩),wy152]⟩ ⟨[]⟩)]⟩ ⟨[]⟩),(.func (.yield (nat_lit 7)) ⟨[wi0,wi60,(.func (.yield (nat_lit 1)) ⟨[wi0,(.func (.yield (nat_lit 1)) ⟨[wi0,wm2,wy150]⟩ ⟨[]⟩),wy154]⟩ ⟨[]⟩)]⟩ ⟨[]⟩)]))),((nat_lit 12),none),((nat_lit 20),none),((nat_lit 36),(some (.cells [(.func (.yield (nat_lit 6)) ⟨[wi0,wm59,(.func (.yield (nat_lit 2)) ⟨[wi0,(.func (.yield (nat_lit 1)) ⟨[wi0,wm2,wy140]⟩ ⟨[]⟩),wy142]⟩ ⟨[]⟩)]⟩ ⟨[]⟩),(.func (.yield (nat_lit 7)) ⟨[wi0,wi60,(.func (.yield (nat_lit 1)) ⟨[wi0,(.func (.yield (nat_lit 1)) ⟨[wi0,wm2,wy140]⟩ ⟨[]⟩),wy144]⟩ ⟨[]⟩)]⟩ ⟨[]⟩),(.func (.yield (nat_lit 6)) ⟨[wi0,wm59,(.func (.yield (nat_lit 2)) ⟨[wi0,(.func (.yield (nat_lit 1)) ⟨[wi0,wm2,wy145]⟩ ⟨[]⟩),wy147]⟩ ⟨[]⟩)]⟩ ⟨[]⟩),(.func (.yield (nat_lit 7)) ⟨[wi0,wi60,(.func (.yield (nat_lit 1)) ⟨[wi0,(.func (.yield (nat_lit 1)) ⟨[wi0,wm2,wy145]⟩ ⟨[]⟩),wy149]⟩ ⟨[]⟩)]⟩ ⟨[]⟩),(.func (.yield (nat_lit 6)) ⟨[wi0,wm59,(.func (.yield (nat_lit 2)) ⟨[wi0,(.func (.yield (nat_lit 1)) ⟨[wi0,wm2,wy150]⟩ ⟨[]⟩),wy152]⟩ ⟨[]⟩)]⟩ ⟨[]⟩),(.func (.yield (nat_lit 7)) ⟨[wi0,wi60,(.func (.yield (nat_lit 1)) ⟨[wi0,(.func (.yield (nat_lit 1)) ⟨[wi0,wm2,wy150]⟩ ⟨[]⟩),wy154]⟩ ⟨[]⟩)]⟩ ⟨[]⟩)]))),((nat_lit 6),none),((nat_lit 10),(some (.cells [(.func (.yield (nat_lit 6)) ⟨[wi0,wm59,(.func (.yield (nat_lit 2)) ⟨[wi0,(.func (.yield (nat_lit 1)) ⟨[wi0,wm2,wy140]⟩ ⟨[]⟩),wy142]⟩ ⟨[]⟩)]⟩ ⟨[]⟩),(.func (.yield (nat_lit 7)) ⟨[wi0,wi60,(.func (.yield (nat_lit 1)) ⟨[wi0,(.func (.yield (nat_lit 1)) ⟨[wi0,wm2,wy140]⟩ ⟨[]⟩),wy144]⟩ ⟨[]⟩)]⟩ ⟨[]⟩)]))),((nat_lit 14),none)]⟩
theorem run3_ok {s : Int} (hS : @SymOK (jobRho s) asm3) : @CFact (jobRho s) Try.prog run3 := @cfact (jobRho s) asm3 hS Try.prog (@mixed (jobRho s) asm3 hS) tab (@tab_ok (jobRho s) asm3 hS) jobKb (@jobKb_ok asm3 s hS) run3 10000 (by kernel_rfl) (by kernel_rfl)
end
end Go.Sim.JD
/- JobOf(p, 3, 1), whatever the pot. -/
namespace Go.Sim.JD
set_option linter.all false
open Go Go.RowKit Go.Proofs Go.Proofs.Ytadmcafbffjjbaa
set_option maxRecDepth 1000000
noncomputable section
theorem ltJ [Rho] [Asm] [SymOK] {a b : Value} {v : Bool} {k : IntKind} {x y : Int} (h : DenB (nd 21 a [b]) v) (ha : Den a k x) (hb : Den b k y) : v = decide (x < y) := by
  cases h with
  | lt h1 h2 =>
    obtain ⟨rfl,rfl⟩ := ha.one h1
    obtain ⟨_,rfl⟩ := hb.one h2
    rfl
inductive DLs [Rho] : List Value → List Int → Prop
  | nil : DLs [] []
  | cons {v : Value} {x : Int} {l : List Value} {xs : List Int} : Den v .i64 x → DLs l xs → DLs (v :: l) (x :: xs)
theorem DLs.only [Rho] [Asm] [SymOK] {l : List Value} {xs : List Int} (h : DLs l xs) : ∀ {ι : Io} {l' : List Value},LR ι l l' → l' = xs.map fun n => .int .i64 n := by
  induction h with
  | nil => intro ι l' h; cases h; rfl
  | cons hd _ ih =>
    intro ι l' h
    cases h with
    | cons hv hl => rw [hd.only hv,ih hl]; rfl
theorem LR.app [Rho] {ι : Io} : ∀ {a b l : List Value},LR ι (a ++ b) l → ∃ x y,l = x ++ y ∧ LR ι a x ∧ LR ι b y
  | [],b,l,h => ⟨[],l,rfl,.nil,h⟩
  | v :: a,b,l,h => by
    cases h with
    | cons hv hl =>
      obtain ⟨x,y,rfl,h1,h2⟩ := LR.app (a := a) hl
      exact ⟨_ :: x,y,rfl,.cons hv h1,h2⟩
/-- The pot's block alone has been changed. -/
structure Jk (b : Nat) (w w' : World) : Prop where
  os : w'.os = w.os
  tape : w'.tape = w.tape
  output : w'.output = w.output
  size : w.heap.size ≤ w'.heap.size
  heap : ∀ k,k < w.heap.size → k ≠ b → w'.heap[k]? = w.heap[k]?
def potI (b : Nat) : Io := fun x => match x with
  | 0 => some (b,1)
  | _ + 1 => none
def potSt : St := ⟨layB [.cells [sy .u64 (nat_lit 0)]] (nat_lit 0) .e,(nat_lit 1),(nat_lit 1),[]⟩
theorem potSt_get [Rho] [Asm] [SymOK] (x : Nat) : potSt.h.get x = if x = 0 then some (.cells [sy .u64 (nat_lit 0)]) else none := by
  show (layB [.cells [sy .u64 (nat_lit 0)]] 0 .e).get x = _
  rw [layB_get (by decide) x]
  by_cases h : x = 0
  · subst h; rfl
  · rw [if_neg h,if_neg (by simp; omega)]; exact Tr.get_e _
theorem potI_inv {b x r c : Nat} (h : potI b x = some (r,c)) : x = 0 ∧ r = b ∧ c = 1 := by
  cases x with
  | zero => cases h; exact ⟨rfl,rfl,rfl⟩
  | succ x => cases h
theorem pot_wr [Rho] [Asm] [SymOK] {s : Int} (hs : Rho.ρ (nat_lit 0) = s) (hB : Rho.B = 0) {b : Nat} {t : TypeId} {w : World} (hb : Bk w b t #[.int .u64 s]) : WR Try.prog (potI b) potSt w :=
  WR.mk
    (fun x o hx => by
      rw [potSt_get] at hx
      split at hx
      · rename_i e
        subst e
        cases hx
        exact ⟨b,1,_,rfl,hb,#[.int .u64 s],t,rfl,rfl,[.int .u64 s],[],rfl,.cons (by rw [← hs]; exact .sym (.sym _ _)) .nil⟩
      · cases hx)
    (fun x y r c c' _ _ h1 h2 => by rw [(potI_inv h1).1,(potI_inv h2).1])
    (fun x r c h => by obtain ⟨_,rfl,_⟩ := potI_inv h; exact hb.lt)
    (fun x r h => by obtain ⟨r,c⟩ := r; rw [(potI_inv h).1]; exact Nat.zero_lt_one)
    (by show (1 : Nat) ≤ limH; decide)
    (Nat.le_refl _) (fun _ h => by cases h)
    (fun g c hg => by
      have := gsize_lt hg
      have e : Try.prog.globals.size = 0 := by kernel_rfl
      omega)
    ⟨fun _ _ _ _ => .inr (by rw [hB]; exact Nat.zero_le _),by rw [hB]; exact Nat.zero_le _,fun k _ h => by rw [hB] at h; exact absurd h (Nat.not_lt_zero _)⟩
theorem job_enter [Rho] [Asm] [SymOK] {s : Int} (hs : Rho.ρ (nat_lit 0) = s) (hB : Rho.B = 0) {b : Nat} {t : TypeId} {w : World} (hb : Bk w b t #[.int .u64 s]) {v : Value} {n1 : Nat} {upd : List (Nat × Option LO)} (hk : CFact Try.prog ⟨.func (.func (nat_lit 10)) ⟨[]⟩ ⟨[]⟩,[.pointer (some ⟨(nat_lit 0),(nat_lit 0),none⟩),.int .i64 (.ofNat (nat_lit 3)),.int .i64 (.ofNat (nat_lit 1))],potSt,v,n1,[(nat_lit 0)],upd⟩) :
    Calls Try.prog 10 #[.pointer (some ⟨b,0,none⟩),.int .i64 3,.int .i64 1] w fun e w' => ∃ v' ι',e = .returned v' ∧ VR ι' v v' ∧ (∀ x o,(applyU upd potSt.h).get x = some o → ∃ r c y,ι' x = some (r,c) ∧ w'.heap[r]? = some y ∧ OR Try.prog ι' c o y) ∧ (∀ x r c,ι' x = some (r,c) → r < w'.heap.size) ∧ ι' (nat_lit 0) = some (b,1) ∧ Jk b w w' := by
  rcases hk.2 (potI b) w (.func (.func (nat_lit 10)) #[] #[]) [.pointer (some ⟨b,0,none⟩),.int .i64 3,.int .i64 1] (.func (fun _ e => by cases e) .nil .nil) (.cons (.ptr (b := 0) (c := 1) rfl) (.cons (.int _ _) (.cons (.int _ _) .nil))) (pot_wr hs hB hb) with ⟨g,xs,ys,fn,hf,hfn,hbd,hname,hcall⟩ | ⟨r,lp,hf,_⟩
  · cases hf
    have hcall := hcall 0
    simp only [List.nil_append,List.append_nil] at hcall
    refine callsIn_wide.1 (CallsIn.mono hcall ?_)
    rintro e w' ⟨v',rfl,ι',hv,hp⟩
    refine ⟨v',ι',rfl,hv,hp.wr.obj,hp.wr.bound,hp.ext _ _ rfl,hp.os,hp.tape,hp.output,hp.size,fun k hk hkb => hp.frame k hk fun x c hx => ?_⟩
    exact absurd (potI_inv hx).2.1 hkb
  · cases hf
theorem pot_of [Rho] [Asm] [SymOK] {ι : Io} {w : World} {r : Nat} {cs : Array Value} {t : TypeId} {l' tl : List Value} {i : Nat} (h : w.heap[r]? = some (.cells cs t (0,0))) (hs : cs.size = 1) (hc : cs.toList = l' ++ tl) (hl : LR ι [sy .u64 i] l') : ∃ t s,Bk w r t #[.int .u64 s] := by
  cases hl with
  | cons hv hl =>
    cases hl
    have hv := sy_inv hv
    subst hv
    refine ⟨t,Rho.ρ i,?_⟩
    have e : cs = #[.int .u64 (Rho.ρ i)] := by
      obtain ⟨q⟩ := cs
      cases tl with
      | nil => simpa using hc
      | cons x tl => have e := congrArg List.length hc; simp at hs e; omega
    rw [← e]
    exact h
theorem slUI [Rho] {ι : Io} {b n z : Nat} {v' : Value} (h : VR ι (.slice (some ⟨b,(nat_lit 0),none⟩) n z) v') : ∃ r c k,v' = .slice (some ⟨r,0,none⟩) n k ∧ ι b = some (r,c) := by
  generalize hq : z = q at h
  cases h with
  | sl hb hk => exact ⟨_,_,_,rfl,hb⟩
  | slU hb h1 h2 h3 h4 => exact ⟨_,_,_,rfl,hb⟩
theorem rg_of {w : World} {r : Nat} {cs : Array Value} {t : TypeId} {l : List R2} {tl : List Value} {B : Nat} (h : w.heap[r]? = some (.cells cs t (0,0))) (hc : cs.toList = rgCells l ++ tl) (hB : r < B) : Go.Proofs.Ytadmcafbffjjbaa.Rg w B (some ⟨r,0,none⟩) l := fun k q hq => by
  obtain ⟨h1,h2⟩ := rgCells_at l k q hq
  have at_ : ∀ i v,(rgCells l)[i]? = some v → w.cell? ⟨r,0 + i,none⟩ = some v := fun i v hv => by
    rw [cell_of_row w r (0 + i) cs t (0,0) h,Nat.zero_add,← Array.getElem?_toList,hc]
    rw [List.getElem?_append_left (List.getElem?_eq_some_iff.1 hv).1]
    exact hv
  exact ⟨r,0,rfl,hB,at_ _ _ h1,at_ _ _ h2⟩
/-- What JobOf hands back. -/
def JobEnd (s : Int) (b n : Nat) (w : World) (e : Ending) (w' : World) : Prop :=
  ∃ a c,e = .returned (.agg (jobC (jobJ s n) (.slice a n c))) ∧ Go.Proofs.Ytadmcafbffjjbaa.Rg w' w'.heap.size a (jobS s |>.take n) ∧ (∃ t s,Bk w' b t #[.int .u64 s]) ∧ Jk b w w'
theorem sym0 {s : Int} (h : res39 s = 0) : @SymOK (jobRho s) asm0 := @SymOK.mk (jobRho s) asm0 fun c hc b hb => by
  have hr : @Rho.ρ (jobRho s) (nat_lit 139) = 0 := h
  replace hc : c = ((.func (.yield (nat_lit 21)) ⟨[wi0,wy139]⟩ ⟨[]⟩),false) := by have hc : c ∈ [((.func (.yield (nat_lit 21)) ⟨[wi0,wy139]⟩ ⟨[]⟩),false)] := hc; simpa only [List.mem_cons,List.not_mem_nil,or_false] using hc
  rcases hc with rfl
  · letI := jobRho s; letI := Asm.none; haveI : SymOK := SymOK.none; have e := ltJ (k := .i64) hb (.lit _ _) (.sym _ _); rw [e,hr]; decide
theorem job0 {s : Int} {b : Nat} {t : TypeId} {w : World} (hb : Bk w b t #[.int .u64 s]) (h : res39 s = 0) : Calls Try.prog 10 #[.pointer (some ⟨b,0,none⟩),.int .i64 3,.int .i64 1] w (JobEnd s b 0 w) := by
  letI := jobRho s
  letI := asm0
  haveI := sym0 h
  refine (job_enter (s := s) rfl rfl hb (run0_ok (sym0 h))).mono ?_
  rintro e w' ⟨v',ι',rfl,hv,hobj,hbd,hι0,hk⟩
  have hpot : ∃ t s,Bk w' b t #[.int .u64 s] := by
    obtain ⟨r',c',o,e1,e2,cs,t',rfl,e3,l',tl,e4,e5⟩ := hobj (nat_lit 0) (.cells [(.func (.yield (nat_lit 0)) ⟨[(.int .u64 (.ofNat (nat_lit 40)))]⟩ ⟨[]⟩)]) (by kernel_rfl)
    rw [hι0] at e1
    cases e1
    exact pot_of e2 e3 e4 e5
  obtain ⟨l,rfl,hl⟩ := hv.aggI
  obtain ⟨x,y,rfl,h1,h2⟩ := LR.app (a := [(.func (.yield (nat_lit 6)) ⟨[wi0,wm59,(.func (.yield (nat_lit 2)) ⟨[wi0,(.func (.yield (nat_lit 1)) ⟨[wi0,wm15,wy103]⟩ ⟨[]⟩),wy105]⟩ ⟨[]⟩)]⟩ ⟨[]⟩),(.func (.yield (nat_lit 7)) ⟨[wi0,wi60,(.func (.yield (nat_lit 1)) ⟨[wi0,(.func (.yield (nat_lit 1)) ⟨[wi0,wm15,wy103]⟩ ⟨[]⟩),wy107]⟩ ⟨[]⟩)]⟩ ⟨[]⟩),(.func (.yield (nat_lit 6)) ⟨[wi0,wi0,(.func (.yield (nat_lit 2)) ⟨[wi0,(.func (.yield (nat_lit 1)) ⟨[wi0,wi20,wy108]⟩ ⟨[]⟩),wy110]⟩ ⟨[]⟩)]⟩ ⟨[]⟩),(.func (.yield (nat_lit 7)) ⟨[wi0,wi100,(.func (.yield (nat_lit 1)) ⟨[wi0,(.func (.yield (nat_lit 1)) ⟨[wi0,wi20,wy108]⟩ ⟨[]⟩),wy112]⟩ ⟨[]⟩)]⟩ ⟨[]⟩),(.func (.yield (nat_lit 6)) ⟨[wi0,wi0,(.func (.yield (nat_lit 2)) ⟨[wi0,(.func (.yield (nat_lit 1)) ⟨[wi0,wi20,wy113]⟩ ⟨[]⟩),wy115]⟩ ⟨[]⟩)]⟩ ⟨[]⟩),(.func (.yield (nat_lit 7)) ⟨[wi0,wi100,(.func (.yield (nat_lit 1)) ⟨[wi0,(.func (.yield (nat_lit 1)) ⟨[wi0,wi20,wy113]⟩ ⟨[]⟩),wy117]⟩ ⟨[]⟩)]⟩ ⟨[]⟩),(.func (.yield (nat_lit 6)) ⟨[wi0,wi0,(.func (.yield (nat_lit 2)) ⟨[wi0,(.func (.yield (nat_lit 1)) ⟨[wi0,wi1,wy118]⟩ ⟨[]⟩),wy120]⟩ ⟨[]⟩)]⟩ ⟨[]⟩),(.func (.yield (nat_lit 7)) ⟨[wi0,wi12,(.func (.yield (nat_lit 1)) ⟨[wi0,(.func (.yield (nat_lit 1)) ⟨[wi0,wi1,wy118]⟩ ⟨[]⟩),wy122]⟩ ⟨[]⟩)]⟩ ⟨[]⟩),(.func (.yield (nat_lit 6)) ⟨[wi0,wi0,(.func (.yield (nat_lit 2)) ⟨[wi0,(.func (.yield (nat_lit 1)) ⟨[wi0,wi1,wy123]⟩ ⟨[]⟩),wy125]⟩ ⟨[]⟩)]⟩ ⟨[]⟩),(.func (.yield (nat_lit 7)) ⟨[wi0,wi12,(.func (.yield (nat_lit 1)) ⟨[wi0,(.func (.yield (nat_lit 1)) ⟨[wi0,wi1,wy123]⟩ ⟨[]⟩),wy127]⟩ ⟨[]⟩)]⟩ ⟨[]⟩),(.func (.yield (nat_lit 6)) ⟨[wi0,wi0,(.func (.yield (nat_lit 2)) ⟨[wi0,wy128,wy130]⟩ ⟨[]⟩)]⟩ ⟨[]⟩),(.func (.yield (nat_lit 7)) ⟨[wi0,wi12,(.func (.yield (nat_lit 1)) ⟨[wi0,wy128,wy132]⟩ ⟨[]⟩)]⟩ ⟨[]⟩),(.func (.yield (nat_lit 6)) ⟨[wi0,wi0,(.func (.yield (nat_lit 2)) ⟨[wi0,wy133,wy135]⟩ ⟨[]⟩)]⟩ ⟨[]⟩),(.func (.yield (nat_lit 7)) ⟨[wi0,wi12,(.func (.yield (nat_lit 1)) ⟨[wi0,wy133,wy137]⟩ ⟨[]⟩)]⟩ ⟨[]⟩),(.func (.yield (nat_lit 1)) ⟨[wi0,wi10,wy138]⟩ ⟨[]⟩)]) (b := (.slice none (nat_lit 0) (nat_lit 0)) :: [(.func (.yield (nat_lit 1)) ⟨[wi0,wi1,wy100]⟩ ⟨[]⟩),wy102]) hl
  have e1 := DLs.only (.cons (.max (.lit _ _) (.sub (.add (.lit _ _) (.sym _ _)) (.sym _ _))) (.cons (.min (.lit _ _) (.add (.add (.lit _ _) (.sym _ _)) (.sym _ _))) (.cons (.max (.lit _ _) (.sub (.add (.lit _ _) (.sym _ _)) (.sym _ _))) (.cons (.min (.lit _ _) (.add (.add (.lit _ _) (.sym _ _)) (.sym _ _))) (.cons (.max (.lit _ _) (.sub (.add (.lit _ _) (.sym _ _)) (.sym _ _))) (.cons (.min (.lit _ _) (.add (.add (.lit _ _) (.sym _ _)) (.sym _ _))) (.cons (.max (.lit _ _) (.sub (.add (.lit _ _) (.sym _ _)) (.sym _ _))) (.cons (.min (.lit _ _) (.add (.add (.lit _ _) (.sym _ _)) (.sym _ _))) (.cons (.max (.lit _ _) (.sub (.add (.lit _ _) (.sym _ _)) (.sym _ _))) (.cons (.min (.lit _ _) (.add (.add (.lit _ _) (.sym _ _)) (.sym _ _))) (.cons (.max (.lit _ _) (.sub (.sym _ _) (.sym _ _))) (.cons (.min (.lit _ _) (.add (.sym _ _) (.sym _ _))) (.cons (.max (.lit _ _) (.sub (.sym _ _) (.sym _ _))) (.cons (.min (.lit _ _) (.add (.sym _ _) (.sym _ _))) (.cons (.add (.lit _ _) (.sym _ _)) .nil))))))))))))))) h1
  cases h2 with
  | cons hs h3 =>
    have e3 := DLs.only (.cons (.add (.lit _ _) (.sym _ _)) (.cons (.sym _ _) .nil)) h3
    subst e1 e3
    have hsl := hs.sl0I (by decide)
    subst hsl
    exact ⟨none,0,rfl,Go.Proofs.Ytadmcafbffjjbaa.Rg.nil _ _ _,hpot,hk⟩
theorem sym1 {s : Int} (h : res39 s = 1) : @SymOK (jobRho s) asm1 := @SymOK.mk (jobRho s) asm1 fun c hc b hb => by
  have hr : @Rho.ρ (jobRho s) (nat_lit 139) = 1 := h
  replace hc : c = ((.func (.yield (nat_lit 21)) ⟨[wi0,wy139]⟩ ⟨[]⟩),true) ∨ c = ((.func (.yield (nat_lit 21)) ⟨[wi0,(.func (.yield (nat_lit 2)) ⟨[wi0,wy139,wi1]⟩ ⟨[]⟩)]⟩ ⟨[]⟩),false) := by have hc : c ∈ [((.func (.yield (nat_lit 21)) ⟨[wi0,wy139]⟩ ⟨[]⟩),true),((.func (.yield (nat_lit 21)) ⟨[wi0,(.func (.yield (nat_lit 2)) ⟨[wi0,wy139,wi1]⟩ ⟨[]⟩)]⟩ ⟨[]⟩),false)] := hc; simpa only [List.mem_cons,List.not_mem_nil,or_false] using hc
  rcases hc with rfl | rfl
  · letI := jobRho s; letI := Asm.none; haveI : SymOK := SymOK.none; have e := ltJ (k := .i64) hb (.lit _ _) (.sym _ _); rw [e,hr]; decide
  · letI := jobRho s; letI := Asm.none; haveI : SymOK := SymOK.none; have e := ltJ (k := .i64) hb (.lit _ _) (.sub (.sym _ _) (.lit _ _)); rw [e,hr]; decide
theorem job1 {s : Int} {b : Nat} {t : TypeId} {w : World} (hb : Bk w b t #[.int .u64 s]) (h : res39 s = 1) : Calls Try.prog 10 #[.pointer (some ⟨b,0,none⟩),.int .i64 3,.int .i64 1] w (JobEnd s b 1 w) := by
  letI := jobRho s
  letI := asm1
  haveI := sym1 h
  refine (job_enter (s := s) rfl rfl hb (run1_ok (sym1 h))).mono ?_
  rintro e w' ⟨v',ι',rfl,hv,hobj,hbd,hι0,hk⟩
  have hpot : ∃ t s,Bk w' b t #[.int .u64 s] := by
    obtain ⟨r',c',o,e1,e2,cs,t',rfl,e3,l',tl,e4,e5⟩ := hobj (nat_lit 0) (.cells [(.func (.yield (nat_lit 0)) ⟨[(.int .u64 (.ofNat (nat_lit 45)))]⟩ ⟨[]⟩)]) (by kernel_rfl)
    rw [hι0] at e1
    cases e1
    exact pot_of e2 e3 e4 e5
  obtain ⟨l,rfl,hl⟩ := hv.aggI
  obtain ⟨x,y,rfl,h1,h2⟩ := LR.app (a := [(.func (.yield (nat_lit 6)) ⟨[wi0,wm59,(.func (.yield (nat_lit 2)) ⟨[wi0,(.func (.yield (nat_lit 1)) ⟨[wi0,wm15,wy103]⟩ ⟨[]⟩),wy105]⟩ ⟨[]⟩)]⟩ ⟨[]⟩),(.func (.yield (nat_lit 7)) ⟨[wi0,wi60,(.func (.yield (nat_lit 1)) ⟨[wi0,(.func (.yield (nat_lit 1)) ⟨[wi0,wm15,wy103]⟩ ⟨[]⟩),wy107]⟩ ⟨[]⟩)]⟩ ⟨[]⟩),(.func (.yield (nat_lit 6)) ⟨[wi0,wi0,(.func (.yield (nat_lit 2)) ⟨[wi0,(.func (.yield (nat_lit 1)) ⟨[wi0,wi20,wy108]⟩ ⟨[]⟩),wy110]⟩ ⟨[]⟩)]⟩ ⟨[]⟩),(.func (.yield (nat_lit 7)) ⟨[wi0,wi100,(.func (.yield (nat_lit 1)) ⟨[wi0,(.func (.yield (nat_lit 1)) ⟨[wi0,wi20,wy108]⟩ ⟨[]⟩),wy112]⟩ ⟨[]⟩)]⟩ ⟨[]⟩),(.func (.yield (nat_lit 6)) ⟨[wi0,wi0,(.func (.yield (nat_lit 2)) ⟨[wi0,(.func (.yield (nat_lit 1)) ⟨[wi0,wi20,wy113]⟩ ⟨[]⟩),wy115]⟩ ⟨[]⟩)]⟩ ⟨[]⟩),(.func (.yield (nat_lit 7)) ⟨[wi0,wi100,(.func (.yield (nat_lit 1)) ⟨[wi0,(.func (.yield (nat_lit 1)) ⟨[wi0,wi20,wy113]⟩ ⟨[]⟩),wy117]⟩ ⟨[]⟩)]⟩ ⟨[]⟩),(.func (.yield (nat_lit 6)) ⟨[wi0,wi0,(.func (.yield (nat_lit 2)) ⟨[wi0,(.func (.yield (nat_lit 1)) ⟨[wi0,wi1,wy118]⟩ ⟨[]⟩),wy120]⟩ ⟨[]⟩)]⟩ ⟨[]⟩),(.func (.yield (nat_lit 7)) ⟨[wi0,wi12,(.func (.yield (nat_lit 1)) ⟨[wi0,(.func (.yield (nat_lit 1)) ⟨[wi0,wi1,wy118]⟩ ⟨[]⟩),wy122]⟩ ⟨[]⟩)]⟩ ⟨[]⟩),(.func (.yield (nat_lit 6)) ⟨[wi0,wi0,(.func (.yield (nat_lit 2)) ⟨[wi0,(.func (.yield (nat_lit 1)) ⟨[wi0,wi1,wy123]⟩ ⟨[]⟩),wy125]⟩ ⟨[]⟩)]⟩ ⟨[]⟩),(.func (.yield (nat_lit 7)) ⟨[wi0,wi12,(.func (.yield (nat_lit 1)) ⟨[wi0,(.func (.yield (nat_lit 1)) ⟨[wi0,wi1,wy123]⟩ ⟨[]⟩),wy127]⟩ ⟨[]⟩)]⟩ ⟨[]⟩),(.func (.yield (nat_lit 6)) ⟨[wi0,wi0,(.func (.yield (nat_lit 2)) ⟨[wi0,wy128,wy130]⟩ ⟨[]⟩)]⟩ ⟨[]⟩),(.func (.yield (nat_lit 7)) ⟨[wi0,wi12,(.func (.yield (nat_lit 1)) ⟨[wi0,wy128,wy132]⟩ ⟨[]⟩)]⟩ ⟨[]⟩),(.func (.yield (nat_lit 6)) ⟨[wi0,wi0,(.func (.yield (nat_lit 2)) ⟨[wi0,wy133,wy135]⟩ ⟨[]⟩)]⟩ ⟨[]⟩),(.func (.yield (nat_lit 7)) ⟨[wi0,wi12,(.func (.yield (nat_lit 1)) ⟨[wi0,wy133,wy137]⟩ ⟨[]⟩)]⟩ ⟨[]⟩),(.func (.yield (nat_lit 1)) ⟨[wi0,wi10,wy138]⟩ ⟨[]⟩)]) (b := (.slice (some ⟨(nat_lit 14),(nat_lit 0),none⟩) (nat_lit 1) (nat_lit 18446744073709551618)) :: [(.func (.yield (nat_lit 1)) ⟨[wi0,wi1,wy100]⟩ ⟨[]⟩),wy102]) hl
  have e1 := DLs.only (.cons (.max (.lit _ _) (.sub (.add (.lit _ _) (.sym _ _)) (.sym _ _))) (.cons (.min (.lit _ _) (.add (.add (.lit _ _) (.sym _ _)) (.sym _ _))) (.cons (.max (.lit _ _) (.sub (.add (.lit _ _) (.sym _ _)) (.sym _ _))) (.cons (.min (.lit _ _) (.add (.add (.lit _ _) (.sym _ _)) (.sym _ _))) (.cons (.max (.lit _ _) (.sub (.add (.lit _ _) (.sym _ _)) (.sym _ _))) (.cons (.min (.lit _ _) (.add (.add (.lit _ _) (.sym _ _)) (.sym _ _))) (.cons (.max (.lit _ _) (.sub (.add (.lit _ _) (.sym _ _)) (.sym _ _))) (.cons (.min (.lit _ _) (.add (.add (.lit _ _) (.sym _ _)) (.sym _ _))) (.cons (.max (.lit _ _) (.sub (.add (.lit _ _) (.sym _ _)) (.sym _ _))) (.cons (.min (.lit _ _) (.add (.add (.lit _ _) (.sym _ _)) (.sym _ _))) (.cons (.max (.lit _ _) (.sub (.sym _ _) (.sym _ _))) (.cons (.min (.lit _ _) (.add (.sym _ _) (.sym _ _))) (.cons (.max (.lit _ _) (.sub (.sym _ _) (.sym _ _))) (.cons (.min (.lit _ _) (.add (.sym _ _) (.sym _ _))) (.cons (.add (.lit _ _) (.sym _ _)) .nil))))))))))))))) h1
  cases h2 with
  | cons hs h3 =>
    have e3 := DLs.only (.cons (.add (.lit _ _) (.sym _ _)) (.cons (.sym _ _) .nil)) h3
    subst e1 e3
    obtain ⟨r,cc,cp,rfl,hι⟩ := slUI hs
    obtain ⟨r',c',o,e1,e2,cs,t',rfl,e3,l',tl,e4,e5⟩ := hobj (nat_lit 14) (.cells [(.func (.yield (nat_lit 6)) ⟨[wi0,wm59,(.func (.yield (nat_lit 2)) ⟨[wi0,(.func (.yield (nat_lit 1)) ⟨[wi0,wm2,wy140]⟩ ⟨[]⟩),wy142]⟩ ⟨[]⟩)]⟩ ⟨[]⟩),(.func (.yield (nat_lit 7)) ⟨[wi0,wi60,(.func (.yield (nat_lit 1)) ⟨[wi0,(.func (.yield (nat_lit 1)) ⟨[wi0,wm2,wy140]⟩ ⟨[]⟩),wy144]⟩ ⟨[]⟩)]⟩ ⟨[]⟩)]) (by kernel_rfl)
    rw [hι] at e1
    cases e1
    have e6 := DLs.only (.cons (.max (.lit _ _) (.sub (.add (.lit _ _) (.sym _ _)) (.sym _ _))) (.cons (.min (.lit _ _) (.add (.add (.lit _ _) (.sym _ _)) (.sym _ _))) .nil)) e5
    subst e6
    refine ⟨some ⟨r,0,none⟩,cp,rfl,?_,hpot,hk⟩
    exact rg_of (l := (jobS s).take 1) e2 (by rw [e4]; rfl) (hbd _ _ _ hι)
theorem sym2 {s : Int} (h : res39 s = 2) : @SymOK (jobRho s) asm2 := @SymOK.mk (jobRho s) asm2 fun c hc b hb => by
  have hr : @Rho.ρ (jobRho s) (nat_lit 139) = 2 := h
  replace hc : c = ((.func (.yield (nat_lit 21)) ⟨[wi0,wy139]⟩ ⟨[]⟩),true) ∨ c = ((.func (.yield (nat_lit 21)) ⟨[wi0,(.func (.yield (nat_lit 2)) ⟨[wi0,wy139,wi1]⟩ ⟨[]⟩)]⟩ ⟨[]⟩),true) ∨ c = ((.func (.yield (nat_lit 21)) ⟨[wi0,(.func (.yield (nat_lit 2)) ⟨[wi0,(.func (.yield (nat_lit 2)) ⟨[wi0,wy139,wi1]⟩ ⟨[]⟩),wi1]⟩ ⟨[]⟩)]⟩ ⟨[]⟩),false) := by have hc : c ∈ [((.func (.yield (nat_lit 21)) ⟨[wi0,wy139]⟩ ⟨[]⟩),true),((.func (.yield (nat_lit 21)) ⟨[wi0,(.func (.yield (nat_lit 2)) ⟨[wi0,wy139,wi1]⟩ ⟨[]⟩)]⟩ ⟨[]⟩),true),((.func (.yield (nat_lit 21)) ⟨[wi0,(.func (.yield (nat_lit 2)) ⟨[wi0,(.func (.yield (nat_lit 2)) ⟨[wi0,wy139,wi1]⟩ ⟨[]⟩),wi1]⟩ ⟨[]⟩)]⟩ ⟨[]⟩),false)] := hc; simpa only [List.mem_cons,List.not_mem_nil,or_false] using hc
  rcases hc with rfl | rfl | rfl
  · letI := jobRho s; letI := Asm.none; haveI : SymOK := SymOK.none; have e := ltJ (k := .i64) hb (.lit _ _) (.sym _ _); rw [e,hr]; decide
  · letI := jobRho s; letI := Asm.none; haveI : SymOK := SymOK.none; have e := ltJ (k := .i64) hb (.lit _ _) (.sub (.sym _ _) (.lit _ _)); rw [e,hr]; decide
  · letI := jobRho s; letI := Asm.none; haveI : SymOK := SymOK.none; have e := ltJ (k := .i64) hb (.lit _ _) (.sub (.sub (.sym _ _) (.lit _ _)) (.lit _ _)); rw [e,hr]; decide
theorem job2 {s : Int} {b : Nat} {t : TypeId} {w : World} (hb : Bk w b t #[.int .u64 s]) (h : res39 s = 2) : Calls Try.prog 10 #[.pointer (some ⟨b,0,none⟩),.int .i64 3,.int .i64 1] w (JobEnd s b 2 w) := by
  letI := jobRho s
  letI := asm2
  haveI := sym2 h
  refine (job_enter (s := s) rfl rfl hb (run2_ok (sym2 h))).mono ?_
  rintro e w' ⟨v',ι',rfl,hv,hobj,hbd,hι0,hk⟩
  have hpot : ∃ t s,Bk w' b t #[.int .u64 s] := by
    obtain ⟨r',c',o,e1,e2,cs,t',rfl,e3,l',tl,e4,e5⟩ := hobj (nat_lit 0) (.cells [(.func (.yield (nat_lit 0)) ⟨[(.int .u64 (.ofNat (nat_lit 50)))]⟩ ⟨[]⟩)]) (by kernel_rfl)
    rw [hι0] at e1
    cases e1
    exact pot_of e2 e3 e4 e5
  obtain ⟨l,rfl,hl⟩ := hv.aggI
  obtain ⟨x,y,rfl,h1,h2⟩ := LR.app (a := [(.func (.yield (nat_lit 6)) ⟨[wi0,wm59,(.func (.yield (nat_lit 2)) ⟨[wi0,(.func (.yield (nat_lit 1)) ⟨[wi0,wm15,wy103]⟩ ⟨[]⟩),wy105]⟩ ⟨[]⟩)]⟩ ⟨[]⟩),(.func (.yield (nat_lit 7)) ⟨[wi0,wi60,(.func (.yield (nat_lit 1)) ⟨[wi0,(.func (.yield (nat_lit 1)) ⟨[wi0,wm15,wy103]⟩ ⟨[]⟩),wy107]⟩ ⟨[]⟩)]⟩ ⟨[]⟩),(.func (.yield (nat_lit 6)) ⟨[wi0,wi0,(.func (.yield (nat_lit 2)) ⟨[wi0,(.func (.yield (nat_lit 1)) ⟨[wi0,wi20,wy108]⟩ ⟨[]⟩),wy110]⟩ ⟨[]⟩)]⟩ ⟨[]⟩),(.func (.yield (nat_lit 7)) ⟨[wi0,wi100,(.func (.yield (nat_lit 1)) ⟨[wi0,(.func (.yield (nat_lit 1)) ⟨[wi0,wi20,wy108]⟩ ⟨[]⟩),wy112]⟩ ⟨[]⟩)]⟩ ⟨[]⟩),(.func (.yield (nat_lit 6)) ⟨[wi0,wi0,(.func (.yield (nat_lit 2)) ⟨[wi0,(.func (.yield (nat_lit 1)) ⟨[wi0,wi20,wy113]⟩ ⟨[]⟩),wy115]⟩ ⟨[]⟩)]⟩ ⟨[]⟩),(.func (.yield (nat_lit 7)) ⟨[wi0,wi100,(.func (.yield (nat_lit 1)) ⟨[wi0,(.func (.yield (nat_lit 1)) ⟨[wi0,wi20,wy113]⟩ ⟨[]⟩),wy117]⟩ ⟨[]⟩)]⟩ ⟨[]⟩),(.func (.yield (nat_lit 6)) ⟨[wi0,wi0,(.func (.yield (nat_lit 2)) ⟨[wi0,(.func (.yield (nat_lit 1)) ⟨[wi0,wi1,wy118]⟩ ⟨[]⟩),wy120]⟩ ⟨[]⟩)]⟩ ⟨[]⟩),(.func (.yield (nat_lit 7)) ⟨[wi0,wi12,(.func (.yield (nat_lit 1)) ⟨[wi0,(.func (.yield (nat_lit 1)) ⟨[wi0,wi1,wy118]⟩ ⟨[]⟩),wy122]⟩ ⟨[]⟩)]⟩ ⟨[]⟩),(.func (.yield (nat_lit 6)) ⟨[wi0,wi0,(.func (.yield (nat_lit 2)) ⟨[wi0,(.func (.yield (nat_lit 1)) ⟨[wi0,wi1,wy123]⟩ ⟨[]⟩),wy125]⟩ ⟨[]⟩)]⟩ ⟨[]⟩),(.func (.yield (nat_lit 7)) ⟨[wi0,wi12,(.func (.yield (nat_lit 1)) ⟨[wi0,(.func (.yield (nat_lit 1)) ⟨[wi0,wi1,wy123]⟩ ⟨[]⟩),wy127]⟩ ⟨[]⟩)]⟩ ⟨[]⟩),(.func (.yield (nat_lit 6)) ⟨[wi0,wi0,(.func (.yield (nat_lit 2)) ⟨[wi0,wy128,wy130]⟩ ⟨[]⟩)]⟩ ⟨[]⟩),(.func (.yield (nat_lit 7)) ⟨[wi0,wi12,(.func (.yield (nat_lit 1)) ⟨[wi0,wy128,wy132]⟩ ⟨[]⟩)]⟩ ⟨[]⟩),(.func (.yield (nat_lit 6)) ⟨[wi0,wi0,(.func (.yield (nat_lit 2)) ⟨[wi0,wy133,wy135]⟩ ⟨[]⟩)]⟩ ⟨[]⟩),(.func (.yield (nat_lit 7)) ⟨[wi0,wi12,(.func (.yield (nat_lit 1)) ⟨[wi0,wy133,wy137]⟩ ⟨[]⟩)]⟩ ⟨[]⟩),(.func (.yield (nat_lit 1)) ⟨[wi0,wi10,wy138]⟩ ⟨[]⟩)]) (b := (.slice (some ⟨(nat_lit 25),(nat_lit 0),none⟩) (nat_lit 2) (nat_lit 18446744073709551618)) :: [(.func (.yield (nat_lit 1)) ⟨[wi0,wi1,wy100]⟩ ⟨[]⟩),wy102]) hl
  have e1 := DLs.only (.cons (.max (.lit _ _) (.sub (.add (.lit _ _) (.sym _ _)) (.sym _ _))) (.cons (.min (.lit _ _) (.add (.add (.lit _ _) (.sym _ _)) (.sym _ _))) (.cons (.max (.lit _ _) (.sub (.add (.lit _ _) (.sym _ _)) (.sym _ _))) (.cons (.min (.lit _ _) (.add (.add (.lit _ _) (.sym _ _)) (.sym _ _))) (.cons (.max (.lit _ _) (.sub (.add (.lit _ _) (.sym _ _)) (.sym _ _))) (.cons (.min (.lit _ _) (.add (.add (.lit _ _) (.sym _ _)) (.sym _ _))) (.cons (.max (.lit _ _) (.sub (.add (.lit _ _) (.sym _ _)) (.sym _ _))) (.cons (.min (.lit _ _) (.add (.add (.lit _ _) (.sym _ _)) (.sym _ _))) (.cons (.max (.lit _ _) (.sub (.add (.lit _ _) (.sym _ _)) (.sym _ _))) (.cons (.min (.lit _ _) (.add (.add (.lit _ _) (.sym _ _)) (.sym _ _))) (.cons (.max (.lit _ _) (.sub (.sym _ _) (.sym _ _))) (.cons (.min (.lit _ _) (.add (.sym _ _) (.sym _ _))) (.cons (.max (.lit _ _) (.sub (.sym _ _) (.sym _ _))) (.cons (.min (.lit _ _) (.add (.sym _ _) (.sym _ _))) (.cons (.add (.lit _ _) (.sym _ _)) .nil))))))))))))))) h1
  cases h2 with
  | cons hs h3 =>
    have e3 := DLs.only (.cons (.add (.lit _ _) (.sym _ _)) (.cons (.sym _ _) .nil)) h3
    subst e1 e3
    obtain ⟨r,cc,cp,rfl,hι⟩ := slUI hs
    obtain ⟨r',c',o,e1,e2,cs,t',rfl,e3,l',tl,e4,e5⟩ := hobj (nat_lit 25) (.cells [(.func (.yield (nat_lit 6)) ⟨[wi0,wm59,(.func (.yield (nat_lit 2)) ⟨[wi0,(.func (.yield (nat_lit 1)) ⟨[wi0,wm2,wy140]⟩ ⟨[]⟩),wy142]⟩ ⟨[]⟩)]⟩ ⟨[]⟩),(.func (.yield (nat_lit 7)) ⟨[wi0,wi60,(.func (.yield (nat_lit 1)) ⟨[wi0,(.func (.yield (nat_lit 1)) ⟨[wi0,wm2,wy140]⟩ ⟨[]⟩),wy144]⟩ ⟨[]⟩)]⟩ ⟨[]⟩),(.func (.yield (nat_lit 6)) ⟨[wi0,wm59,(.func (.yield (nat_lit 2)) ⟨[wi0,(.func (.yield (nat_lit 1)) ⟨[wi0,wm2,wy145]⟩ ⟨[]⟩),wy147]⟩ ⟨[]⟩)]⟩ ⟨[]⟩),(.func (.yield (nat_lit 7)) ⟨[wi0,wi60,(.func (.yield (nat_lit 1)) ⟨[wi0,(.func (.yield (nat_lit 1)) ⟨[wi0,wm2,wy145]⟩ ⟨[]⟩),wy149]⟩ ⟨[]⟩)]⟩ ⟨[]⟩)]) (by kernel_rfl)
    rw [hι] at e1
    cases e1
    have e6 := DLs.only (.cons (.max (.lit _ _) (.sub (.add (.lit _ _) (.sym _ _)) (.sym _ _))) (.cons (.min (.lit _ _) (.add (.add (.lit _ _) (.sym _ _)) (.sym _ _))) (.cons (.max (.lit _ _) (.sub (.add (.lit _ _) (.sym _ _)) (.sym _ _))) (.cons (.min (.lit _ _) (.add (.add (.lit _ _) (.sym _ _)) (.sym _ _))) .nil)))) e5
    subst e6
    refine ⟨some ⟨r,0,none⟩,cp,rfl,?_,hpot,hk⟩
    exact rg_of (l := (jobS s).take 2) e2 (by rw [e4]; rfl) (hbd _ _ _ hι)
theorem sym3 {s : Int} (h : res39 s = 3) : @SymOK (jobRho s) asm3 := @SymOK.mk (jobRho s) asm3 fun c hc b hb => by
  have hr : @Rho.ρ (jobRho s) (nat_lit 139) = 3 := h
  replace hc : c = ((.func (.yield (nat_lit 21)) ⟨[wi0,wy139]⟩ ⟨[]⟩),true) ∨ c = ((.func (.yield (nat_lit 21)) ⟨[wi0,(.func (.yield (nat_lit 2)) ⟨[wi0,wy139,wi1]⟩ ⟨[]⟩)]⟩ ⟨[]⟩),true) ∨ c = ((.func (.yield (nat_lit 21)) ⟨[wi0,(.func (.yield (nat_lit 2)) ⟨[wi0,(.func (.yield (nat_lit 2)) ⟨[wi0,wy139,wi1]⟩ ⟨[]⟩),wi1]⟩ ⟨[]⟩)]⟩ ⟨[]⟩),true) ∨ c = ((.func (.yield (nat_lit 21)) ⟨[wi0,(.func (.yield (nat_lit 2)) ⟨[wi0,(.func (.yield (nat_lit 2)) ⟨[wi0,(.func (.yield (nat_lit 2)) ⟨[wi0,wy139,wi1]⟩ ⟨[]⟩),wi1]⟩ ⟨[]⟩),wi1]⟩ ⟨[]⟩)]⟩ ⟨[]⟩),false) := by have hc : c ∈ [((.func (.yield (nat_lit 21)) ⟨[wi0,wy139]⟩ ⟨[]⟩),true),((.func (.yield (nat_lit 21)) ⟨[wi0,(.func (.yield (nat_lit 2)) ⟨[wi0,wy139,wi1]⟩ ⟨[]⟩)]⟩ ⟨[]⟩),true),((.func (.yield (nat_lit 21)) ⟨[wi0,(.func (.yield (nat_lit 2)) ⟨[wi0,(.func (.yield (nat_lit 2)) ⟨[wi0,wy139,wi1]⟩ ⟨[]⟩),wi1]⟩ ⟨[]⟩)]⟩ ⟨[]⟩),true),((.func (.yield (nat_lit 21)) ⟨[wi0,(.func (.yield (nat_lit 2)) ⟨[wi0,(.func (.yield (nat_lit 2)) ⟨[wi0,(.func (.yield (nat_lit 2)) ⟨[wi0,wy139,wi1]⟩ ⟨[]⟩),wi1]⟩ ⟨[]⟩),wi1]⟩ ⟨[]⟩)]⟩ ⟨[]⟩),false)] := hc; simpa only [List.mem_cons,List.not_mem_nil,or_false] using hc
  rcases hc with rfl | rfl | rfl | rfl
  · letI := jobRho s; letI := Asm.none; haveI : SymOK := SymOK.none; have e := ltJ (k := .i64) hb (.lit _ _) (.sym _ _); rw [e,hr]; decide
  · letI := jobRho s; letI := Asm.none; haveI : SymOK := SymOK.none; have e := ltJ (k := .i64) hb (.lit _ _) (.sub (.sym _ _) (.lit _ _)); rw [e,hr]; decide
  · letI := jobRho s; letI := Asm.none; haveI : SymOK := SymOK.none; have e := ltJ (k := .i64) hb (.lit _ _) (.sub (.sub (.sym _ _) (.lit _ _)) (.lit _ _)); rw [e,hr]; decide
  · letI := jobRho s; letI := Asm.none; haveI : SymOK := SymOK.none; have e := ltJ (k := .i64) hb (.lit _ _) (.sub (.sub (.sub (.sym _ _) (.lit _ _)) (.lit _ _)) (.lit _ _)); rw [e,hr]; decide
theorem job3 {s : Int} {b : Nat} {t : TypeId} {w : World} (hb : Bk w b t #[.int .u64 s]) (h : res39 s = 3) : Calls Try.prog 10 #[.pointer (some ⟨b,0,none⟩),.int .i64 3,.int .i64 1] w (JobEnd s b 3 w) := by
  letI := jobRho s
  letI := asm3
  haveI := sym3 h
  refine (job_enter (s := s) rfl rfl hb (run3_ok (sym3 h))).mono ?_
  rintro e w' ⟨v',ι',rfl,hv,hobj,hbd,hι0,hk⟩
  have hpot : ∃ t s,Bk w' b t #[.int .u64 s] := by
    obtain ⟨r',c',o,e1,e2,cs,t',rfl,e3,l',tl,e4,e5⟩ := hobj (nat_lit 0) (.cells [(.func (.yield (nat_lit 0)) ⟨[(.int .u64 (.ofNat (nat_lit 55)))]⟩ ⟨[]⟩)]) (by kernel_rfl)
    rw [hι0] at e1
    cases e1
    exact pot_of e2 e3 e4 e5
  obtain ⟨l,rfl,hl⟩ := hv.aggI
  obtain ⟨x,y,rfl,h1,h2⟩ := LR.app (a := [(.func (.yield (nat_lit 6)) ⟨[wi0,wm59,(.func (.yield (nat_lit 2)) ⟨[wi0,(.func (.yield (nat_lit 1)) ⟨[wi0,wm15,wy103]⟩ ⟨[]⟩),wy105]⟩ ⟨[]⟩)]⟩ ⟨[]⟩),(.func (.yield (nat_lit 7)) ⟨[wi0,wi60,(.func (.yield (nat_lit 1)) ⟨[wi0,(.func (.yield (nat_lit 1)) ⟨[wi0,wm15,wy103]⟩ ⟨[]⟩),wy107]⟩ ⟨[]⟩)]⟩ ⟨[]⟩),(.func (.yield (nat_lit 6)) ⟨[wi0,wi0,(.func (.yield (nat_lit 2)) ⟨[wi0,(.func (.yield (nat_lit 1)) ⟨[wi0,wi20,wy108]⟩ ⟨[]⟩),wy110]⟩ ⟨[]⟩)]⟩ ⟨[]⟩),(.func (.yield (nat_lit 7)) ⟨[wi0,wi100,(.func (.yield (nat_lit 1)) ⟨[wi0,(.func (.yield (nat_lit 1)) ⟨[wi0,wi20,wy108]⟩ ⟨[]⟩),wy112]⟩ ⟨[]⟩)]⟩ ⟨[]⟩),(.func (.yield (nat_lit 6)) ⟨[wi0,wi0,(.func (.yield (nat_lit 2)) ⟨[wi0,(.func (.yield (nat_lit 1)) ⟨[wi0,wi20,wy113]⟩ ⟨[]⟩),wy115]⟩ ⟨[]⟩)]⟩ ⟨[]⟩),(.func (.yield (nat_lit 7)) ⟨[wi0,wi100,(.func (.yield (nat_lit 1)) ⟨[wi0,(.func (.yield (nat_lit 1)) ⟨[wi0,wi20,wy113]⟩ ⟨[]⟩),wy117]⟩ ⟨[]⟩)]⟩ ⟨[]⟩),(.func (.yield (nat_lit 6)) ⟨[wi0,wi0,(.func (.yield (nat_lit 2)) ⟨[wi0,(.func (.yield (nat_lit 1)) ⟨[wi0,wi1,wy118]⟩ ⟨[]⟩),wy120]⟩ ⟨[]⟩)]⟩ ⟨[]⟩),(.func (.yield (nat_lit 7)) ⟨[wi0,wi12,(.func (.yield (nat_lit 1)) ⟨[wi0,(.func (.yield (nat_lit 1)) ⟨[wi0,wi1,wy118]⟩ ⟨[]⟩),wy122]⟩ ⟨[]⟩)]⟩ ⟨[]⟩),(.func (.yield (nat_lit 6)) ⟨[wi0,wi0,(.func (.yield (nat_lit 2)) ⟨[wi0,(.func (.yield (nat_lit 1)) ⟨[wi0,wi1,wy123]⟩ ⟨[]⟩),wy125]⟩ ⟨[]⟩)]⟩ ⟨[]⟩),(.func (.yield (nat_lit 7)) ⟨[wi0,wi12,(.func (.yield (nat_lit 1)) ⟨[wi0,(.func (.yield (nat_lit 1)) ⟨[wi0,wi1,wy123]⟩ ⟨[]⟩),wy127]⟩ ⟨[]⟩)]⟩ ⟨[]⟩),(.func (.yield (nat_lit 6)) ⟨[wi0,wi0,(.func (.yield (nat_lit 2)) ⟨[wi0,wy128,wy130]⟩ ⟨[]⟩)]⟩ ⟨[]⟩),(.func (.yield (nat_lit 7)) ⟨[wi0,wi12,(.func (.yield (nat_lit 1)) ⟨[wi0,wy128,wy132]⟩ ⟨[]⟩)]⟩ ⟨[]⟩),(.func (.yield (nat_lit 6)) ⟨[wi0,wi0,(.func (.yield (nat_lit 2)) ⟨[wi0,wy133,wy135]⟩ ⟨[]⟩)]⟩ ⟨[]⟩),(.func (.yield (nat_lit 7)) ⟨[wi0,wi12,(.func (.yield (nat_lit 1)) ⟨[wi0,wy133,wy137]⟩ ⟨[]⟩)]⟩ ⟨[]⟩),(.func (.yield (nat_lit 1)) ⟨[wi0,wi10,wy138]⟩ ⟨[]⟩)]) (b := (.slice (some ⟨(nat_lit 36),(nat_lit 0),none⟩) (nat_lit 3) (nat_lit 18446744073709551618)) :: [(.func (.yield (nat_lit 1)) ⟨[wi0,wi1,wy100]⟩ ⟨[]⟩),wy102]) hl
  have e1 := DLs.only (.cons (.max (.lit _ _) (.sub (.add (.lit _ _) (.sym _ _)) (.sym _ _))) (.cons (.min (.lit _ _) (.add (.add (.lit _ _) (.sym _ _)) (.sym _ _))) (.cons (.max (.lit _ _) (.sub (.add (.lit _ _) (.sym _ _)) (.sym _ _))) (.cons (.min (.lit _ _) (.add (.add (.lit _ _) (.sym _ _)) (.sym _ _))) (.cons (.max (.lit _ _) (.sub (.add (.lit _ _) (.sym _ _)) (.sym _ _))) (.cons (.min (.lit _ _) (.add (.add (.lit _ _) (.sym _ _)) (.sym _ _))) (.cons (.max (.lit _ _) (.sub (.add (.lit _ _) (.sym _ _)) (.sym _ _))) (.cons (.min (.lit _ _) (.add (.add (.lit _ _) (.sym _ _)) (.sym _ _))) (.cons (.max (.lit _ _) (.sub (.add (.lit _ _) (.sym _ _)) (.sym _ _))) (.cons (.min (.lit _ _) (.add (.add (.lit _ _) (.sym _ _)) (.sym _ _))) (.cons (.max (.lit _ _) (.sub (.sym _ _) (.sym _ _))) (.cons (.min (.lit _ _) (.add (.sym _ _) (.sym _ _))) (.cons (.max (.lit _ _) (.sub (.sym _ _) (.sym _ _))) (.cons (.min (.lit _ _) (.add (.sym _ _) (.sym _ _))) (.cons (.add (.lit _ _) (.sym _ _)) .nil))))))))))))))) h1
  cases h2 with
  | cons hs h3 =>
    have e3 := DLs.only (.cons (.add (.lit _ _) (.sym _ _)) (.cons (.sym _ _) .nil)) h3
    subst e1 e3
    obtain ⟨r,cc,cp,rfl,hι⟩ := slUI hs
    obtain ⟨r',c',o,e1,e2,cs,t',rfl,e3,l',tl,e4,e5⟩ := hobj (nat_lit 36) (.cells [(.func (.yield (nat_lit 6)) ⟨[wi0,wm59,(.func (.yield (nat_lit 2)) ⟨[wi0,(.func (.yield (nat_lit 1)) ⟨[wi0,wm2,wy140]⟩ ⟨[]⟩),wy142]⟩ ⟨[]⟩)]⟩ ⟨[]⟩),(.func (.yield (nat_lit 7)) ⟨[wi0,wi60,(.func (.yield (nat_lit 1)) ⟨[wi0,(.func (.yield (nat_lit 1)) ⟨[wi0,wm2,wy140]⟩ ⟨[]⟩),wy144]⟩ ⟨[]⟩)]⟩ ⟨[]⟩),(.func (.yield (nat_lit 6)) ⟨[wi0,wm59,(.func (.yield (nat_lit 2)) ⟨[wi0,(.func (.yield (nat_lit 1)) ⟨[wi0,wm2,wy145]⟩ ⟨[]⟩),wy147]⟩ ⟨[]⟩)]⟩ ⟨[]⟩),(.func (.yield (nat_lit 7)) ⟨[wi0,wi60,(.func (.yield (nat_lit 1)) ⟨[wi0,(.func (.yield (nat_lit 1)) ⟨[wi0,wm2,wy145]⟩ ⟨[]⟩),wy149]⟩ ⟨[]⟩)]⟩ ⟨[]⟩),(.func (.yield (nat_lit 6)) ⟨[wi0,wm59,(.func (.yield (nat_lit 2)) ⟨[wi0,(.func (.yield (nat_lit 1)) ⟨[wi0,wm2,wy150]⟩ ⟨[]⟩),wy152]⟩ ⟨[]⟩)]⟩ ⟨[]⟩),(.func (.yield (nat_lit 7)) ⟨[wi0,wi60,(.func (.yield (nat_lit 1)) ⟨[wi0,(.func (.yield (nat_lit 1)) ⟨[wi0,wm2,wy150]⟩ ⟨[]⟩),wy154]⟩ ⟨[]⟩)]⟩ ⟨[]⟩)]) (by kernel_rfl)
    rw [hι] at e1
    cases e1
    have e6 := DLs.only (.cons (.max (.lit _ _) (.sub (.add (.lit _ _) (.sym _ _)) (.sym _ _))) (.cons (.min (.lit _ _) (.add (.add (.lit _ _) (.sym _ _)) (.sym _ _))) (.cons (.max (.lit _ _) (.sub (.add (.lit _ _) (.sym _ _)) (.sym _ _))) (.cons (.min (.lit _ _) (.add (.add (.lit _ _) (.sym _ _)) (.sym _ _))) (.cons (.max (.lit _ _) (.sub (.add (.lit _ _) (.sym _ _)) (.sym _ _))) (.cons (.min (.lit _ _) (.add (.add (.lit _ _) (.sym _ _)) (.sym _ _))) .nil)))))) e5
    subst e6
    refine ⟨some ⟨r,0,none⟩,cp,rfl,?_,hpot,hk⟩
    exact rg_of (l := (jobS s).take 3) e2 (by rw [e4]; rfl) (hbd _ _ _ hι)
theorem jobOf_any {s : Int} {b : Nat} {t : TypeId} {w : World} (hb : Bk w b t #[.int .u64 s]) : Calls Try.prog 10 #[.pointer (some ⟨b,0,none⟩),.int .i64 3,.int .i64 1] w fun e w' => ∃ n,n ≤ 3 ∧ JobEnd s b n w e w' := by
  have h := rb39 s
  rcases (by omega : res39 s = 0 ∨ res39 s = 1 ∨ res39 s = 2 ∨ res39 s = 3) with h | h | h | h
  · exact (job0 hb h).mono fun e w' q => ⟨0,by decide,q⟩
  · exact (job1 hb h).mono fun e w' q => ⟨1,by decide,q⟩
  · exact (job2 hb h).mono fun e w' q => ⟨2,by decide,q⟩
  · exact (job3 hb h).mono fun e w' q => ⟨3,by decide,q⟩
end
end Go.Sim.JD
/- JobOf(p, 3, 1), as the laws want it. -/
namespace Go.Proofs.Ytadmcafbffjjbaa
set_option linter.all false
open Go Go.RowKit
theorem job_JD : JobOKn 3 1 := by
  intro b w hp
  obtain ⟨t,s,hb⟩ := hp
  refine (Sim.JD.jobOf_any hb).mono ?_
  rintro e w' ⟨n,hn,a,c,rfl,hrg,hpt,hk⟩
  refine ⟨Sim.JD.jobJ s n,a,n,c,rfl,?_,hrg,Sim.JD.job_check s n,⟨hk.os,hk.tape,hk.output,hk.size,hk.heap⟩,hpt⟩
  show n = ((Sim.JD.jobS s).take n).length
  have : (Sim.JD.jobS s).length = 3 := rfl
  rw [List.length_take]
  omega
end Go.Proofs.Ytadmcafbffjjbaa
/- What a pot makes a job of: plain facts. -/
namespace Go.Sim.JG
set_option linter.all false
open Go.Sim.JD
open Go Go.RowKit Go.Proofs Go.Proofs.Ytadmcafbffjjbaa
set_option maxRecDepth 1000000
noncomputable section
def res4 (s : Int) : Int := uptoF (seedAt s 4) 4
def res5 (s : Int) : Int := pick3 0 0 (uptoF (seedAt s 4) 4) (uptoF (seedAt s 5) 2)
def res6 (s : Int) : Int := uptoF (seedAt s 6) 4
def res7 (s : Int) : Int := pick3 0 0 (uptoF (seedAt s 6) 4) (uptoF (seedAt s 7) 2)
def res19 (s : Int) : Int := uptoF (seedAt s 19) 2
def res20 (s : Int) : Int := pick3 0 0 (uptoF (seedAt s 19) 2) (uptoF (seedAt s 20) 2)
def res21 (s : Int) : Int := uptoF (seedAt s 21) 2
def res22 (s : Int) : Int := pick3 0 0 (uptoF (seedAt s 21) 2) (uptoF (seedAt s 22) 2)
def res24 (s : Int) : Int := uptoF (seedAt s 24) 2
def res25 (s : Int) : Int := pick3 0 0 (uptoF (seedAt s 24) 2) (uptoF (seedAt s 25) 2)
def res26 (s : Int) : Int := uptoF (seedAt s 26) 2
def res27 (s : Int) : Int := pick3 0 0 (uptoF (seedAt s 26) 2) (uptoF (seedAt s 27) 2)
def resL (s : Int) : List Int := [res0 s,res1 s,res2 s,res3 s,res4 s,res5 s,res6 s,res7 s,res8 s,res9 s,res10 s,res11 s,res12 s,res13 s,res14 s,res15 s,res16 s,res17 s,res18 s,res19 s,res20 s,res21 s,res22 s,res23 s,res24 s,res25 s,res26 s,res27 s,res28 s,res29 s,res30 s,res31 s,res32 s,res33 s,res34 s,res35 s,res36 s,res37 s,res38 s,res39 s,res40 s,res41 s,res42 s,res43 s,res44 s,res45 s,res46 s,res47 s,res48 s,res49 s,res50 s,res51 s,res52 s,res53 s,res54 s]
def resAt (s : Int) (i : Nat) : Int := match nthZ (resL s) i with
  | some x => x
  | none => 0
@[instance_reducible] def jobRho (s : Int) : Rho := ⟨fun k => match Nat.blt k 100 with
  | true => seedAt s k
  | false => resAt s (k - 100),fun _ => .nilFunc,0,fun _ => none⟩
theorem rb5 (s : Int) : 0 ≤ res5 s ∧ res5 s ≤ 4 := pkB _ _ _ _ _ (by decide) (by decide) (upB _ _ (by decide))
theorem rb7 (s : Int) : 0 ≤ res7 s ∧ res7 s ≤ 4 := pkB _ _ _ _ _ (by decide) (by decide) (upB _ _ (by decide))
theorem rb20 (s : Int) : 0 ≤ res20 s ∧ res20 s ≤ 2 := pkB _ _ _ _ _ (by decide) (by decide) (upB _ _ (by decide))
theorem rb22 (s : Int) : 0 ≤ res22 s ∧ res22 s ≤ 2 := pkB _ _ _ _ _ (by decide) (by decide) (upB _ _ (by decide))
theorem rb25 (s : Int) : 0 ≤ res25 s ∧ res25 s ≤ 2 := pkB _ _ _ _ _ (by decide) (by decide) (upB _ _ (by decide))
theorem rb27 (s : Int) : 0 ≤ res27 s ∧ res27 s ≤ 2 := pkB _ _ _ _ _ (by decide) (by decide) (upB _ _ (by decide))
def jobJ (s : Int) (n : Nat) : Jb := ⟨nlo (-60) (wr (-16 + res3 s)) (res5 s),nhi 60 (wr (-16 + res3 s)) (res7 s),nlo (0) (wr (20 + res8 s)) (res10 s),nhi 100 (wr (20 + res8 s)) (res12 s),nlo (0) (wr (20 + res13 s)) (res15 s),nhi 100 (wr (20 + res13 s)) (res17 s),nlo (0) (wr (1 + res18 s)) (res20 s),nhi 12 (wr (1 + res18 s)) (res22 s),nlo (0) (wr (1 + res23 s)) (res25 s),nhi 12 (wr (1 + res23 s)) (res27 s),nlo (0) (res28 s) (res30 s),nhi 12 (res28 s) (res32 s),nlo (0) (res33 s) (res35 s),nhi 12 (res33 s) (res37 s),wr (10 + res38 s),wr (1 + res0 s),res2 s,(jobS s).take n⟩
theorem job_check (s : Int) (n : Nat) : (jobJ s n).check = 0 :=
  check_0 (nrA (by decide) (rb3 s) (rb5 s) (rb7 s)) (nrA (by decide) (rb8 s) (rb10 s) (rb12 s)) (nrA (by decide) (rb13 s) (rb15 s) (rb17 s)) (nrA (by decide) (rb18 s) (rb20 s) (rb22 s)) (nrA (by decide) (rb23 s) (rb25 s) (rb27 s)) (nrB (by decide) (rb28 s) (rb30 s) (rb32 s)) (nrB (by decide) (rb33 s) (rb35 s) (rb37 s)) (wrA (by decide) (rb38 s)) (by show ((jobS s).take n).length ≤ 4; have : (jobS s).length = 3 := rfl; rw [List.length_take]; omega) (fun z hz => job_sh s z (List.mem_of_mem_take hz)) (wrA (by decide) (rb0 s)) (by have := rb2 s; show 0 ≤ res2 s ∧ res2 s ≤ 6; omega)
end
end Go.Sim.JG
