/- Part 3 of the proof: AlE. -/
import Derived.Test.YtolabejbhaeddaaW02
import Derived.Test.YtolabejbhaeddaaW01
/- The law ReedAll: one truth is taken. -/
namespace Go.Proofs.Ytolabejbhaeddaa
set_option linter.all false
open Go.RowKit

/-- The slice does not lie in a block. -/
def Off (a : Option Addr) (b : Nat) : Prop := ∀ q o z,a = some ⟨q,o,z⟩ → q ≠ b
/-- The cells of what is found. -/
abbrev enC (e : En) : Array Value := #[.int .i64 e.pl,.int .i64 e.ph,.int .i64 e.tl,.int .i64 e.th,.int .i64 e.rl,.int .i64 e.rh,.int .i64 e.worst,.int .i64 e.passes,.int .i64 e.thin,.int .i64 e.fine,.int .i64 e.truths]
/-- Counts are in bounds. -/
structure En.Ok (e : En) : Prop where
  p : 0 ≤ e.passes ∧ e.passes ≤ e.truths
  t : 0 ≤ e.thin ∧ e.thin ≤ e.truths
  f : 0 ≤ e.fine ∧ e.fine ≤ e.truths
theorem one_01 (b : Prop) [Decidable b] : 0 ≤ one b ∧ one b ≤ 1 := by unfold one; split <;> omega
theorem En.Ok.note {J : Jb} {e : En} (h : e.Ok) (q : Fd × List Int) : (e.note J q).Ok := by
  obtain ⟨⟨a,b⟩,⟨c,d⟩,f,g⟩ := h
  have h1 := one_01 (farI q.1.p q.2 ≤ J.wi)
  have h2 := one_01 (thinB J q.1)
  have h3 := one_01 (farI q.1.p q.2 ≤ J.wi ∧ ¬ thinB J q.1)
  refine ⟨⟨?_,?_⟩,⟨?_,?_⟩,?_,?_⟩ <;> simp only [En.note] <;> omega
structure NT (w0 w : World) (bx g5 g6 : Nat) (J : Jb) (s : Value) (t : Fd) (sa : Option Addr) (sl : List Int) : Prop where
  b0 : PB bx w0.heap.size w0 w
  hx : bx < w0.heap.size
  job : Bk w g5 30 (jobC J s)
  fl : Bk w g6 57 #[.int .i64 t.p,.int .i64 t.t,.int .i64 t.r]
  is : Is w w.heap.size sa sl
  ne : bx ≠ g5 ∧ bx ≠ g6
  off : Off sa bx
theorem PB.setb {b B i : Nat} {w w' : World} {v : Value} (h : PB b B w w') : PB b B w (w'.setCell ⟨b,i,none⟩ v) :=
  ⟨h.os,h.tape,h.output,by simpa using h.size,fun k hk hb => (Below.heap_setCell _ ⟨b,i,none⟩ _ k hb).trans (h.heap k hk hb)⟩
theorem Is.offb {w : World} {B b i : Nat} {v : Value} {a : Option Addr} {l : List Int} (h : Is w B a l) (ho : Off a b) : Is (w.setCell ⟨b,i,none⟩ v) B a l := fun k n hk => by
  obtain ⟨q,o,e,hb,h1⟩ := h k n hk
  exact ⟨q,o,e,hb,(cell_other w b i q (o + k) v (ho q o none e).symm).trans h1⟩
theorem NT.next {w0 w w' : World} {bx g5 g6 : Nat} {J : Jb} {s : Value} {t : Fd} {sa : Option Addr} {sl : List Int} (h : NT w0 w bx g5 g6 J s t sa sl) (hb : Below w.heap.size w w') : NT w0 w' bx g5 g6 J s t sa sl :=
  ⟨h.b0.below hb h.b0.size,h.hx,h.job.below hb h.job.lt,h.fl.below hb h.fl.lt,h.is.up hb,h.ne,h.off⟩
theorem NT.put {w0 w : World} {bx g5 g6 : Nat} {J : Jb} {s : Value} {t : Fd} {sa : Option Addr} {sl : List Int} (h : NT w0 w bx g5 g6 J s t sa sl) (i : Nat) (v : Value) : NT w0 (w.setCell ⟨bx,i,none⟩ v) bx g5 g6 J s t sa sl := by
  have hs : (w.setCell ⟨bx,i,none⟩ v).heap.size = w.heap.size := by simp
  refine ⟨h.b0.setb,h.hx,h.job.other (p := ⟨bx,i,none⟩) (by exact h.ne.1.symm) v,h.fl.other (p := ⟨bx,i,none⟩) (by exact h.ne.2.symm) v,?_,h.ne,h.off⟩
  rw [hs]
  exact h.is.offb h.off
def QNO (bx : Nat) (E : En) (w0 : World) : Exit → Act → World → Prop := bodyPost Try.prog Try.f59 fun x w' => x = .returned (.tuple #[]) ∧ Bk w' bx 54 (enC E) ∧ PB bx w0.heap.size w0 w'
noncomputable def nobody : Code := Try.f59.body.getD .skip
noncomputable def norest1 : Code := sndB nobody
noncomputable def norest2 : Code := sndB norest1
noncomputable def norest3 : Code := sndB norest2
noncomputable def norest4 : Code := sndB norest3
noncomputable def norest5 : Code := sndB norest4
noncomputable def norest6 : Code := sndB norest5
noncomputable def norest7 : Code := sndB norest6
noncomputable def norest8 : Code := sndB norest7
noncomputable def norest9 : Code := sndB norest8
noncomputable def norest10 : Code := sndB norest9
set_option maxRecDepth 1000000 in
theorem nobody_eq : nobody = .seq (Code.region 0 #[⟨some 5,.box 30 (.tmp 1),0,"outright.go:150",#[],none⟩,⟨some 6,.box 57 (.tmp 2),0,"outright.go:150",#[],none⟩] false) norest1 := by kernel_rfl
set_option maxRecDepth 1000000 in
theorem norest1_eq : norest1 = .seq (.seq (Code.region 1 #[⟨some 10,.move (.tmp 0),100,"outright.go:151",#[],none⟩,⟨some 11,.nilCheck (.tmp 10),0,"outright.go:151",#[⟨0,.data⟩],none⟩,⟨some 12,.fieldAddr 54 (.tmp 11) 7,0,"outright.go:151",#[⟨1,.data⟩],none⟩,⟨some 13,.load 3 (.tmp 12),3,"outright.go:151",#[⟨2,.data⟩],none⟩,⟨some 14,.binOp .eql 3 (.tmp 13) (.const (.int .i64 0)) 3,4,"outright.go:151",#[⟨3,.data⟩],none⟩] false) (.cond (.tmp 14) (Code.region 2 #[⟨some 15,.move (.tmp 0),100,"outright.go:152",#[],none⟩,⟨some 16,.move (.tmp 0),100,"outright.go:152",#[⟨20,.gcOnly .lateStores⟩],none⟩,⟨some 17,.move (.tmp 0),100,"outright.go:152",#[⟨23,.gcOnly .lateStores⟩],none⟩,⟨some 18,.fieldAddr 57 (.tmp 6) 0,0,"outright.go:152",#[],none⟩,⟨some 19,.load 3 (.tmp 18),3,"outright.go:152",#[⟨3,.data⟩],none⟩,⟨some 20,.fieldAddr 57 (.tmp 6) 0,0,"outright.go:152",#[],none⟩,⟨some 21,.load 3 (.tmp 20),3,"outright.go:152",#[⟨5,.data⟩],none⟩,⟨some 22,.call { callee := .value (.func 32),args := #[.tmp 19,.tmp 21],argTypes := #[3,3] },23,"outright.go:152",#[⟨4,.data⟩,⟨6,.data⟩],none⟩,⟨some 23,.fieldAddr 57 (.tmp 6) 1,0,"outright.go:152",#[],none⟩,⟨some 24,.load 3 (.tmp 23),3,"outright.go:152",#[⟨8,.data⟩],none⟩,⟨some 25,.fieldAddr 57 (.tmp 6) 1,0,"outright.go:152",#[],none⟩,⟨some 26,.load 3 (.tmp 25),3,"outright.go:152",#[⟨10,.data⟩],none⟩,⟨some 27,.call { callee := .value (.func 32),args := #[.tmp 24,.tmp 26],argTypes := #[3,3] },23,"outright.go:152",#[⟨9,.data⟩,⟨11,.data⟩,⟨7,.chain⟩],none⟩,⟨some 28,.fieldAddr 57 (.tmp 6) 2,0,"outright.go:152",#[],none⟩,⟨some 29,.load 3 (.tmp 28),3,"outright.go:152",#[⟨13,.data⟩],none⟩,⟨some 30,.fieldAddr 57 (.tmp 6) 2,0,"outright.go:152",#[],none⟩,⟨some 31,.load 3 (.tmp 30),3,"outright.go:152",#[⟨15,.data⟩],none⟩,⟨some 32,.call { callee := .value (.func 32),args := #[.tmp 29,.tmp 31],argTypes := #[3,3] },23,"outright.go:152",#[⟨14,.data⟩,⟨16,.data⟩,⟨12,.chain⟩],none⟩,⟨some 33,.nilCheck (.tmp 15),0,"outright.go:152",#[⟨0,.data⟩,⟨0,.phase⟩,⟨1,.textOnly .lateStores⟩,⟨2,.textOnly .lateStores⟩,⟨3,.phase⟩,⟨4,.phase⟩,⟨5,.phase⟩,⟨6,.phase⟩,⟨7,.phase⟩,⟨8,.textOnly .lateStores⟩,⟨9,.textOnly .lateStores⟩,⟨10,.textOnly .lateStores⟩,⟨11,.textOnly .lateStores⟩,⟨12,.phase⟩,⟨13,.textOnly .lateStores⟩,⟨14,.textOnly .lateStores⟩,⟨15,.textOnly .lateStores⟩,⟨16,.textOnly .lateStores⟩,⟨17,.phase⟩],none⟩,⟨some 34,.fieldAddr 54 (.tmp 33) 0,0,"outright.go:152",#[⟨18,.data⟩,⟨0,.phase⟩,⟨1,.textOnly .lateStores⟩,⟨2,.textOnly .lateStores⟩,⟨3,.phase⟩,⟨4,.phase⟩,⟨5,.phase⟩,⟨6,.phase⟩,⟨7,.phase⟩,⟨8,.textOnly .lateStores⟩,⟨9,.textOnly .lateStores⟩,⟨10,.textOnly .lateStores⟩,⟨11,.textOnly .lateStores⟩,⟨12,.phase⟩,⟨13,.textOnly .lateStores⟩,⟨14,.textOnly .lateStores⟩,⟨15,.textOnly .lateStores⟩,⟨16,.textOnly .lateStores⟩,⟨17,.phase⟩],none⟩,⟨none,.store 23 (.tmp 34) (.tmp 22),0,"outright.go:152",#[⟨19,.data⟩,⟨7,.data⟩,⟨17,.chain⟩,⟨0,.phase⟩,⟨1,.textOnly .lateStores⟩,⟨2,.textOnly .lateStores⟩,⟨3,.phase⟩,⟨4,.phase⟩,⟨5,.phase⟩,⟨6,.phase⟩,⟨7,.phase⟩,⟨8,.textOnly .lateStores⟩,⟨9,.textOnly .lateStores⟩,⟨10,.textOnly .lateStores⟩,⟨11,.textOnly .lateStores⟩,⟨12,.phase⟩,⟨13,.textOnly .lateStores⟩,⟨14,.textOnly .lateStores⟩,⟨15,.textOnly .lateStores⟩,⟨16,.textOnly .lateStores⟩,⟨17,.phase⟩],none⟩,⟨some 35,.nilCheck (.tmp 16),0,"outright.go:152",#[⟨1,.data⟩,⟨0,.phase⟩,⟨1,.phase⟩,⟨2,.textOnly .lateStores⟩,⟨3,.phase⟩,⟨4,.phase⟩,⟨5,.phase⟩,⟨6,.phase⟩,⟨7,.phase⟩,⟨8,.phase⟩,⟨9,.phase⟩,⟨10,.phase⟩,⟨11,.phase⟩,⟨12,.phase⟩,⟨13,.textOnly .lateStores⟩,⟨14,.textOnly .lateStores⟩,⟨15,.textOnly .lateStores⟩,⟨16,.textOnly .lateStores⟩,⟨17,.phase⟩,⟨18,.phase⟩,⟨19,.phase⟩,⟨20,.phase⟩],none⟩,⟨some 36,.fieldAddr 54 (.tmp 35) 1,0,"outright.go:152",#[⟨21,.data⟩,⟨0,.phase⟩,⟨1,.phase⟩,⟨2,.textOnly .lateStores⟩,⟨3,.phase⟩,⟨4,.phase⟩,⟨5,.phase⟩,⟨6,.phase⟩,⟨7,.phase⟩,⟨8,.phase⟩,⟨9,.phase⟩,⟨10,.phase⟩,⟨11,.phase⟩,⟨12,.phase⟩,⟨13,.textOnly .lateStores⟩,⟨14,.textOnly .lateStores⟩,⟨15,.textOnly .lateStores⟩,⟨16,.textOnly .lateStores⟩,⟨17,.phase⟩,⟨18,.phase⟩,⟨19,.phase⟩,⟨20,.phase⟩],none⟩,⟨none,.store 23 (.tmp 36) (.tmp 27),0,"outright.go:152",#[⟨22,.data⟩,⟨12,.data⟩,⟨20,.chain⟩,⟨0,.phase⟩,⟨1,.phase⟩,⟨2,.textOnly .lateStores⟩,⟨3,.phase⟩,⟨4,.phase⟩,⟨5,.phase⟩,⟨6,.phase⟩,⟨7,.phase⟩,⟨8,.phase⟩,⟨9,.phase⟩,⟨10,.phase⟩,⟨11,.phase⟩,⟨12,.phase⟩,⟨13,.textOnly .lateStores⟩,⟨14,.textOnly .lateStores⟩,⟨15,.textOnly .lateStores⟩,⟨16,.textOnly .lateStores⟩,⟨17,.phase⟩,⟨18,.phase⟩,⟨19,.phase⟩,⟨20,.phase⟩],none⟩,⟨some 37,.nilCheck (.tmp 17),0,"outright.go:152",#[⟨2,.data⟩,⟨0,.phase⟩,⟨1,.phase⟩,⟨2,.phase⟩,⟨3,.phase⟩,⟨4,.phase⟩,⟨5,.phase⟩,⟨6,.phase⟩,⟨7,.phase⟩,⟨8,.phase⟩,⟨9,.phase⟩,⟨10,.phase⟩,⟨11,.phase⟩,⟨12,.phase⟩,⟨13,.phase⟩,⟨14,.phase⟩,⟨15,.phase⟩,⟨16,.phase⟩,⟨17,.phase⟩,⟨18,.phase⟩,⟨19,.phase⟩,⟨20,.phase⟩,⟨21,.phase⟩,⟨22,.phase⟩,⟨23,.phase⟩],none⟩,⟨some 38,.fieldAddr 54 (.tmp 37) 2,0,"outright.go:152",#[⟨24,.data⟩,⟨0,.phase⟩,⟨1,.phase⟩,⟨2,.phase⟩,⟨3,.phase⟩,⟨4,.phase⟩,⟨5,.phase⟩,⟨6,.phase⟩,⟨7,.phase⟩,⟨8,.phase⟩,⟨9,.phase⟩,⟨10,.phase⟩,⟨11,.phase⟩,⟨12,.phase⟩,⟨13,.phase⟩,⟨14,.phase⟩,⟨15,.phase⟩,⟨16,.phase⟩,⟨17,.phase⟩,⟨18,.phase⟩,⟨19,.phase⟩,⟨20,.phase⟩,⟨21,.phase⟩,⟨22,.phase⟩,⟨23,.phase⟩],none⟩,⟨none,.store 23 (.tmp 38) (.tmp 32),0,"outright.go:152",#[⟨25,.data⟩,⟨17,.data⟩,⟨23,.chain⟩,⟨0,.phase⟩,⟨1,.phase⟩,⟨2,.phase⟩,⟨3,.phase⟩,⟨4,.phase⟩,⟨5,.phase⟩,⟨6,.phase⟩,⟨7,.phase⟩,⟨8,.phase⟩,⟨9,.phase⟩,⟨10,.phase⟩,⟨11,.phase⟩,⟨12,.phase⟩,⟨13,.phase⟩,⟨14,.phase⟩,⟨15,.phase⟩,⟨16,.phase⟩,⟨17,.phase⟩,⟨18,.phase⟩,⟨19,.phase⟩,⟨20,.phase⟩,⟨21,.phase⟩,⟨22,.phase⟩,⟨23,.phase⟩],none⟩] true) .skip)) norest2 := by kernel_rfl
set_option maxRecDepth 1000000 in
theorem norest2_eq : norest2 = .seq (Code.region 3 #[⟨some 39,.move (.tmp 0),100,"outright.go:154",#[],none⟩,⟨some 40,.move (.tmp 0),100,"outright.go:154",#[],none⟩,⟨some 41,.nilCheck (.tmp 40),0,"outright.go:154",#[⟨1,.data⟩],none⟩,⟨some 42,.fieldAddr 54 (.tmp 41) 0,0,"outright.go:154",#[⟨2,.data⟩],none⟩,⟨some 43,.fieldAddr 23 (.tmp 42) 0,0,"outright.go:154",#[⟨3,.data⟩],none⟩,⟨some 44,.load 3 (.tmp 43),3,"outright.go:154",#[⟨4,.data⟩],none⟩,⟨some 45,.fieldAddr 57 (.tmp 6) 0,0,"outright.go:154",#[],none⟩,⟨some 46,.load 3 (.tmp 45),3,"outright.go:154",#[⟨6,.data⟩],none⟩,⟨some 47,.call { callee := .builtin .min,args := #[.tmp 44,.tmp 46],argTypes := #[3,3] },3,"outright.go:154",#[⟨5,.data⟩,⟨7,.data⟩],none⟩,⟨some 48,.move (.tmp 0),100,"outright.go:154",#[],none⟩,⟨some 49,.nilCheck (.tmp 48),0,"outright.go:154",#[⟨9,.data⟩],none⟩,⟨some 50,.fieldAddr 54 (.tmp 49) 0,0,"outright.go:154",#[⟨10,.data⟩],none⟩,⟨some 51,.fieldAddr 23 (.tmp 50) 1,0,"outright.go:154",#[⟨11,.data⟩],none⟩,⟨some 52,.load 3 (.tmp 51),3,"outright.go:154",#[⟨12,.data⟩],none⟩,⟨some 53,.fieldAddr 57 (.tmp 6) 0,0,"outright.go:154",#[],none⟩,⟨some 54,.load 3 (.tmp 53),3,"outright.go:154",#[⟨14,.data⟩],none⟩,⟨some 55,.call { callee := .builtin .max,args := #[.tmp 52,.tmp 54],argTypes := #[3,3] },3,"outright.go:154",#[⟨13,.data⟩,⟨15,.data⟩],none⟩,⟨some 56,.call { callee := .value (.func 32),args := #[.tmp 47,.tmp 55],argTypes := #[3,3] },23,"outright.go:154",#[⟨8,.data⟩,⟨16,.data⟩],none⟩,⟨some 57,.nilCheck (.tmp 39),0,"outright.go:154",#[⟨0,.data⟩,⟨0,.phase⟩,⟨1,.phase⟩,⟨2,.phase⟩,⟨3,.phase⟩,⟨4,.phase⟩,⟨5,.phase⟩,⟨6,.phase⟩,⟨7,.phase⟩,⟨8,.phase⟩,⟨9,.phase⟩,⟨10,.phase⟩,⟨11,.phase⟩,⟨12,.phase⟩,⟨13,.phase⟩,⟨14,.phase⟩,⟨15,.phase⟩,⟨16,.phase⟩,⟨17,.phase⟩],none⟩,⟨some 58,.fieldAddr 54 (.tmp 57) 0,0,"outright.go:154",#[⟨18,.data⟩,⟨0,.phase⟩,⟨1,.phase⟩,⟨2,.phase⟩,⟨3,.phase⟩,⟨4,.phase⟩,⟨5,.phase⟩,⟨6,.phase⟩,⟨7,.phase⟩,⟨8,.phase⟩,⟨9,.phase⟩,⟨10,.phase⟩,⟨11,.phase⟩,⟨12,.phase⟩,⟨13,.phase⟩,⟨14,.phase⟩,⟨15,.phase⟩,⟨16,.phase⟩,⟨17,.phase⟩],none⟩,⟨none,.store 23 (.tmp 58) (.tmp 56),0,"outright.go:154",#[⟨19,.data⟩,⟨17,.data⟩,⟨17,.chain⟩,⟨0,.phase⟩,⟨1,.phase⟩,⟨2,.phase⟩,⟨3,.phase⟩,⟨4,.phase⟩,⟨5,.phase⟩,⟨6,.phase⟩,⟨7,.phase⟩,⟨8,.phase⟩,⟨9,.phase⟩,⟨10,.phase⟩,⟨11,.phase⟩,⟨12,.phase⟩,⟨13,.phase⟩,⟨14,.phase⟩,⟨15,.phase⟩,⟨16,.phase⟩,⟨17,.phase⟩],none⟩] true) norest3 := by kernel_rfl
set_option maxRecDepth 1000000 in
theorem norest3_eq : norest3 = .seq (Code.region 4 #[⟨some 59,.move (.tmp 0),100,"outright.go:155",#[],none⟩,⟨some 60,.move (.tmp 0),100,"outright.go:155",#[],none⟩,⟨some 61,.nilCheck (.tmp 60),0,"outright.go:155",#[⟨1,.data⟩],none⟩,⟨some 62,.fieldAddr 54 (.tmp 61) 1,0,"outright.go:155",#[⟨2,.data⟩],none⟩,⟨some 63,.fieldAddr 23 (.tmp 62) 0,0,"outright.go:155",#[⟨3,.data⟩],none⟩,⟨some 64,.load 3 (.tmp 63),3,"outright.go:155",#[⟨4,.data⟩],none⟩,⟨some 65,.fieldAddr 57 (.tmp 6) 1,0,"outright.go:155",#[],none⟩,⟨some 66,.load 3 (.tmp 65),3,"outright.go:155",#[⟨6,.data⟩],none⟩,⟨some 67,.call { callee := .builtin .min,args := #[.tmp 64,.tmp 66],argTypes := #[3,3] },3,"outright.go:155",#[⟨5,.data⟩,⟨7,.data⟩],none⟩,⟨some 68,.move (.tmp 0),100,"outright.go:155",#[],none⟩,⟨some 69,.nilCheck (.tmp 68),0,"outright.go:155",#[⟨9,.data⟩],none⟩,⟨some 70,.fieldAddr 54 (.tmp 69) 1,0,"outright.go:155",#[⟨10,.data⟩],none⟩,⟨some 71,.fieldAddr 23 (.tmp 70) 1,0,"outright.go:155",#[⟨11,.data⟩],none⟩,⟨some 72,.load 3 (.tmp 71),3,"outright.go:155",#[⟨12,.data⟩],none⟩,⟨some 73,.fieldAddr 57 (.tmp 6) 1,0,"outright.go:155",#[],none⟩,⟨some 74,.load 3 (.tmp 73),3,"outright.go:155",#[⟨14,.data⟩],none⟩,⟨some 75,.call { callee := .builtin .max,args := #[.tmp 72,.tmp 74],argTypes := #[3,3] },3,"outright.go:155",#[⟨13,.data⟩,⟨15,.data⟩],none⟩,⟨some 76,.call { callee := .value (.func 32),args := #[.tmp 67,.tmp 75],argTypes := #[3,3] },23,"outright.go:155",#[⟨8,.data⟩,⟨16,.data⟩],none⟩,⟨some 77,.nilCheck (.tmp 59),0,"outright.go:155",#[⟨0,.data⟩,⟨0,.phase⟩,⟨1,.phase⟩,⟨2,.phase⟩,⟨3,.phase⟩,⟨4,.phase⟩,⟨5,.phase⟩,⟨6,.phase⟩,⟨7,.phase⟩,⟨8,.phase⟩,⟨9,.phase⟩,⟨10,.phase⟩,⟨11,.phase⟩,⟨12,.phase⟩,⟨13,.phase⟩,⟨14,.phase⟩,⟨15,.phase⟩,⟨16,.phase⟩,⟨17,.phase⟩],none⟩,⟨some 78,.fieldAddr 54 (.tmp 77) 1,0,"outright.go:155",#[⟨18,.data⟩,⟨0,.phase⟩,⟨1,.phase⟩,⟨2,.phase⟩,⟨3,.phase⟩,⟨4,.phase⟩,⟨5,.phase⟩,⟨6,.phase⟩,⟨7,.phase⟩,⟨8,.phase⟩,⟨9,.phase⟩,⟨10,.phase⟩,⟨11,.phase⟩,⟨12,.phase⟩,⟨13,.phase⟩,⟨14,.phase⟩,⟨15,.phase⟩,⟨16,.phase⟩,⟨17,.phase⟩],none⟩,⟨none,.store 23 (.tmp 78) (.tmp 76),0,"outright.go:155",#[⟨19,.data⟩,⟨17,.data⟩,⟨17,.chain⟩,⟨0,.phase⟩,⟨1,.phase⟩,⟨2,.phase⟩,⟨3,.phase⟩,⟨4,.phase⟩,⟨5,.phase⟩,⟨6,.phase⟩,⟨7,.phase⟩,⟨8,.phase⟩,⟨9,.phase⟩,⟨10,.phase⟩,⟨11,.phase⟩,⟨12,.phase⟩,⟨13,.phase⟩,⟨14,.phase⟩,⟨15,.phase⟩,⟨16,.phase⟩,⟨17,.phase⟩],none⟩] true) norest4 := by kernel_rfl
set_option maxRecDepth 1000000 in
theorem norest4_eq : norest4 = .seq (Code.region 5 #[⟨some 79,.move (.tmp 0),100,"outright.go:156",#[],none⟩,⟨some 80,.move (.tmp 0),100,"outright.go:156",#[],none⟩,⟨some 81,.nilCheck (.tmp 80),0,"outright.go:156",#[⟨1,.data⟩],none⟩,⟨some 82,.fieldAddr 54 (.tmp 81) 2,0,"outright.go:156",#[⟨2,.data⟩],none⟩,⟨some 83,.fieldAddr 23 (.tmp 82) 0,0,"outright.go:156",#[⟨3,.data⟩],none⟩,⟨some 84,.load 3 (.tmp 83),3,"outright.go:156",#[⟨4,.data⟩],none⟩,⟨some 85,.fieldAddr 57 (.tmp 6) 2,0,"outright.go:156",#[],none⟩,⟨some 86,.load 3 (.tmp 85),3,"outright.go:156",#[⟨6,.data⟩],none⟩,⟨some 87,.call { callee := .builtin .min,args := #[.tmp 84,.tmp 86],argTypes := #[3,3] },3,"outright.go:156",#[⟨5,.data⟩,⟨7,.data⟩],none⟩,⟨some 88,.move (.tmp 0),100,"outright.go:156",#[],none⟩,⟨some 89,.nilCheck (.tmp 88),0,"outright.go:156",#[⟨9,.data⟩],none⟩,⟨some 90,.fieldAddr 54 (.tmp 89) 2,0,"outright.go:156",#[⟨10,.data⟩],none⟩,⟨some 91,.fieldAddr 23 (.tmp 90) 1,0,"outright.go:156",#[⟨11,.data⟩],none⟩,⟨some 92,.load 3 (.tmp 91),3,"outright.go:156",#[⟨12,.data⟩],none⟩,⟨some 93,.fieldAddr 57 (.tmp 6) 2,0,"outright.go:156",#[],none⟩,⟨some 94,.load 3 (.tmp 93),3,"outright.go:156",#[⟨14,.data⟩],none⟩,⟨some 95,.call { callee := .builtin .max,args := #[.tmp 92,.tmp 94],argTypes := #[3,3] },3,"outright.go:156",#[⟨13,.data⟩,⟨15,.data⟩],none⟩,⟨some 96,.call { callee := .value (.func 32),args := #[.tmp 87,.tmp 95],argTypes := #[3,3] },23,"outright.go:156",#[⟨8,.data⟩,⟨16,.data⟩],none⟩,⟨some 97,.nilCheck (.tmp 79),0,"outright.go:156",#[⟨0,.data⟩,⟨0,.phase⟩,⟨1,.phase⟩,⟨2,.phase⟩,⟨3,.phase⟩,⟨4,.phase⟩,⟨5,.phase⟩,⟨6,.phase⟩,⟨7,.phase⟩,⟨8,.phase⟩,⟨9,.phase⟩,⟨10,.phase⟩,⟨11,.phase⟩,⟨12,.phase⟩,⟨13,.phase⟩,⟨14,.phase⟩,⟨15,.phase⟩,⟨16,.phase⟩,⟨17,.phase⟩],none⟩,⟨some 98,.fieldAddr 54 (.tmp 97) 2,0,"outright.go:156",#[⟨18,.data⟩,⟨0,.phase⟩,⟨1,.phase⟩,⟨2,.phase⟩,⟨3,.phase⟩,⟨4,.phase⟩,⟨5,.phase⟩,⟨6,.phase⟩,⟨7,.phase⟩,⟨8,.phase⟩,⟨9,.phase⟩,⟨10,.phase⟩,⟨11,.phase⟩,⟨12,.phase⟩,⟨13,.phase⟩,⟨14,.phase⟩,⟨15,.phase⟩,⟨16,.phase⟩,⟨17,.phase⟩],none⟩,⟨none,.store 23 (.tmp 98) (.tmp 96),0,"outright.go:156",#[⟨19,.data⟩,⟨17,.data⟩,⟨17,.chain⟩,⟨0,.phase⟩,⟨1,.phase⟩,⟨2,.phase⟩,⟨3,.phase⟩,⟨4,.phase⟩,⟨5,.phase⟩,⟨6,.phase⟩,⟨7,.phase⟩,⟨8,.phase⟩,⟨9,.phase⟩,⟨10,.phase⟩,⟨11,.phase⟩,⟨12,.phase⟩,⟨13,.phase⟩,⟨14,.phase⟩,⟨15,.phase⟩,⟨16,.phase⟩,⟨17,.phase⟩],none⟩] true) norest5 := by kernel_rfl
set_option maxRecDepth 1000000 in
theorem norest5_eq : norest5 = .seq (Code.region 6 #[⟨some 99,.fieldAddr 57 (.tmp 6) 0,0,"outright.go:157",#[],none⟩,⟨some 100,.load 3 (.tmp 99),3,"outright.go:157",#[⟨0,.data⟩],none⟩,⟨some 101,.move (.tmp 3),31,"outright.go:157",#[],none⟩,⟨some 102,.call { callee := .value (.func 84),args := #[.tmp 100,.tmp 101],argTypes := #[3,31] },3,"outright.go:157",#[⟨1,.data⟩,⟨2,.data⟩],none⟩,⟨some 8,.assign (.tmp 102),3,"outright.go:157",#[⟨3,.data⟩,⟨3,.chain⟩,⟨0,.phase⟩,⟨1,.phase⟩,⟨2,.phase⟩,⟨3,.phase⟩],none⟩] false) norest6 := by kernel_rfl
set_option maxRecDepth 1000000 in
theorem norest6_eq : norest6 = .seq (Code.region 7 #[⟨some 103,.move (.tmp 0),100,"outright.go:158",#[],none⟩,⟨some 104,.move (.tmp 0),100,"outright.go:158",#[⟨15,.gcOnly .lateStores⟩],none⟩,⟨some 105,.move (.tmp 0),100,"outright.go:158",#[],none⟩,⟨some 106,.nilCheck (.tmp 105),0,"outright.go:158",#[⟨2,.data⟩],none⟩,⟨some 107,.fieldAddr 54 (.tmp 106) 3,0,"outright.go:158",#[⟨3,.data⟩],none⟩,⟨some 108,.load 3 (.tmp 107),3,"outright.go:158",#[⟨4,.data⟩],none⟩,⟨some 109,.move (.tmp 8),3,"outright.go:158",#[],none⟩,⟨some 110,.call { callee := .builtin .max,args := #[.tmp 108,.tmp 109],argTypes := #[3,3] },3,"outright.go:158",#[⟨5,.data⟩,⟨6,.data⟩],none⟩,⟨some 111,.move (.tmp 0),100,"outright.go:158",#[],none⟩,⟨some 112,.nilCheck (.tmp 111),0,"outright.go:158",#[⟨8,.data⟩],none⟩,⟨some 113,.fieldAddr 54 (.tmp 112) 7,0,"outright.go:158",#[⟨9,.data⟩],none⟩,⟨some 114,.load 3 (.tmp 113),3,"outright.go:158",#[⟨10,.data⟩],none⟩,⟨some 115,.binOp .add 3 (.tmp 114) (.const (.int .i64 1)) 3,3,"outright.go:158",#[⟨11,.data⟩],none⟩,⟨some 116,.nilCheck (.tmp 103),0,"outright.go:158",#[⟨0,.data⟩,⟨0,.phase⟩,⟨1,.textOnly .lateStores⟩,⟨2,.phase⟩,⟨3,.phase⟩,⟨4,.phase⟩,⟨5,.phase⟩,⟨6,.phase⟩,⟨7,.phase⟩,⟨8,.textOnly .lateStores⟩,⟨9,.textOnly .lateStoresUnsure⟩,⟨10,.textOnly .lateStoresUnsure⟩,⟨11,.phase⟩,⟨12,.textOnly .lateStoresUnsure⟩],none⟩,⟨some 117,.fieldAddr 54 (.tmp 116) 3,0,"outright.go:158",#[⟨13,.data⟩,⟨0,.phase⟩,⟨1,.textOnly .lateStores⟩,⟨2,.phase⟩,⟨3,.phase⟩,⟨4,.phase⟩,⟨5,.phase⟩,⟨6,.phase⟩,⟨7,.phase⟩,⟨8,.textOnly .lateStores⟩,⟨9,.textOnly .lateStoresUnsure⟩,⟨10,.textOnly .lateStoresUnsure⟩,⟨11,.phase⟩,⟨12,.textOnly .lateStoresUnsure⟩],none⟩,⟨none,.store 3 (.tmp 117) (.tmp 110),0,"outright.go:158",#[⟨14,.data⟩,⟨7,.data⟩,⟨0,.phase⟩,⟨1,.textOnly .lateStores⟩,⟨2,.phase⟩,⟨3,.phase⟩,⟨4,.phase⟩,⟨5,.phase⟩,⟨6,.phase⟩,⟨7,.phase⟩,⟨8,.textOnly .lateStores⟩,⟨9,.textOnly .lateStoresUnsure⟩,⟨10,.textOnly .lateStoresUnsure⟩,⟨11,.phase⟩,⟨12,.textOnly .lateStoresUnsure⟩],none⟩,⟨some 118,.nilCheck (.tmp 104),0,"outright.go:158",#[⟨1,.data⟩,⟨0,.phase⟩,⟨1,.phase⟩,⟨2,.phase⟩,⟨3,.phase⟩,⟨4,.phase⟩,⟨5,.phase⟩,⟨6,.phase⟩,⟨7,.phase⟩,⟨8,.phase⟩,⟨9,.phase⟩,⟨10,.phase⟩,⟨11,.phase⟩,⟨12,.phase⟩,⟨13,.phase⟩,⟨14,.phase⟩,⟨15,.phase⟩],none⟩,⟨some 119,.fieldAddr 54 (.tmp 118) 7,0,"outright.go:158",#[⟨16,.data⟩,⟨0,.phase⟩,⟨1,.phase⟩,⟨2,.phase⟩,⟨3,.phase⟩,⟨4,.phase⟩,⟨5,.phase⟩,⟨6,.phase⟩,⟨7,.phase⟩,⟨8,.phase⟩,⟨9,.phase⟩,⟨10,.phase⟩,⟨11,.phase⟩,⟨12,.phase⟩,⟨13,.phase⟩,⟨14,.phase⟩,⟨15,.phase⟩],none⟩,⟨none,.store 3 (.tmp 119) (.tmp 115),0,"outright.go:158",#[⟨17,.data⟩,⟨12,.data⟩,⟨15,.chain⟩,⟨0,.phase⟩,⟨1,.phase⟩,⟨2,.phase⟩,⟨3,.phase⟩,⟨4,.phase⟩,⟨5,.phase⟩,⟨6,.phase⟩,⟨7,.phase⟩,⟨8,.phase⟩,⟨9,.phase⟩,⟨10,.phase⟩,⟨11,.phase⟩,⟨12,.phase⟩,⟨13,.phase⟩,⟨14,.phase⟩,⟨15,.phase⟩],none⟩] true) norest7 := by kernel_rfl
set_option maxRecDepth 1000000 in
theorem norest7_eq : norest7 = .seq (Code.region 8 #[⟨some 120,.fieldAddr 57 (.tmp 6) 1,0,"outright.go:159",#[],none⟩,⟨some 121,.load 3 (.tmp 120),3,"outright.go:159",#[⟨0,.data⟩],none⟩,⟨some 122,.fieldAddr 30 (.tmp 5) 1,0,"outright.go:159",#[],none⟩,⟨some 123,.fieldAddr 27 (.tmp 122) 4,0,"outright.go:159",#[⟨2,.data⟩],none⟩,⟨some 124,.load 3 (.tmp 123),3,"outright.go:159",#[⟨3,.data⟩],none⟩,⟨some 125,.binOp .lss 3 (.tmp 121) (.tmp 124) 3,4,"outright.go:159",#[⟨1,.data⟩,⟨4,.data⟩],none⟩,⟨some 126,.move (.tmp 125),4,"outright.go:159",#[⟨5,.data⟩],none⟩,⟨some 127,.fieldAddr 57 (.tmp 6) 2,0,"outright.go:159",#[⟨6,.guard⟩],some (6,false)⟩,⟨some 128,.load 3 (.tmp 127),3,"outright.go:159",#[⟨7,.data⟩,⟨6,.guard⟩],some (6,false)⟩,⟨some 129,.fieldAddr 30 (.tmp 5) 1,0,"outright.go:159",#[⟨6,.guard⟩],some (6,false)⟩,⟨some 130,.fieldAddr 27 (.tmp 129) 4,0,"outright.go:159",#[⟨9,.data⟩,⟨6,.guard⟩],some (6,false)⟩,⟨some 131,.load 3 (.tmp 130),3,"outright.go:159",#[⟨10,.data⟩,⟨6,.guard⟩],some (6,false)⟩,⟨some 132,.binOp .lss 3 (.tmp 128) (.tmp 131) 3,4,"outright.go:159",#[⟨8,.data⟩,⟨11,.data⟩,⟨6,.guard⟩],some (6,false)⟩,⟨some 133,.pick (.tmp 126) (.const (.bool true)) (.tmp 132),4,"outright.go:159",#[⟨6,.data⟩,⟨12,.data⟩],none⟩,⟨some 9,.assign (.tmp 133),4,"outright.go:159",#[⟨13,.data⟩,⟨6,.chain⟩,⟨0,.phase⟩,⟨1,.phase⟩,⟨2,.phase⟩,⟨3,.phase⟩,⟨4,.phase⟩,⟨5,.phase⟩,⟨6,.phase⟩,⟨7,.phase⟩,⟨8,.phase⟩,⟨9,.phase⟩,⟨10,.phase⟩,⟨11,.phase⟩,⟨12,.phase⟩,⟨13,.phase⟩],none⟩] false) norest8 := by kernel_rfl
set_option maxRecDepth 1000000 in
theorem norest8_eq : norest8 = .seq (.seq (Code.region 9 #[⟨some 134,.move (.tmp 8),3,"outright.go:160",#[],none⟩,⟨some 135,.fieldAddr 30 (.tmp 5) 3,0,"outright.go:160",#[],none⟩,⟨some 136,.load 3 (.tmp 135),3,"outright.go:160",#[⟨1,.data⟩],none⟩,⟨some 137,.binOp .leq 3 (.tmp 134) (.tmp 136) 3,4,"outright.go:160",#[⟨0,.data⟩,⟨2,.data⟩],none⟩] false) (.cond (.tmp 137) (Code.region 10 #[⟨some 138,.move (.tmp 0),100,"outright.go:161",#[],none⟩,⟨some 139,.nilCheck (.tmp 138),0,"outright.go:161",#[⟨0,.data⟩],none⟩,⟨some 140,.fieldAddr 54 (.tmp 139) 4,0,"outright.go:161",#[⟨1,.data⟩],none⟩,⟨some 141,.load 3 (.tmp 140),3,"outright.go:161",#[⟨2,.data⟩],none⟩,⟨some 142,.binOp .add 3 (.tmp 141) (.const (.int .i64 1)) 3,3,"outright.go:161",#[⟨3,.data⟩],none⟩,⟨some 143,.nilCheck (.tmp 138),0,"outright.go:161",#[⟨0,.data⟩,⟨0,.phase⟩,⟨1,.phase⟩,⟨2,.phase⟩,⟨3,.phase⟩,⟨4,.phase⟩],none⟩,⟨some 144,.fieldAddr 54 (.tmp 143) 4,0,"outright.go:161",#[⟨5,.data⟩,⟨0,.phase⟩,⟨1,.phase⟩,⟨2,.phase⟩,⟨3,.phase⟩,⟨4,.phase⟩],none⟩,⟨none,.store 3 (.tmp 144) (.tmp 142),0,"outright.go:161",#[⟨6,.data⟩,⟨4,.data⟩,⟨0,.phase⟩,⟨1,.phase⟩,⟨2,.phase⟩,⟨3,.phase⟩,⟨4,.phase⟩],none⟩] false) .skip)) norest9 := by kernel_rfl
set_option maxRecDepth 1000000 in
theorem norest9_eq : norest9 = .seq (.seq (Code.region 11 #[⟨some 145,.move (.tmp 9),4,"outright.go:163",#[],none⟩] false) (.cond (.tmp 145) (Code.region 12 #[⟨some 146,.move (.tmp 0),100,"outright.go:164",#[],none⟩,⟨some 147,.nilCheck (.tmp 146),0,"outright.go:164",#[⟨0,.data⟩],none⟩,⟨some 148,.fieldAddr 54 (.tmp 147) 5,0,"outright.go:164",#[⟨1,.data⟩],none⟩,⟨some 149,.load 3 (.tmp 148),3,"outright.go:164",#[⟨2,.data⟩],none⟩,⟨some 150,.binOp .add 3 (.tmp 149) (.const (.int .i64 1)) 3,3,"outright.go:164",#[⟨3,.data⟩],none⟩,⟨some 151,.nilCheck (.tmp 146),0,"outright.go:164",#[⟨0,.data⟩,⟨0,.phase⟩,⟨1,.phase⟩,⟨2,.phase⟩,⟨3,.phase⟩,⟨4,.phase⟩],none⟩,⟨some 152,.fieldAddr 54 (.tmp 151) 5,0,"outright.go:164",#[⟨5,.data⟩,⟨0,.phase⟩,⟨1,.phase⟩,⟨2,.phase⟩,⟨3,.phase⟩,⟨4,.phase⟩],none⟩,⟨none,.store 3 (.tmp 152) (.tmp 150),0,"outright.go:164",#[⟨6,.data⟩,⟨4,.data⟩,⟨0,.phase⟩,⟨1,.phase⟩,⟨2,.phase⟩,⟨3,.phase⟩,⟨4,.phase⟩],none⟩] false) .skip)) norest10 := by kernel_rfl
set_option maxRecDepth 1000000 in
theorem norest10_eq : norest10 = .seq (Code.region 13 #[⟨some 153,.move (.tmp 8),3,"outright.go:166",#[],none⟩,⟨some 154,.fieldAddr 30 (.tmp 5) 3,0,"outright.go:166",#[],none⟩,⟨some 155,.load 3 (.tmp 154),3,"outright.go:166",#[⟨1,.data⟩],none⟩,⟨some 156,.binOp .leq 3 (.tmp 153) (.tmp 155) 3,4,"outright.go:166",#[⟨0,.data⟩,⟨2,.data⟩],none⟩,⟨some 157,.move (.tmp 156),4,"outright.go:166",#[⟨3,.data⟩],none⟩,⟨some 158,.move (.tmp 9),4,"outright.go:166",#[⟨4,.guard⟩],some (4,true)⟩,⟨some 159,.unOp .not 4 (.tmp 158),4,"outright.go:166",#[⟨5,.data⟩,⟨4,.guard⟩],some (4,true)⟩,⟨some 160,.pick (.tmp 157) (.tmp 159) (.const (.bool false)),4,"outright.go:166",#[⟨4,.data⟩,⟨6,.data⟩],none⟩] false) (.cond (.tmp 160) (Code.region 14 #[⟨some 161,.move (.tmp 0),100,"outright.go:167",#[],none⟩,⟨some 162,.nilCheck (.tmp 161),0,"outright.go:167",#[⟨0,.data⟩],none⟩,⟨some 163,.fieldAddr 54 (.tmp 162) 6,0,"outright.go:167",#[⟨1,.data⟩],none⟩,⟨some 164,.load 3 (.tmp 163),3,"outright.go:167",#[⟨2,.data⟩],none⟩,⟨some 165,.binOp .add 3 (.tmp 164) (.const (.int .i64 1)) 3,3,"outright.go:167",#[⟨3,.data⟩],none⟩,⟨some 166,.nilCheck (.tmp 161),0,"outright.go:167",#[⟨0,.data⟩,⟨0,.phase⟩,⟨1,.phase⟩,⟨2,.phase⟩,⟨3,.phase⟩,⟨4,.phase⟩],none⟩,⟨some 167,.fieldAddr 54 (.tmp 166) 6,0,"outright.go:167",#[⟨5,.data⟩,⟨0,.phase⟩,⟨1,.phase⟩,⟨2,.phase⟩,⟨3,.phase⟩,⟨4,.phase⟩],none⟩,⟨none,.store 3 (.tmp 167) (.tmp 165),0,"outright.go:167",#[⟨6,.data⟩,⟨4,.data⟩,⟨0,.phase⟩,⟨1,.phase⟩,⟨2,.phase⟩,⟨3,.phase⟩,⟨4,.phase⟩],none⟩] false) .skip) := by kernel_rfl
set_option maxHeartbeats 9000000 in
set_option maxRecDepth 1000000 in
theorem nor2 {w0 w : World} {bx g5 g6 : Nat} {J : Jb} {s : Value} {t : Fd} {sa : Option Addr} {sn sc : Nat} {sl : List Int} {e : En} {Q : Exit → Act → World → Prop} {u1 u2 u4 u7 u8 u9 A0 A1 A2 A3 A4 A5 A6 A7 A8 A9 Aa Ab Ac Ad Ae Af Ag Ah Ai Aj Ak Al Am An Ao Ap Aq Ar As At Au Av Aw Ax Ay Az C0 C1 C2 C3 C4 C5 C6 C7 C8 C9 Ca Cb Cc Cd Ce Cf Cg Ch Ci Cj Ck Cl Cm Cn Co Cp Cq Cr Cs Ct Cu Cv Cw Cx Cy Cz D0 D1 D2 D3 D4 D5 D6 D7 D8 D9 Da Db Dc Dd De Df Dg Dh Di Dj Dk Dl Dm Dn Do Dp Dq Dr Ds Dt Du Dv Dw Dx Dy Dz E0 E1 E2 E3 E4 E5 E6 E7 E8 E9 Ea Eb Ec Ed Ee Ef Eg Eh Ei Ej Ek El Em u141 Eo Ep Eq Er Es Et Eu Ev Ew Ex Ey Ez F0 F1 F2 F3 F4 F5 F6 F7 F8 F9 Fa Fb Fc u167 : Value} (hs : NT w0 w bx g5 g6 J s t sa sl) (hE : Bk w bx 54 (enC e))  (hK : ∀ (w' : World),NT w0 w' bx g5 g6 J s t sa sl → Bk w' bx 54 (enC { e with pl := t.p,ph := t.p,tl := t.t,th := t.t,rl := t.r,rh := t.r }) → ∀ (Qh Qi Qj Qk Ql Qm Qn Qo Qp Qq Qr Qs Qt Qu Qv Qw Qx Qy Qz S0 S1 S2 S3 S4 : Value),Q .normal ⟨#[(.pointer (some ⟨bx,0,none⟩)),u1,u2,(.slice sa sn sc),u4,(.pointer (some ⟨g5,0,none⟩)),(.pointer (some ⟨g6,0,none⟩)),u7,u8,u9,A0,A1,A2,A3,A4,Qh,Qi,Qj,Qk,Ql,Qm,Qn,Qo,Qp,Qq,Qr,Qs,Qt,Qu,Qv,Qw,Qx,Qy,Qz,S0,S1,S2,S3,S4,At,Au,Av,Aw,Ax,Ay,Az,C0,C1,C2,C3,C4,C5,C6,C7,C8,C9,Ca,Cb,Cc,Cd,Ce,Cf,Cg,Ch,Ci,Cj,Ck,Cl,Cm,Cn,Co,Cp,Cq,Cr,Cs,Ct,Cu,Cv,Cw,Cx,Cy,Cz,D0,D1,D2,D3,D4,D5,D6,D7,D8,D9,Da,Db,Dc,Dd,De,Df,Dg,Dh,Di,Dj,Dk,Dl,Dm,Dn,Do,Dp,Dq,Dr,Ds,Dt,Du,Dv,Dw,Dx,Dy,Dz,E0,E1,E2,E3,E4,E5,E6,E7,E8,E9,Ea,Eb,Ec,Ed,Ee,Ef,Eg,Eh,Ei,Ej,Ek,El,Em,u141,Eo,Ep,Eq,Er,Es,Et,Eu,Ev,Ew,Ex,Ey,Ez,F0,F1,F2,F3,F4,F5,F6,F7,F8,F9,Fa,Fb,Fc,u167],[]⟩ w') : Code.wp Try.prog (Code.region 2 #[⟨some 15,.move (.tmp 0),100,"outright.go:152",#[],none⟩,⟨some 16,.move (.tmp 0),100,"outright.go:152",#[⟨20,.gcOnly .lateStores⟩],none⟩,⟨some 17,.move (.tmp 0),100,"outright.go:152",#[⟨23,.gcOnly .lateStores⟩],none⟩,⟨some 18,.fieldAddr 57 (.tmp 6) 0,0,"outright.go:152",#[],none⟩,⟨some 19,.load 3 (.tmp 18),3,"outright.go:152",#[⟨3,.data⟩],none⟩,⟨some 20,.fieldAddr 57 (.tmp 6) 0,0,"outright.go:152",#[],none⟩,⟨some 21,.load 3 (.tmp 20),3,"outright.go:152",#[⟨5,.data⟩],none⟩,⟨some 22,.call { callee := .value (.func 32),args := #[.tmp 19,.tmp 21],argTypes := #[3,3] },23,"outright.go:152",#[⟨4,.data⟩,⟨6,.data⟩],none⟩,⟨some 23,.fieldAddr 57 (.tmp 6) 1,0,"outright.go:152",#[],none⟩,⟨some 24,.load 3 (.tmp 23),3,"outright.go:152",#[⟨8,.data⟩],none⟩,⟨some 25,.fieldAddr 57 (.tmp 6) 1,0,"outright.go:152",#[],none⟩,⟨some 26,.load 3 (.tmp 25),3,"outright.go:152",#[⟨10,.data⟩],none⟩,⟨some 27,.call { callee := .value (.func 32),args := #[.tmp 24,.tmp 26],argTypes := #[3,3] },23,"outright.go:152",#[⟨9,.data⟩,⟨11,.data⟩,⟨7,.chain⟩],none⟩,⟨some 28,.fieldAddr 57 (.tmp 6) 2,0,"outright.go:152",#[],none⟩,⟨some 29,.load 3 (.tmp 28),3,"outright.go:152",#[⟨13,.data⟩],none⟩,⟨some 30,.fieldAddr 57 (.tmp 6) 2,0,"outright.go:152",#[],none⟩,⟨some 31,.load 3 (.tmp 30),3,"outright.go:152",#[⟨15,.data⟩],none⟩,⟨some 32,.call { callee := .value (.func 32),args := #[.tmp 29,.tmp 31],argTypes := #[3,3] },23,"outright.go:152",#[⟨14,.data⟩,⟨16,.data⟩,⟨12,.chain⟩],none⟩,⟨some 33,.nilCheck (.tmp 15),0,"outright.go:152",#[⟨0,.data⟩,⟨0,.phase⟩,⟨1,.textOnly .lateStores⟩,⟨2,.textOnly .lateStores⟩,⟨3,.phase⟩,⟨4,.phase⟩,⟨5,.phase⟩,⟨6,.phase⟩,⟨7,.phase⟩,⟨8,.textOnly .lateStores⟩,⟨9,.textOnly .lateStores⟩,⟨10,.textOnly .lateStores⟩,⟨11,.textOnly .lateStores⟩,⟨12,.phase⟩,⟨13,.textOnly .lateStores⟩,⟨14,.textOnly .lateStores⟩,⟨15,.textOnly .lateStores⟩,⟨16,.textOnly .lateStores⟩,⟨17,.phase⟩],none⟩,⟨some 34,.fieldAddr 54 (.tmp 33) 0,0,"outright.go:152",#[⟨18,.data⟩,⟨0,.phase⟩,⟨1,.textOnly .lateStores⟩,⟨2,.textOnly .lateStores⟩,⟨3,.phase⟩,⟨4,.phase⟩,⟨5,.phase⟩,⟨6,.phase⟩,⟨7,.phase⟩,⟨8,.textOnly .lateStores⟩,⟨9,.textOnly .lateStores⟩,⟨10,.textOnly .lateStores⟩,⟨11,.textOnly .lateStores⟩,⟨12,.phase⟩,⟨13,.textOnly .lateStores⟩,⟨14,.textOnly .lateStores⟩,⟨15,.textOnly .lateStores⟩,⟨16,.textOnly .lateStores⟩,⟨17,.phase⟩],none⟩,⟨none,.store 23 (.tmp 34) (.tmp 22),0,"outright.go:152",#[⟨19,.data⟩,⟨7,.data⟩,⟨17,.chain⟩,⟨0,.phase⟩,⟨1,.textOnly .lateStores⟩,⟨2,.textOnly .lateStores⟩,⟨3,.phase⟩,⟨4,.phase⟩,⟨5,.phase⟩,⟨6,.phase⟩,⟨7,.phase⟩,⟨8,.textOnly .lateStores⟩,⟨9,.textOnly .lateStores⟩,⟨10,.textOnly .lateStores⟩,⟨11,.textOnly .lateStores⟩,⟨12,.phase⟩,⟨13,.textOnly .lateStores⟩,⟨14,.textOnly .lateStores⟩,⟨15,.textOnly .lateStores⟩,⟨16,.textOnly .lateStores⟩,⟨17,.phase⟩],none⟩,⟨some 35,.nilCheck (.tmp 16),0,"outright.go:152",#[⟨1,.data⟩,⟨0,.phase⟩,⟨1,.phase⟩,⟨2,.textOnly .lateStores⟩,⟨3,.phase⟩,⟨4,.phase⟩,⟨5,.phase⟩,⟨6,.phase⟩,⟨7,.phase⟩,⟨8,.phase⟩,⟨9,.phase⟩,⟨10,.phase⟩,⟨11,.phase⟩,⟨12,.phase⟩,⟨13,.textOnly .lateStores⟩,⟨14,.textOnly .lateStores⟩,⟨15,.textOnly .lateStores⟩,⟨16,.textOnly .lateStores⟩,⟨17,.phase⟩,⟨18,.phase⟩,⟨19,.phase⟩,⟨20,.phase⟩],none⟩,⟨some 36,.fieldAddr 54 (.tmp 35) 1,0,"outright.go:152",#[⟨21,.data⟩,⟨0,.phase⟩,⟨1,.phase⟩,⟨2,.textOnly .lateStores⟩,⟨3,.phase⟩,⟨4,.phase⟩,⟨5,.phase⟩,⟨6,.phase⟩,⟨7,.phase⟩,⟨8,.phase⟩,⟨9,.phase⟩,⟨10,.phase⟩,⟨11,.phase⟩,⟨12,.phase⟩,⟨13,.textOnly .lateStores⟩,⟨14,.textOnly .lateStores⟩,⟨15,.textOnly .lateStores⟩,⟨16,.textOnly .lateStores⟩,⟨17,.phase⟩,⟨18,.phase⟩,⟨19,.phase⟩,⟨20,.phase⟩],none⟩,⟨none,.store 23 (.tmp 36) (.tmp 27),0,"outright.go:152",#[⟨22,.data⟩,⟨12,.data⟩,⟨20,.chain⟩,⟨0,.phase⟩,⟨1,.phase⟩,⟨2,.textOnly .lateStores⟩,⟨3,.phase⟩,⟨4,.phase⟩,⟨5,.phase⟩,⟨6,.phase⟩,⟨7,.phase⟩,⟨8,.phase⟩,⟨9,.phase⟩,⟨10,.phase⟩,⟨11,.phase⟩,⟨12,.phase⟩,⟨13,.textOnly .lateStores⟩,⟨14,.textOnly .lateStores⟩,⟨15,.textOnly .lateStores⟩,⟨16,.textOnly .lateStores⟩,⟨17,.phase⟩,⟨18,.phase⟩,⟨19,.phase⟩,⟨20,.phase⟩],none⟩,⟨some 37,.nilCheck (.tmp 17),0,"outright.go:152",#[⟨2,.data⟩,⟨0,.phase⟩,⟨1,.phase⟩,⟨2,.phase⟩,⟨3,.phase⟩,⟨4,.phase⟩,⟨5,.phase⟩,⟨6,.phase⟩,⟨7,.phase⟩,⟨8,.phase⟩,⟨9,.phase⟩,⟨10,.phase⟩,⟨11,.phase⟩,⟨12,.phase⟩,⟨13,.phase⟩,⟨14,.phase⟩,⟨15,.phase⟩,⟨16,.phase⟩,⟨17,.phase⟩,⟨18,.phase⟩,⟨19,.phase⟩,⟨20,.phase⟩,⟨21,.phase⟩,⟨22,.phase⟩,⟨23,.phase⟩],none⟩,⟨some 38,.fieldAddr 54 (.tmp 37) 2,0,"outright.go:152",#[⟨24,.data⟩,⟨0,.phase⟩,⟨1,.phase⟩,⟨2,.phase⟩,⟨3,.phase⟩,⟨4,.phase⟩,⟨5,.phase⟩,⟨6,.phase⟩,⟨7,.phase⟩,⟨8,.phase⟩,⟨9,.phase⟩,⟨10,.phase⟩,⟨11,.phase⟩,⟨12,.phase⟩,⟨13,.phase⟩,⟨14,.phase⟩,⟨15,.phase⟩,⟨16,.phase⟩,⟨17,.phase⟩,⟨18,.phase⟩,⟨19,.phase⟩,⟨20,.phase⟩,⟨21,.phase⟩,⟨22,.phase⟩,⟨23,.phase⟩],none⟩,⟨none,.store 23 (.tmp 38) (.tmp 32),0,"outright.go:152",#[⟨25,.data⟩,⟨17,.data⟩,⟨23,.chain⟩,⟨0,.phase⟩,⟨1,.phase⟩,⟨2,.phase⟩,⟨3,.phase⟩,⟨4,.phase⟩,⟨5,.phase⟩,⟨6,.phase⟩,⟨7,.phase⟩,⟨8,.phase⟩,⟨9,.phase⟩,⟨10,.phase⟩,⟨11,.phase⟩,⟨12,.phase⟩,⟨13,.phase⟩,⟨14,.phase⟩,⟨15,.phase⟩,⟨16,.phase⟩,⟨17,.phase⟩,⟨18,.phase⟩,⟨19,.phase⟩,⟨20,.phase⟩,⟨21,.phase⟩,⟨22,.phase⟩,⟨23,.phase⟩],none⟩] true) Q ⟨#[(.pointer (some ⟨bx,0,none⟩)),u1,u2,(.slice sa sn sc),u4,(.pointer (some ⟨g5,0,none⟩)),(.pointer (some ⟨g6,0,none⟩)),u7,u8,u9,A0,A1,A2,A3,A4,A5,A6,A7,A8,A9,Aa,Ab,Ac,Ad,Ae,Af,Ag,Ah,Ai,Aj,Ak,Al,Am,An,Ao,Ap,Aq,Ar,As,At,Au,Av,Aw,Ax,Ay,Az,C0,C1,C2,C3,C4,C5,C6,C7,C8,C9,Ca,Cb,Cc,Cd,Ce,Cf,Cg,Ch,Ci,Cj,Ck,Cl,Cm,Cn,Co,Cp,Cq,Cr,Cs,Ct,Cu,Cv,Cw,Cx,Cy,Cz,D0,D1,D2,D3,D4,D5,D6,D7,D8,D9,Da,Db,Dc,Dd,De,Df,Dg,Dh,Di,Dj,Dk,Dl,Dm,Dn,Do,Dp,Dq,Dr,Ds,Dt,Du,Dv,Dw,Dx,Dy,Dz,E0,E1,E2,E3,E4,E5,E6,E7,E8,E9,Ea,Eb,Ec,Ed,Ee,Ef,Eg,Eh,Ei,Ej,Ek,El,Em,u141,Eo,Ep,Eq,Er,Es,Et,Eu,Ev,Ew,Ex,Ey,Ez,F0,F1,F2,F3,F4,F5,F6,F7,F8,F9,Fa,Fb,Fc,u167],[]⟩ w := by
  refine region_via (R := fun a_ e_ a' w' => e_ = .normal ∧ ∃ (Qh Qi Qj Qk Ql Qm Qn Qo Qp Qq Qr Qs Qt Qu Qv Qw Qx Qy Qz S0 S1 S2 S3 S4 : Value),a' = ((((((((((((((((((((((((a_.put (some 15) Qh).put (some 16) Qi).put (some 17) Qj).put (some 18) Qk).put (some 19) Ql).put (some 20) Qm).put (some 21) Qn).put (some 22) Qo).put (some 23) Qp).put (some 24) Qq).put (some 25) Qr).put (some 26) Qs).put (some 27) Qt).put (some 28) Qu).put (some 29) Qv).put (some 30) Qw).put (some 31) Qx).put (some 32) Qy).put (some 33) Qz).put (some 34) S0).put (some 35) S1).put (some 36) S2).put (some 37) S3).put (some 38) S4) ∧ NT w0 w' bx g5 g6 J s t sa sl ∧ Bk w' bx 54 (enC { e with pl := t.p,ph := t.p,tl := t.t,th := t.t,rl := t.r,rh := t.r })) ?_ ?_
  rotate_left
  · rintro e_ a' w' ⟨rfl,Qh,Qi,Qj,Qk,Ql,Qm,Qn,Qo,Qp,Qq,Qr,Qs,Qt,Qu,Qv,Qw,Qx,Qy,Qz,S0,S1,S2,S3,S4,rfl,hs',he'⟩
    simp only [Act.put,aT,aZ,aS]
    exact hK _ hs' he' _ _ _ _ _ _ _ _ _ _ _ _ _ _ _ _ _ _ _ _ _ _ _ _ 
  have hS : NT w0 w.drew bx g5 g6 J s t sa sl := hs.next (Below.refl _ _).drew
  have hE_ : Bk w.drew bx 54 (enC e) := hE
  clear hs hE
  have hE := hE_
  clear hE_
  refine wp_region_held_drew (S := fun w' => NT w0 w' bx g5 g6 J s t sa sl) (by kernel_rfl) hS (fun hS0 => ?_)
  clear hS0
  generalize w.drew = wd at hS hE ⊢
  refine wpAnyH_take (i := 0) (v := ?_) rfl (by kernel_rfl) (by kernel_rfl) (by kernel_rfl) (fun _ _ _ h => by cases h.1) (.inl ⟨by rfl,?_⟩) (by assumption) ?_
  rotate_left
  · (intro w' hSw; (try dsimp only at hSw); skip; go_simp <;> with_reducible rfl)
  (try simp only [Act.put,aT,aZ,aS])
  refine wpAnyH_take (i := 1) (v := ?_) rfl (by kernel_rfl) (by kernel_rfl) (by kernel_rfl) (fun _ _ _ h => by cases h.1) (.inl ⟨by rfl,?_⟩) (by assumption) ?_
  rotate_left
  · (intro w' hSw; (try dsimp only at hSw); skip; go_simp <;> with_reducible rfl)
  (try simp only [Act.put,aT,aZ,aS])
  refine wpAnyH_take (i := 2) (v := ?_) rfl (by kernel_rfl) (by kernel_rfl) (by kernel_rfl) (fun _ _ _ h => by cases h.1) (.inl ⟨by rfl,?_⟩) (by assumption) ?_
  rotate_left
  · (intro w' hSw; (try dsimp only at hSw); skip; go_simp <;> with_reducible rfl)
  (try simp only [Act.put,aT,aZ,aS])
  refine wpAnyH_take (i := 3) (v := ?_) rfl (by kernel_rfl) (by kernel_rfl) (by kernel_rfl) (fun _ _ _ h => by cases h.1) (.inl ⟨by rfl,?_⟩) (by assumption) ?_
  rotate_left
  · (intro w' hSw; (try dsimp only at hSw); skip; go_simp <;> with_reducible rfl)
  (try simp only [Act.put,aT,aZ,aS])
  refine wpAnyH_take (i := 4) (v := ?_) rfl (by kernel_rfl) (by kernel_rfl) (by kernel_rfl) (fun _ _ _ h => by cases h.1) (.inl ⟨by rfl,?_⟩) (by assumption) ?_
  rotate_left
  · (intro w' hSw; (try dsimp only at hSw); (have q0 := hSw.fl.at_ 0 (.int .i64 t.p) rfl; have q1 := hSw.fl.at_ 1 (.int .i64 t.t) rfl; have q2 := hSw.fl.at_ 2 (.int .i64 t.r) rfl; skip); go_simp <;> with_reducible rfl)
  (try simp only [Act.put,aT,aZ,aS])
  refine wpAnyH_take (i := 5) (v := ?_) rfl (by kernel_rfl) (by kernel_rfl) (by kernel_rfl) (fun _ _ _ h => by cases h.1) (.inl ⟨by rfl,?_⟩) (by assumption) ?_
  rotate_left
  · (intro w' hSw; (try dsimp only at hSw); skip; go_simp <;> with_reducible rfl)
  (try simp only [Act.put,aT,aZ,aS])
  refine wpAnyH_take (i := 6) (v := ?_) rfl (by kernel_rfl) (by kernel_rfl) (by kernel_rfl) (fun _ _ _ h => by cases h.1) (.inl ⟨by rfl,?_⟩) (by assumption) ?_
  rotate_left
  · (intro w' hSw; (try dsimp only at hSw); (have q0 := hSw.fl.at_ 0 (.int .i64 t.p) rfl; have q1 := hSw.fl.at_ 1 (.int .i64 t.t) rfl; have q2 := hSw.fl.at_ 2 (.int .i64 t.r) rfl; skip); go_simp <;> with_reducible rfl)
  (try simp only [Act.put,aT,aZ,aS])
  refine wpAnyH_take (i := 8) (v := ?_) rfl (by kernel_rfl) (by kernel_rfl) (by kernel_rfl) (fun _ _ _ h => by cases h.1) (.inl ⟨by rfl,?_⟩) (by assumption) ?_
  rotate_left
  · (intro w' hSw; (try dsimp only at hSw); skip; go_simp <;> with_reducible rfl)
  (try simp only [Act.put,aT,aZ,aS])
  refine wpAnyH_take (i := 9) (v := ?_) rfl (by kernel_rfl) (by kernel_rfl) (by kernel_rfl) (fun _ _ _ h => by cases h.1) (.inl ⟨by rfl,?_⟩) (by assumption) ?_
  rotate_left
  · (intro w' hSw; (try dsimp only at hSw); (have q0 := hSw.fl.at_ 0 (.int .i64 t.p) rfl; have q1 := hSw.fl.at_ 1 (.int .i64 t.t) rfl; have q2 := hSw.fl.at_ 2 (.int .i64 t.r) rfl; skip); go_simp <;> with_reducible rfl)
  (try simp only [Act.put,aT,aZ,aS])
  refine wpAnyH_take (i := 10) (v := ?_) rfl (by kernel_rfl) (by kernel_rfl) (by kernel_rfl) (fun _ _ _ h => by cases h.1) (.inl ⟨by rfl,?_⟩) (by assumption) ?_
  rotate_left
  · (intro w' hSw; (try dsimp only at hSw); skip; go_simp <;> with_reducible rfl)
  (try simp only [Act.put,aT,aZ,aS])
  refine wpAnyH_take (i := 11) (v := ?_) rfl (by kernel_rfl) (by kernel_rfl) (by kernel_rfl) (fun _ _ _ h => by cases h.1) (.inl ⟨by rfl,?_⟩) (by assumption) ?_
  rotate_left
  · (intro w' hSw; (try dsimp only at hSw); (have q0 := hSw.fl.at_ 0 (.int .i64 t.p) rfl; have q1 := hSw.fl.at_ 1 (.int .i64 t.t) rfl; have q2 := hSw.fl.at_ 2 (.int .i64 t.r) rfl; skip); go_simp <;> with_reducible rfl)
  (try simp only [Act.put,aT,aZ,aS])
  refine wpAnyH_take (i := 13) (v := ?_) rfl (by kernel_rfl) (by kernel_rfl) (by kernel_rfl) (fun _ _ _ h => by cases h.1) (.inl ⟨by rfl,?_⟩) (by assumption) ?_
  rotate_left
  · (intro w' hSw; (try dsimp only at hSw); skip; go_simp <;> with_reducible rfl)
  (try simp only [Act.put,aT,aZ,aS])
  refine wpAnyH_take (i := 14) (v := ?_) rfl (by kernel_rfl) (by kernel_rfl) (by kernel_rfl) (fun _ _ _ h => by cases h.1) (.inl ⟨by rfl,?_⟩) (by assumption) ?_
  rotate_left
  · (intro w' hSw; (try dsimp only at hSw); (have q0 := hSw.fl.at_ 0 (.int .i64 t.p) rfl; have q1 := hSw.fl.at_ 1 (.int .i64 t.t) rfl; have q2 := hSw.fl.at_ 2 (.int .i64 t.r) rfl; skip); go_simp <;> with_reducible rfl)
  (try simp only [Act.put,aT,aZ,aS])
  refine wpAnyH_take (i := 15) (v := ?_) rfl (by kernel_rfl) (by kernel_rfl) (by kernel_rfl) (fun _ _ _ h => by cases h.1) (.inl ⟨by rfl,?_⟩) (by assumption) ?_
  rotate_left
  · (intro w' hSw; (try dsimp only at hSw); skip; go_simp <;> with_reducible rfl)
  (try simp only [Act.put,aT,aZ,aS])
  refine wpAnyH_take (i := 16) (v := ?_) rfl (by kernel_rfl) (by kernel_rfl) (by kernel_rfl) (fun _ _ _ h => by cases h.1) (.inl ⟨by rfl,?_⟩) (by assumption) ?_
  rotate_left
  · (intro w' hSw; (try dsimp only at hSw); (have q0 := hSw.fl.at_ 0 (.int .i64 t.p) rfl; have q1 := hSw.fl.at_ 1 (.int .i64 t.t) rfl; have q2 := hSw.fl.at_ 2 (.int .i64 t.r) rfl; skip); go_simp <;> with_reducible rfl)
  (try simp only [Act.put,aT,aZ,aS])
  refine wpAnyH_ready (rs := [7]) (by kernel_rfl) (by simp) ?_
  refine AllReadyH.cons rfl (fun K hK => ?_) ?_
  · go_simp
    go_at_call 32
    refine (to_any _ _ _).mono ?_
    rintro e' wX0 ⟨rfl,hbX⟩
    have hS_ := hS.next hbX
    have hE_ := hE.below hbX hE.lt
    clear hbX hS hE
    have hS := hS_
    have hE := hE_
    clear hS_ hE_
    go_wp2_with fail
    refine hK.out _ _ hS (fun _ => ?_)
    clear hK K
    (try simp only [Act.put,aT,aZ,aS])
    refine wpAnyH_ready (rs := [12]) (by kernel_rfl) (by simp) ?_
    refine AllReadyH.cons rfl (fun K hK => ?_) ?_
    · go_simp
      go_at_call 32
      refine (to_any _ _ _).mono ?_
      rintro e' wX1 ⟨rfl,hbX⟩
      have hS_ := hS.next hbX
      have hE_ := hE.below hbX hE.lt
      clear hbX hS hE
      have hS := hS_
      have hE := hE_
      clear hS_ hE_
      go_wp2_with fail
      refine hK.out _ _ hS (fun _ => ?_)
      clear hK K
      (try simp only [Act.put,aT,aZ,aS])
      refine wpAnyH_ready (rs := [17]) (by kernel_rfl) (by simp) ?_
      refine AllReadyH.cons rfl (fun K hK => ?_) ?_
      · go_simp
        go_at_call 32
        refine (to_any _ _ _).mono ?_
        rintro e' wX2 ⟨rfl,hbX⟩
        have hS_ := hS.next hbX
        have hE_ := hE.below hbX hE.lt
        clear hbX hS hE
        have hS := hS_
        have hE := hE_
        clear hS_ hE_
        go_wp2_with fail
        refine hK.out _ _ hS (fun _ => ?_)
        clear hK K
        (try simp only [Act.put,aT,aZ,aS])
        refine wpAnyH_take (i := 18) (v := ?_) rfl (by kernel_rfl) (by kernel_rfl) (by kernel_rfl) (fun _ _ _ h => by cases h.1) (.inl ⟨by rfl,?_⟩) (by assumption) ?_
        rotate_left
        · (intro w' hSw; (try dsimp only at hSw); skip; go_simp <;> with_reducible rfl)
        (try simp only [Act.put,aT,aZ,aS])
        refine wpAnyH_take (i := 19) (v := ?_) rfl (by kernel_rfl) (by kernel_rfl) (by kernel_rfl) (fun _ _ _ h => by cases h.1) (.inl ⟨by rfl,?_⟩) (by assumption) ?_
        rotate_left
        · (intro w' hSw; (try dsimp only at hSw); skip; go_simp <;> with_reducible rfl)
        (try simp only [Act.put,aT,aZ,aS])
        refine wpAnyH_ready (rs := [20]) (by kernel_rfl) (by simp) ?_
        refine AllReadyH.cons rfl (fun K hK => ?_) ?_
        · have z0 := hE.at_ 0 _ rfl
          have f0 := hE.free 0
          have z1 := hE.at_ 1 _ rfl
          have f1 := hE.free 1
          go_simp
          have hE_ := ((hE.put 0 (.int .i64 (t.p))).put 1 (.int .i64 (t.p)))
          have hS_ := ((hS.put 0 (.int .i64 (t.p))).put 1 (.int .i64 (t.p)))
          refine hK.out _ _ hS_ (fun _ => ?_)
          clear z0 f0 z1 f1 hS hE
          have hS := hS_
          have hE := hE_
          clear hS_ hE_

          clear hK K
          (try simp only [Act.put,aT,aZ,aS])
          refine wpAnyH_take (i := 21) (v := ?_) rfl (by kernel_rfl) (by kernel_rfl) (by kernel_rfl) (fun _ _ _ h => by cases h.1) (.inl ⟨by rfl,?_⟩) (by assumption) ?_
          rotate_left
          · (intro w' hSw; (try dsimp only at hSw); skip; go_simp <;> with_reducible rfl)
          (try simp only [Act.put,aT,aZ,aS])
          refine wpAnyH_take (i := 22) (v := ?_) rfl (by kernel_rfl) (by kernel_rfl) (by kernel_rfl) (fun _ _ _ h => by cases h.1) (.inl ⟨by rfl,?_⟩) (by assumption) ?_
          rotate_left
          · (intro w' hSw; (try dsimp only at hSw); skip; go_simp <;> with_reducible rfl)
          (try simp only [Act.put,aT,aZ,aS])
          refine wpAnyH_ready (rs := [23]) (by kernel_rfl) (by simp) ?_
          refine AllReadyH.cons rfl (fun K hK => ?_) ?_
          · have z2 := hE.at_ 2 _ rfl
            have f2 := hE.free 2
            have z3 := hE.at_ 3 _ rfl
            have f3 := hE.free 3
            go_simp
            have hE_ := ((hE.put 2 (.int .i64 (t.t))).put 3 (.int .i64 (t.t)))
            have hS_ := ((hS.put 2 (.int .i64 (t.t))).put 3 (.int .i64 (t.t)))
            refine hK.out _ _ hS_ (fun _ => ?_)
            clear z2 f2 z3 f3 hS hE
            have hS := hS_
            have hE := hE_
            clear hS_ hE_

            clear hK K
            (try simp only [Act.put,aT,aZ,aS])
            refine wpAnyH_take (i := 24) (v := ?_) rfl (by kernel_rfl) (by kernel_rfl) (by kernel_rfl) (fun _ _ _ h => by cases h.1) (.inl ⟨by rfl,?_⟩) (by assumption) ?_
            rotate_left
            · (intro w' hSw; (try dsimp only at hSw); skip; go_simp <;> with_reducible rfl)
            (try simp only [Act.put,aT,aZ,aS])
            refine wpAnyH_take (i := 25) (v := ?_) rfl (by kernel_rfl) (by kernel_rfl) (by kernel_rfl) (fun _ _ _ h => by cases h.1) (.inl ⟨by rfl,?_⟩) (by assumption) ?_
            rotate_left
            · (intro w' hSw; (try dsimp only at hSw); skip; go_simp <;> with_reducible rfl)
            (try simp only [Act.put,aT,aZ,aS])
            refine wpAnyH_ready (rs := [26]) (by kernel_rfl) (by simp) ?_
            refine AllReadyH.cons rfl (fun K hK => ?_) ?_
            · have z4 := hE.at_ 4 _ rfl
              have f4 := hE.free 4
              have z5 := hE.at_ 5 _ rfl
              have f5 := hE.free 5
              go_simp
              have hE_ := ((hE.put 4 (.int .i64 (t.r))).put 5 (.int .i64 (t.r)))
              have hS_ := ((hS.put 4 (.int .i64 (t.r))).put 5 (.int .i64 (t.r)))
              refine hK.out _ _ hS_ (fun _ => ?_)
              clear z4 f4 z5 f5 hS hE
              have hS := hS_
              have hE := hE_
              clear hS_ hE_

              clear hK K
              (try simp only [Act.put,aT,aZ,aS])
              refine wpAnyH_done (by kernel_rfl) ?_ _
              exact ⟨rfl,_,_,_,_,_,_,_,_,_,_,_,_,_,_,_,_,_,_,_,_,_,_,_,_,rfl,hS,hE⟩
            exact AllReadyH.nil
          exact AllReadyH.nil
        exact AllReadyH.nil
      exact AllReadyH.nil
    exact AllReadyH.nil
  exact AllReadyH.nil
set_option maxHeartbeats 9000000 in
set_option maxRecDepth 1000000 in
theorem nor3 {w0 w : World} {bx g5 g6 : Nat} {J : Jb} {s : Value} {t : Fd} {sa : Option Addr} {sn sc : Nat} {sl : List Int} {e : En} {lo hi : Int} {Q : Exit → Act → World → Prop} {u1 u2 u4 u7 u8 u9 A0 A1 A2 A3 A4 A5 A6 A7 A8 A9 Aa Ab Ac Ad Ae Af Ag Ah Ai Aj Ak Al Am An Ao Ap Aq Ar As At Au Av Aw Ax Ay Az C0 C1 C2 C3 C4 C5 C6 C7 C8 C9 Ca Cb Cc Cd Ce Cf Cg Ch Ci Cj Ck Cl Cm Cn Co Cp Cq Cr Cs Ct Cu Cv Cw Cx Cy Cz D0 D1 D2 D3 D4 D5 D6 D7 D8 D9 Da Db Dc Dd De Df Dg Dh Di Dj Dk Dl Dm Dn Do Dp Dq Dr Ds Dt Du Dv Dw Dx Dy Dz E0 E1 E2 E3 E4 E5 E6 E7 E8 E9 Ea Eb Ec Ed Ee Ef Eg Eh Ei Ej Ek El Em u141 Eo Ep Eq Er Es Et Eu Ev Ew Ex Ey Ez F0 F1 F2 F3 F4 F5 F6 F7 F8 F9 Fa Fb Fc u167 : Value} (hs : NT w0 w bx g5 g6 J s t sa sl) (hE : Bk w bx 54 (enC e)) (hlo : mn e.pl t.p = lo) (hhi : mx e.ph t.p = hi) (hK : ∀ (w' : World),NT w0 w' bx g5 g6 J s t sa sl → Bk w' bx 54 (enC { e with pl := lo,ph := hi }) → ∀ (S5 S6 S7 S8 S9 Sa Sb Sc Sd Se Sf Sg Sh Si Sj Sk Sl Sm Sn So : Value),Q .normal ⟨#[(.pointer (some ⟨bx,0,none⟩)),u1,u2,(.slice sa sn sc),u4,(.pointer (some ⟨g5,0,none⟩)),(.pointer (some ⟨g6,0,none⟩)),u7,u8,u9,A0,A1,A2,A3,A4,A5,A6,A7,A8,A9,Aa,Ab,Ac,Ad,Ae,Af,Ag,Ah,Ai,Aj,Ak,Al,Am,An,Ao,Ap,Aq,Ar,As,S5,S6,S7,S8,S9,Sa,Sb,Sc,Sd,Se,Sf,Sg,Sh,Si,Sj,Sk,Sl,Sm,Sn,So,Cd,Ce,Cf,Cg,Ch,Ci,Cj,Ck,Cl,Cm,Cn,Co,Cp,Cq,Cr,Cs,Ct,Cu,Cv,Cw,Cx,Cy,Cz,D0,D1,D2,D3,D4,D5,D6,D7,D8,D9,Da,Db,Dc,Dd,De,Df,Dg,Dh,Di,Dj,Dk,Dl,Dm,Dn,Do,Dp,Dq,Dr,Ds,Dt,Du,Dv,Dw,Dx,Dy,Dz,E0,E1,E2,E3,E4,E5,E6,E7,E8,E9,Ea,Eb,Ec,Ed,Ee,Ef,Eg,Eh,Ei,Ej,Ek,El,Em,u141,Eo,Ep,Eq,Er,Es,Et,Eu,Ev,Ew,Ex,Ey,Ez,F0,F1,F2,F3,F4,F5,F6,F7,F8,F9,Fa,Fb,Fc,u167],[]⟩ w') : Code.wp Try.prog (Code.region 3 #[⟨some 39,.move (.tmp 0),100,"outright.go:154",#[],none⟩,⟨some 40,.move (.tmp 0),100,"outright.go:154",#[],none⟩,⟨some 41,.nilCheck (.tmp 40),0,"outright.go:154",#[⟨1,.data⟩],none⟩,⟨some 42,.fieldAddr 54 (.tmp 41) 0,0,"outright.go:154",#[⟨2,.data⟩],none⟩,⟨some 43,.fieldAddr 23 (.tmp 42) 0,0,"outright.go:154",#[⟨3,.data⟩],none⟩,⟨some 44,.load 3 (.tmp 43),3,"outright.go:154",#[⟨4,.data⟩],none⟩,⟨some 45,.fieldAddr 57 (.tmp 6) 0,0,"outright.go:154",#[],none⟩,⟨some 46,.load 3 (.tmp 45),3,"outright.go:154",#[⟨6,.data⟩],none⟩,⟨some 47,.call { callee := .builtin .min,args := #[.tmp 44,.tmp 46],argTypes := #[3,3] },3,"outright.go:154",#[⟨5,.data⟩,⟨7,.data⟩],none⟩,⟨some 48,.move (.tmp 0),100,"outright.go:154",#[],none⟩,⟨some 49,.nilCheck (.tmp 48),0,"outright.go:154",#[⟨9,.data⟩],none⟩,⟨some 50,.fieldAddr 54 (.tmp 49) 0,0,"outright.go:154",#[⟨10,.data⟩],none⟩,⟨some 51,.fieldAddr 23 (.tmp 50) 1,0,"outright.go:154",#[⟨11,.data⟩],none⟩,⟨some 52,.load 3 (.tmp 51),3,"outright.go:154",#[⟨12,.data⟩],none⟩,⟨some 53,.fieldAddr 57 (.tmp 6) 0,0,"outright.go:154",#[],none⟩,⟨some 54,.load 3 (.tmp 53),3,"outright.go:154",#[⟨14,.data⟩],none⟩,⟨some 55,.call { callee := .builtin .max,args := #[.tmp 52,.tmp 54],argTypes := #[3,3] },3,"outright.go:154",#[⟨13,.data⟩,⟨15,.data⟩],none⟩,⟨some 56,.call { callee := .value (.func 32),args := #[.tmp 47,.tmp 55],argTypes := #[3,3] },23,"outright.go:154",#[⟨8,.data⟩,⟨16,.data⟩],none⟩,⟨some 57,.nilCheck (.tmp 39),0,"outright.go:154",#[⟨0,.data⟩,⟨0,.phase⟩,⟨1,.phase⟩,⟨2,.phase⟩,⟨3,.phase⟩,⟨4,.phase⟩,⟨5,.phase⟩,⟨6,.phase⟩,⟨7,.phase⟩,⟨8,.phase⟩,⟨9,.phase⟩,⟨10,.phase⟩,⟨11,.phase⟩,⟨12,.phase⟩,⟨13,.phase⟩,⟨14,.phase⟩,⟨15,.phase⟩,⟨16,.phase⟩,⟨17,.phase⟩],none⟩,⟨some 58,.fieldAddr 54 (.tmp 57) 0,0,"outright.go:154",#[⟨18,.data⟩,⟨0,.phase⟩,⟨1,.phase⟩,⟨2,.phase⟩,⟨3,.phase⟩,⟨4,.phase⟩,⟨5,.phase⟩,⟨6,.phase⟩,⟨7,.phase⟩,⟨8,.phase⟩,⟨9,.phase⟩,⟨10,.phase⟩,⟨11,.phase⟩,⟨12,.phase⟩,⟨13,.phase⟩,⟨14,.phase⟩,⟨15,.phase⟩,⟨16,.phase⟩,⟨17,.phase⟩],none⟩,⟨none,.store 23 (.tmp 58) (.tmp 56),0,"outright.go:154",#[⟨19,.data⟩,⟨17,.data⟩,⟨17,.chain⟩,⟨0,.phase⟩,⟨1,.phase⟩,⟨2,.phase⟩,⟨3,.phase⟩,⟨4,.phase⟩,⟨5,.phase⟩,⟨6,.phase⟩,⟨7,.phase⟩,⟨8,.phase⟩,⟨9,.phase⟩,⟨10,.phase⟩,⟨11,.phase⟩,⟨12,.phase⟩,⟨13,.phase⟩,⟨14,.phase⟩,⟨15,.phase⟩,⟨16,.phase⟩,⟨17,.phase⟩],none⟩] true) Q ⟨#[(.pointer (some ⟨bx,0,none⟩)),u1,u2,(.slice sa sn sc),u4,(.pointer (some ⟨g5,0,none⟩)),(.pointer (some ⟨g6,0,none⟩)),u7,u8,u9,A0,A1,A2,A3,A4,A5,A6,A7,A8,A9,Aa,Ab,Ac,Ad,Ae,Af,Ag,Ah,Ai,Aj,Ak,Al,Am,An,Ao,Ap,Aq,Ar,As,At,Au,Av,Aw,Ax,Ay,Az,C0,C1,C2,C3,C4,C5,C6,C7,C8,C9,Ca,Cb,Cc,Cd,Ce,Cf,Cg,Ch,Ci,Cj,Ck,Cl,Cm,Cn,Co,Cp,Cq,Cr,Cs,Ct,Cu,Cv,Cw,Cx,Cy,Cz,D0,D1,D2,D3,D4,D5,D6,D7,D8,D9,Da,Db,Dc,Dd,De,Df,Dg,Dh,Di,Dj,Dk,Dl,Dm,Dn,Do,Dp,Dq,Dr,Ds,Dt,Du,Dv,Dw,Dx,Dy,Dz,E0,E1,E2,E3,E4,E5,E6,E7,E8,E9,Ea,Eb,Ec,Ed,Ee,Ef,Eg,Eh,Ei,Ej,Ek,El,Em,u141,Eo,Ep,Eq,Er,Es,Et,Eu,Ev,Ew,Ex,Ey,Ez,F0,F1,F2,F3,F4,F5,F6,F7,F8,F9,Fa,Fb,Fc,u167],[]⟩ w := by
  have HLO := hidMk (show (if t.p < e.pl then t.p else e.pl) = lo from hlo)
  have HHI := hidMk (show (if e.ph < t.p then t.p else e.ph) = hi from hhi)
  clear hlo hhi
  refine region_via (R := fun a_ e_ a' w' => e_ = .normal ∧ ∃ (S5 S6 S7 S8 S9 Sa Sb Sc Sd Se Sf Sg Sh Si Sj Sk Sl Sm Sn So : Value),a' = ((((((((((((((((((((a_.put (some 39) S5).put (some 40) S6).put (some 41) S7).put (some 42) S8).put (some 43) S9).put (some 44) Sa).put (some 45) Sb).put (some 46) Sc).put (some 47) Sd).put (some 48) Se).put (some 49) Sf).put (some 50) Sg).put (some 51) Sh).put (some 52) Si).put (some 53) Sj).put (some 54) Sk).put (some 55) Sl).put (some 56) Sm).put (some 57) Sn).put (some 58) So) ∧ NT w0 w' bx g5 g6 J s t sa sl ∧ Bk w' bx 54 (enC { e with pl := lo,ph := hi })) ?_ ?_
  rotate_left
  · rintro e_ a' w' ⟨rfl,S5,S6,S7,S8,S9,Sa,Sb,Sc,Sd,Se,Sf,Sg,Sh,Si,Sj,Sk,Sl,Sm,Sn,So,rfl,hs',he'⟩
    simp only [Act.put,aT,aZ,aS]
    exact hK _ hs' he' _ _ _ _ _ _ _ _ _ _ _ _ _ _ _ _ _ _ _ _ 
  have hS : NT w0 w.drew bx g5 g6 J s t sa sl := hs.next (Below.refl _ _).drew
  have hE_ : Bk w.drew bx 54 (enC e) := hE
  clear hs hE
  have hE := hE_
  clear hE_
  refine wp_region_held_drew (S := fun w' => NT w0 w' bx g5 g6 J s t sa sl) (by kernel_rfl) hS (fun hS0 => ?_)
  clear hS0
  generalize w.drew = wd at hS hE ⊢
  refine wpAnyH_take (i := 0) (v := ?_) rfl (by kernel_rfl) (by kernel_rfl) (by kernel_rfl) (fun _ _ _ h => by cases h.1) (.inl ⟨by rfl,?_⟩) (by assumption) ?_
  rotate_left
  · (intro w' hSw; (try dsimp only at hSw); skip; go_simp <;> with_reducible rfl)
  (try simp only [Act.put,aT,aZ,aS])
  refine wpAnyH_take (i := 1) (v := ?_) rfl (by kernel_rfl) (by kernel_rfl) (by kernel_rfl) (fun _ _ _ h => by cases h.1) (.inl ⟨by rfl,?_⟩) (by assumption) ?_
  rotate_left
  · (intro w' hSw; (try dsimp only at hSw); skip; go_simp <;> with_reducible rfl)
  (try simp only [Act.put,aT,aZ,aS])
  refine wpAnyH_take (i := 2) (v := ?_) rfl (by kernel_rfl) (by kernel_rfl) (by kernel_rfl) (fun _ _ _ h => by cases h.1) (.inl ⟨by rfl,?_⟩) (by assumption) ?_
  rotate_left
  · (intro w' hSw; (try dsimp only at hSw); skip; go_simp <;> with_reducible rfl)
  (try simp only [Act.put,aT,aZ,aS])
  refine wpAnyH_take (i := 3) (v := ?_) rfl (by kernel_rfl) (by kernel_rfl) (by kernel_rfl) (fun _ _ _ h => by cases h.1) (.inl ⟨by rfl,?_⟩) (by assumption) ?_
  rotate_left
  · (intro w' hSw; (try dsimp only at hSw); skip; go_simp <;> with_reducible rfl)
  (try simp only [Act.put,aT,aZ,aS])
  refine wpAnyH_take (i := 4) (v := ?_) rfl (by kernel_rfl) (by kernel_rfl) (by kernel_rfl) (fun _ _ _ h => by cases h.1) (.inl ⟨by rfl,?_⟩) (by assumption) ?_
  rotate_left
  · (intro w' hSw; (try dsimp only at hSw); skip; go_simp <;> with_reducible rfl)
  (try simp only [Act.put,aT,aZ,aS])
  refine wpAnyH_take (i := 6) (v := ?_) rfl (by kernel_rfl) (by kernel_rfl) (by kernel_rfl) (fun _ _ _ h => by cases h.1) (.inl ⟨by rfl,?_⟩) (by assumption) ?_
  rotate_left
  · (intro w' hSw; (try dsimp only at hSw); skip; go_simp <;> with_reducible rfl)
  (try simp only [Act.put,aT,aZ,aS])
  refine wpAnyH_take (i := 7) (v := ?_) rfl (by kernel_rfl) (by kernel_rfl) (by kernel_rfl) (fun _ _ _ h => by cases h.1) (.inl ⟨by rfl,?_⟩) (by assumption) ?_
  rotate_left
  · (intro w' hSw; (try dsimp only at hSw); (have q0 := hSw.fl.at_ 0 (.int .i64 t.p) rfl; have q1 := hSw.fl.at_ 1 (.int .i64 t.t) rfl; have q2 := hSw.fl.at_ 2 (.int .i64 t.r) rfl; skip); go_simp <;> with_reducible rfl)
  (try simp only [Act.put,aT,aZ,aS])
  refine wpAnyH_take (i := 9) (v := ?_) rfl (by kernel_rfl) (by kernel_rfl) (by kernel_rfl) (fun _ _ _ h => by cases h.1) (.inl ⟨by rfl,?_⟩) (by assumption) ?_
  rotate_left
  · (intro w' hSw; (try dsimp only at hSw); skip; go_simp <;> with_reducible rfl)
  (try simp only [Act.put,aT,aZ,aS])
  refine wpAnyH_take (i := 10) (v := ?_) rfl (by kernel_rfl) (by kernel_rfl) (by kernel_rfl) (fun _ _ _ h => by cases h.1) (.inl ⟨by rfl,?_⟩) (by assumption) ?_
  rotate_left
  · (intro w' hSw; (try dsimp only at hSw); skip; go_simp <;> with_reducible rfl)
  (try simp only [Act.put,aT,aZ,aS])
  refine wpAnyH_take (i := 11) (v := ?_) rfl (by kernel_rfl) (by kernel_rfl) (by kernel_rfl) (fun _ _ _ h => by cases h.1) (.inl ⟨by rfl,?_⟩) (by assumption) ?_
  rotate_left
  · (intro w' hSw; (try dsimp only at hSw); skip; go_simp <;> with_reducible rfl)
  (try simp only [Act.put,aT,aZ,aS])
  refine wpAnyH_take (i := 12) (v := ?_) rfl (by kernel_rfl) (by kernel_rfl) (by kernel_rfl) (fun _ _ _ h => by cases h.1) (.inl ⟨by rfl,?_⟩) (by assumption) ?_
  rotate_left
  · (intro w' hSw; (try dsimp only at hSw); skip; go_simp <;> with_reducible rfl)
  (try simp only [Act.put,aT,aZ,aS])
  refine wpAnyH_take (i := 14) (v := ?_) rfl (by kernel_rfl) (by kernel_rfl) (by kernel_rfl) (fun _ _ _ h => by cases h.1) (.inl ⟨by rfl,?_⟩) (by assumption) ?_
  rotate_left
  · (intro w' hSw; (try dsimp only at hSw); skip; go_simp <;> with_reducible rfl)
  (try simp only [Act.put,aT,aZ,aS])
  refine wpAnyH_take (i := 15) (v := ?_) rfl (by kernel_rfl) (by kernel_rfl) (by kernel_rfl) (fun _ _ _ h => by cases h.1) (.inl ⟨by rfl,?_⟩) (by assumption) ?_
  rotate_left
  · (intro w' hSw; (try dsimp only at hSw); (have q0 := hSw.fl.at_ 0 (.int .i64 t.p) rfl; have q1 := hSw.fl.at_ 1 (.int .i64 t.t) rfl; have q2 := hSw.fl.at_ 2 (.int .i64 t.r) rfl; skip); go_simp <;> with_reducible rfl)
  (try simp only [Act.put,aT,aZ,aS])
  refine wpAnyH_ready (rs := [5,13]) (by kernel_rfl) (by simp) ?_
  refine AllReadyH.cons rfl (fun K hK => ?_) ?_
  · have z := hE.at_ 0 (.int .i64 e.pl) rfl
    go_simp
    refine hK.out _ _ hS (fun _ => ?_)
    clear z
    clear hK K
    (try simp only [Act.put,aT,aZ,aS])
    refine wpAnyH_take (i := 8) (v := ?_) rfl (by kernel_rfl) (by kernel_rfl) (by kernel_rfl) (fun _ _ _ h => by cases h.1) (.inl ⟨by rfl,?_⟩) (by assumption) ?_
    rotate_left
    · (intro w' hSw; (try dsimp only at hSw); (have q9 := HLO.out); go_simp <;> with_reducible rfl)
    (try simp only [Act.put,aT,aZ,aS])
    refine wpAnyH_ready (rs := [13]) (by kernel_rfl) (by simp) ?_
    refine AllReadyH.cons rfl (fun K hK => ?_) ?_
    · have z := hE.at_ 1 (.int .i64 e.ph) rfl
      go_simp
      refine hK.out _ _ hS (fun _ => ?_)
      clear z
      clear hK K
      (try simp only [Act.put,aT,aZ,aS])
      refine wpAnyH_take (i := 16) (v := ?_) rfl (by kernel_rfl) (by kernel_rfl) (by kernel_rfl) (fun _ _ _ h => by cases h.1) (.inl ⟨by rfl,?_⟩) (by assumption) ?_
      rotate_left
      · (intro w' hSw; (try dsimp only at hSw); (have q9 := HHI.out); go_simp <;> with_reducible rfl)
      (try simp only [Act.put,aT,aZ,aS])
      refine wpAnyH_ready (rs := [17]) (by kernel_rfl) (by simp) ?_
      refine AllReadyH.cons rfl (fun K hK => ?_) ?_
      · go_simp
        go_at_call 32
        refine (to_any _ _ _).mono ?_
        rintro e' wX0 ⟨rfl,hbX⟩
        have hS_ := hS.next hbX
        have hE_ := hE.below hbX hE.lt
        clear hbX hS hE
        have hS := hS_
        have hE := hE_
        clear hS_ hE_
        go_wp2_with fail
        refine hK.out _ _ hS (fun _ => ?_)
        clear hK K
        (try simp only [Act.put,aT,aZ,aS])
        refine wpAnyH_take (i := 18) (v := ?_) rfl (by kernel_rfl) (by kernel_rfl) (by kernel_rfl) (fun _ _ _ h => by cases h.1) (.inl ⟨by rfl,?_⟩) (by assumption) ?_
        rotate_left
        · (intro w' hSw; (try dsimp only at hSw); skip; go_simp <;> with_reducible rfl)
        (try simp only [Act.put,aT,aZ,aS])
        refine wpAnyH_take (i := 19) (v := ?_) rfl (by kernel_rfl) (by kernel_rfl) (by kernel_rfl) (fun _ _ _ h => by cases h.1) (.inl ⟨by rfl,?_⟩) (by assumption) ?_
        rotate_left
        · (intro w' hSw; (try dsimp only at hSw); skip; go_simp <;> with_reducible rfl)
        (try simp only [Act.put,aT,aZ,aS])
        refine wpAnyH_ready (rs := [20]) (by kernel_rfl) (by simp) ?_
        refine AllReadyH.cons rfl (fun K hK => ?_) ?_
        · have z0 := hE.at_ 0 _ rfl
          have f0 := hE.free 0
          have z1 := hE.at_ 1 _ rfl
          have f1 := hE.free 1
          go_simp
          have hE_ := ((hE.put 0 (.int .i64 (lo))).put 1 (.int .i64 (hi)))
          have hS_ := ((hS.put 0 (.int .i64 (lo))).put 1 (.int .i64 (hi)))
          refine hK.out _ _ hS_ (fun _ => ?_)
          clear z0 f0 z1 f1 hS hE
          have hS := hS_
          have hE := hE_
          clear hS_ hE_

          clear hK K
          (try simp only [Act.put,aT,aZ,aS])
          refine wpAnyH_done (by kernel_rfl) ?_ _
          exact ⟨rfl,_,_,_,_,_,_,_,_,_,_,_,_,_,_,_,_,_,_,_,_,rfl,hS,hE⟩
        exact AllReadyH.nil
      exact AllReadyH.nil
    exact AllReadyH.nil
  refine AllReadyH.cons rfl (fun K hK => ?_) ?_
  · have z := hE.at_ 1 (.int .i64 e.ph) rfl
    go_simp
    refine hK.out _ _ hS (fun _ => ?_)
    clear z
    clear hK K
    (try simp only [Act.put,aT,aZ,aS])
    refine wpAnyH_take (i := 16) (v := ?_) rfl (by kernel_rfl) (by kernel_rfl) (by kernel_rfl) (fun _ _ _ h => by cases h.1) (.inl ⟨by rfl,?_⟩) (by assumption) ?_
    rotate_left
    · (intro w' hSw; (try dsimp only at hSw); (have q9 := HHI.out); go_simp <;> with_reducible rfl)
    (try simp only [Act.put,aT,aZ,aS])
    refine wpAnyH_ready (rs := [5]) (by kernel_rfl) (by simp) ?_
    refine AllReadyH.cons rfl (fun K hK => ?_) ?_
    · have z := hE.at_ 0 (.int .i64 e.pl) rfl
      go_simp
      refine hK.out _ _ hS (fun _ => ?_)
      clear z
      clear hK K
      (try simp only [Act.put,aT,aZ,aS])
      refine wpAnyH_take (i := 8) (v := ?_) rfl (by kernel_rfl) (by kernel_rfl) (by kernel_rfl) (fun _ _ _ h => by cases h.1) (.inl ⟨by rfl,?_⟩) (by assumption) ?_
      rotate_left
      · (intro w' hSw; (try dsimp only at hSw); (have q9 := HLO.out); go_simp <;> with_reducible rfl)
      (try simp only [Act.put,aT,aZ,aS])
      refine wpAnyH_ready (rs := [17]) (by kernel_rfl) (by simp) ?_
      refine AllReadyH.cons rfl (fun K hK => ?_) ?_
      · go_simp
        go_at_call 32
        refine (to_any _ _ _).mono ?_
        rintro e' wX0 ⟨rfl,hbX⟩
        have hS_ := hS.next hbX
        have hE_ := hE.below hbX hE.lt
        clear hbX hS hE
        have hS := hS_
        have hE := hE_
        clear hS_ hE_
        go_wp2_with fail
        refine hK.out _ _ hS (fun _ => ?_)
        clear hK K
        (try simp only [Act.put,aT,aZ,aS])
        refine wpAnyH_take (i := 18) (v := ?_) rfl (by kernel_rfl) (by kernel_rfl) (by kernel_rfl) (fun _ _ _ h => by cases h.1) (.inl ⟨by rfl,?_⟩) (by assumption) ?_
        rotate_left
        · (intro w' hSw; (try dsimp only at hSw); skip; go_simp <;> with_reducible rfl)
        (try simp only [Act.put,aT,aZ,aS])
        refine wpAnyH_take (i := 19) (v := ?_) rfl (by kernel_rfl) (by kernel_rfl) (by kernel_rfl) (fun _ _ _ h => by cases h.1) (.inl ⟨by rfl,?_⟩) (by assumption) ?_
        rotate_left
        · (intro w' hSw; (try dsimp only at hSw); skip; go_simp <;> with_reducible rfl)
        (try simp only [Act.put,aT,aZ,aS])
        refine wpAnyH_ready (rs := [20]) (by kernel_rfl) (by simp) ?_
        refine AllReadyH.cons rfl (fun K hK => ?_) ?_
        · have z0 := hE.at_ 0 _ rfl
          have f0 := hE.free 0
          have z1 := hE.at_ 1 _ rfl
          have f1 := hE.free 1
          go_simp
          have hE_ := ((hE.put 0 (.int .i64 (lo))).put 1 (.int .i64 (hi)))
          have hS_ := ((hS.put 0 (.int .i64 (lo))).put 1 (.int .i64 (hi)))
          refine hK.out _ _ hS_ (fun _ => ?_)
          clear z0 f0 z1 f1 hS hE
          have hS := hS_
          have hE := hE_
          clear hS_ hE_

          clear hK K
          (try simp only [Act.put,aT,aZ,aS])
          refine wpAnyH_done (by kernel_rfl) ?_ _
          exact ⟨rfl,_,_,_,_,_,_,_,_,_,_,_,_,_,_,_,_,_,_,_,_,rfl,hS,hE⟩
        exact AllReadyH.nil
      exact AllReadyH.nil
    exact AllReadyH.nil
  exact AllReadyH.nil
set_option maxHeartbeats 9000000 in
set_option maxRecDepth 1000000 in
theorem nor4 {w0 w : World} {bx g5 g6 : Nat} {J : Jb} {s : Value} {t : Fd} {sa : Option Addr} {sn sc : Nat} {sl : List Int} {e : En} {lo hi : Int} {Q : Exit → Act → World → Prop} {u1 u2 u4 u7 u8 u9 A0 A1 A2 A3 A4 A5 A6 A7 A8 A9 Aa Ab Ac Ad Ae Af Ag Ah Ai Aj Ak Al Am An Ao Ap Aq Ar As At Au Av Aw Ax Ay Az C0 C1 C2 C3 C4 C5 C6 C7 C8 C9 Ca Cb Cc Cd Ce Cf Cg Ch Ci Cj Ck Cl Cm Cn Co Cp Cq Cr Cs Ct Cu Cv Cw Cx Cy Cz D0 D1 D2 D3 D4 D5 D6 D7 D8 D9 Da Db Dc Dd De Df Dg Dh Di Dj Dk Dl Dm Dn Do Dp Dq Dr Ds Dt Du Dv Dw Dx Dy Dz E0 E1 E2 E3 E4 E5 E6 E7 E8 E9 Ea Eb Ec Ed Ee Ef Eg Eh Ei Ej Ek El Em u141 Eo Ep Eq Er Es Et Eu Ev Ew Ex Ey Ez F0 F1 F2 F3 F4 F5 F6 F7 F8 F9 Fa Fb Fc u167 : Value} (hs : NT w0 w bx g5 g6 J s t sa sl) (hE : Bk w bx 54 (enC e)) (hlo : mn e.tl t.t = lo) (hhi : mx e.th t.t = hi) (hK : ∀ (w' : World),NT w0 w' bx g5 g6 J s t sa sl → Bk w' bx 54 (enC { e with tl := lo,th := hi }) → ∀ (Sp Sq Sr Ss St Su Sv Sw Sx Sy Sz U0 U1 U2 U3 U4 U5 U6 U7 U8 : Value),Q .normal ⟨#[(.pointer (some ⟨bx,0,none⟩)),u1,u2,(.slice sa sn sc),u4,(.pointer (some ⟨g5,0,none⟩)),(.pointer (some ⟨g6,0,none⟩)),u7,u8,u9,A0,A1,A2,A3,A4,A5,A6,A7,A8,A9,Aa,Ab,Ac,Ad,Ae,Af,Ag,Ah,Ai,Aj,Ak,Al,Am,An,Ao,Ap,Aq,Ar,As,At,Au,Av,Aw,Ax,Ay,Az,C0,C1,C2,C3,C4,C5,C6,C7,C8,C9,Ca,Cb,Cc,Sp,Sq,Sr,Ss,St,Su,Sv,Sw,Sx,Sy,Sz,U0,U1,U2,U3,U4,U5,U6,U7,U8,Cx,Cy,Cz,D0,D1,D2,D3,D4,D5,D6,D7,D8,D9,Da,Db,Dc,Dd,De,Df,Dg,Dh,Di,Dj,Dk,Dl,Dm,Dn,Do,Dp,Dq,Dr,Ds,Dt,Du,Dv,Dw,Dx,Dy,Dz,E0,E1,E2,E3,E4,E5,E6,E7,E8,E9,Ea,Eb,Ec,Ed,Ee,Ef,Eg,Eh,Ei,Ej,Ek,El,Em,u141,Eo,Ep,Eq,Er,Es,Et,Eu,Ev,Ew,Ex,Ey,Ez,F0,F1,F2,F3,F4,F5,F6,F7,F8,F9,Fa,Fb,Fc,u167],[]⟩ w') : Code.wp Try.prog (Code.region 4 #[⟨some 59,.move (.tmp 0),100,"outright.go:155",#[],none⟩,⟨some 60,.move (.tmp 0),100,"outright.go:155",#[],none⟩,⟨some 61,.nilCheck (.tmp 60),0,"outright.go:155",#[⟨1,.data⟩],none⟩,⟨some 62,.fieldAddr 54 (.tmp 61) 1,0,"outright.go:155",#[⟨2,.data⟩],none⟩,⟨some 63,.fieldAddr 23 (.tmp 62) 0,0,"outright.go:155",#[⟨3,.data⟩],none⟩,⟨some 64,.load 3 (.tmp 63),3,"outright.go:155",#[⟨4,.data⟩],none⟩,⟨some 65,.fieldAddr 57 (.tmp 6) 1,0,"outright.go:155",#[],none⟩,⟨some 66,.load 3 (.tmp 65),3,"outright.go:155",#[⟨6,.data⟩],none⟩,⟨some 67,.call { callee := .builtin .min,args := #[.tmp 64,.tmp 66],argTypes := #[3,3] },3,"outright.go:155",#[⟨5,.data⟩,⟨7,.data⟩],none⟩,⟨some 68,.move (.tmp 0),100,"outright.go:155",#[],none⟩,⟨some 69,.nilCheck (.tmp 68),0,"outright.go:155",#[⟨9,.data⟩],none⟩,⟨some 70,.fieldAddr 54 (.tmp 69) 1,0,"outright.go:155",#[⟨10,.data⟩],none⟩,⟨some 71,.fieldAddr 23 (.tmp 70) 1,0,"outright.go:155",#[⟨11,.data⟩],none⟩,⟨some 72,.load 3 (.tmp 71),3,"outright.go:155",#[⟨12,.data⟩],none⟩,⟨some 73,.fieldAddr 57 (.tmp 6) 1,0,"outright.go:155",#[],none⟩,⟨some 74,.load 3 (.tmp 73),3,"outright.go:155",#[⟨14,.data⟩],none⟩,⟨some 75,.call { callee := .builtin .max,args := #[.tmp 72,.tmp 74],argTypes := #[3,3] },3,"outright.go:155",#[⟨13,.data⟩,⟨15,.data⟩],none⟩,⟨some 76,.call { callee := .value (.func 32),args := #[.tmp 67,.tmp 75],argTypes := #[3,3] },23,"outright.go:155",#[⟨8,.data⟩,⟨16,.data⟩],none⟩,⟨some 77,.nilCheck (.tmp 59),0,"outright.go:155",#[⟨0,.data⟩,⟨0,.phase⟩,⟨1,.phase⟩,⟨2,.phase⟩,⟨3,.phase⟩,⟨4,.phase⟩,⟨5,.phase⟩,⟨6,.phase⟩,⟨7,.phase⟩,⟨8,.phase⟩,⟨9,.phase⟩,⟨10,.phase⟩,⟨11,.phase⟩,⟨12,.phase⟩,⟨13,.phase⟩,⟨14,.phase⟩,⟨15,.phase⟩,⟨16,.phase⟩,⟨17,.phase⟩],none⟩,⟨some 78,.fieldAddr 54 (.tmp 77) 1,0,"outright.go:155",#[⟨18,.data⟩,⟨0,.phase⟩,⟨1,.phase⟩,⟨2,.phase⟩,⟨3,.phase⟩,⟨4,.phase⟩,⟨5,.phase⟩,⟨6,.phase⟩,⟨7,.phase⟩,⟨8,.phase⟩,⟨9,.phase⟩,⟨10,.phase⟩,⟨11,.phase⟩,⟨12,.phase⟩,⟨13,.phase⟩,⟨14,.phase⟩,⟨15,.phase⟩,⟨16,.phase⟩,⟨17,.phase⟩],none⟩,⟨none,.store 23 (.tmp 78) (.tmp 76),0,"outright.go:155",#[⟨19,.data⟩,⟨17,.data⟩,⟨17,.chain⟩,⟨0,.phase⟩,⟨1,.phase⟩,⟨2,.phase⟩,⟨3,.phase⟩,⟨4,.phase⟩,⟨5,.phase⟩,⟨6,.phase⟩,⟨7,.phase⟩,⟨8,.phase⟩,⟨9,.phase⟩,⟨10,.phase⟩,⟨11,.phase⟩,⟨12,.phase⟩,⟨13,.phase⟩,⟨14,.phase⟩,⟨15,.phase⟩,⟨16,.phase⟩,⟨17,.phase⟩],none⟩] true) Q ⟨#[(.pointer (some ⟨bx,0,none⟩)),u1,u2,(.slice sa sn sc),u4,(.pointer (some ⟨g5,0,none⟩)),(.pointer (some ⟨g6,0,none⟩)),u7,u8,u9,A0,A1,A2,A3,A4,A5,A6,A7,A8,A9,Aa,Ab,Ac,Ad,Ae,Af,Ag,Ah,Ai,Aj,Ak,Al,Am,An,Ao,Ap,Aq,Ar,As,At,Au,Av,Aw,Ax,Ay,Az,C0,C1,C2,C3,C4,C5,C6,C7,C8,C9,Ca,Cb,Cc,Cd,Ce,Cf,Cg,Ch,Ci,Cj,Ck,Cl,Cm,Cn,Co,Cp,Cq,Cr,Cs,Ct,Cu,Cv,Cw,Cx,Cy,Cz,D0,D1,D2,D3,D4,D5,D6,D7,D8,D9,Da,Db,Dc,Dd,De,Df,Dg,Dh,Di,Dj,Dk,Dl,Dm,Dn,Do,Dp,Dq,Dr,Ds,Dt,Du,Dv,Dw,Dx,Dy,Dz,E0,E1,E2,E3,E4,E5,E6,E7,E8,E9,Ea,Eb,Ec,Ed,Ee,Ef,Eg,Eh,Ei,Ej,Ek,El,Em,u141,Eo,Ep,Eq,Er,Es,Et,Eu,Ev,Ew,Ex,Ey,Ez,F0,F1,F2,F3,F4,F5,F6,F7,F8,F9,Fa,Fb,Fc,u167],[]⟩ w := by
  have HLO := hidMk (show (if t.t < e.tl then t.t else e.tl) = lo from hlo)
  have HHI := hidMk (show (if e.th < t.t then t.t else e.th) = hi from hhi)
  clear hlo hhi
  refine region_via (R := fun a_ e_ a' w' => e_ = .normal ∧ ∃ (Sp Sq Sr Ss St Su Sv Sw Sx Sy Sz U0 U1 U2 U3 U4 U5 U6 U7 U8 : Value),a' = ((((((((((((((((((((a_.put (some 59) Sp).put (some 60) Sq).put (some 61) Sr).put (some 62) Ss).put (some 63) St).put (some 64) Su).put (some 65) Sv).put (some 66) Sw).put (some 67) Sx).put (some 68) Sy).put (some 69) Sz).put (some 70) U0).put (some 71) U1).put (some 72) U2).put (some 73) U3).put (some 74) U4).put (some 75) U5).put (some 76) U6).put (some 77) U7).put (some 78) U8) ∧ NT w0 w' bx g5 g6 J s t sa sl ∧ Bk w' bx 54 (enC { e with tl := lo,th := hi })) ?_ ?_
  rotate_left
  · rintro e_ a' w' ⟨rfl,Sp,Sq,Sr,Ss,St,Su,Sv,Sw,Sx,Sy,Sz,U0,U1,U2,U3,U4,U5,U6,U7,U8,rfl,hs',he'⟩
    simp only [Act.put,aT,aZ,aS]
    exact hK _ hs' he' _ _ _ _ _ _ _ _ _ _ _ _ _ _ _ _ _ _ _ _ 
  have hS : NT w0 w.drew bx g5 g6 J s t sa sl := hs.next (Below.refl _ _).drew
  have hE_ : Bk w.drew bx 54 (enC e) := hE
  clear hs hE
  have hE := hE_
  clear hE_
  refine wp_region_held_drew (S := fun w' => NT w0 w' bx g5 g6 J s t sa sl) (by kernel_rfl) hS (fun hS0 => ?_)
  clear hS0
  generalize w.drew = wd at hS hE ⊢
  refine wpAnyH_take (i := 0) (v := ?_) rfl (by kernel_rfl) (by kernel_rfl) (by kernel_rfl) (fun _ _ _ h => by cases h.1) (.inl ⟨by rfl,?_⟩) (by assumption) ?_
  rotate_left
  · (intro w' hSw; (try dsimp only at hSw); skip; go_simp <;> with_reducible rfl)
  (try simp only [Act.put,aT,aZ,aS])
  refine wpAnyH_take (i := 1) (v := ?_) rfl (by kernel_rfl) (by kernel_rfl) (by kernel_rfl) (fun _ _ _ h => by cases h.1) (.inl ⟨by rfl,?_⟩) (by assumption) ?_
  rotate_left
  · (intro w' hSw; (try dsimp only at hSw); skip; go_simp <;> with_reducible rfl)
  (try simp only [Act.put,aT,aZ,aS])
  refine wpAnyH_take (i := 2) (v := ?_) rfl (by kernel_rfl) (by kernel_rfl) (by kernel_rfl) (fun _ _ _ h => by cases h.1) (.inl ⟨by rfl,?_⟩) (by assumption) ?_
  rotate_left
  · (intro w' hSw; (try dsimp only at hSw); skip; go_simp <;> with_reducible rfl)
  (try simp only [Act.put,aT,aZ,aS])
  refine wpAnyH_take (i := 3) (v := ?_) rfl (by kernel_rfl) (by kernel_rfl) (by kernel_rfl) (fun _ _ _ h => by cases h.1) (.inl ⟨by rfl,?_⟩) (by assumption) ?_
  rotate_left
  · (intro w' hSw; (try dsimp only at hSw); skip; go_simp <;> with_reducible rfl)
  (try simp only [Act.put,aT,aZ,aS])
  refine wpAnyH_take (i := 4) (v := ?_) rfl (by kernel_rfl) (by kernel_rfl) (by kernel_rfl) (fun _ _ _ h => by cases h.1) (.inl ⟨by rfl,?_⟩) (by assumption) ?_
  rotate_left
  · (intro w' hSw; (try dsimp only at hSw); skip; go_simp <;> with_reducible rfl)
  (try simp only [Act.put,aT,aZ,aS])
  refine wpAnyH_take (i := 6) (v := ?_) rfl (by kernel_rfl) (by kernel_rfl) (by kernel_rfl) (fun _ _ _ h => by cases h.1) (.inl ⟨by rfl,?_⟩) (by assumption) ?_
  rotate_left
  · (intro w' hSw; (try dsimp only at hSw); skip; go_simp <;> with_reducible rfl)
  (try simp only [Act.put,aT,aZ,aS])
  refine wpAnyH_take (i := 7) (v := ?_) rfl (by kernel_rfl) (by kernel_rfl) (by kernel_rfl) (fun _ _ _ h => by cases h.1) (.inl ⟨by rfl,?_⟩) (by assumption) ?_
  rotate_left
  · (intro w' hSw; (try dsimp only at hSw); (have q0 := hSw.fl.at_ 0 (.int .i64 t.p) rfl; have q1 := hSw.fl.at_ 1 (.int .i64 t.t) rfl; have q2 := hSw.fl.at_ 2 (.int .i64 t.r) rfl; skip); go_simp <;> with_reducible rfl)
  (try simp only [Act.put,aT,aZ,aS])
  refine wpAnyH_take (i := 9) (v := ?_) rfl (by kernel_rfl) (by kernel_rfl) (by kernel_rfl) (fun _ _ _ h => by cases h.1) (.inl ⟨by rfl,?_⟩) (by assumption) ?_
  rotate_left
  · (intro w' hSw; (try dsimp only at hSw); skip; go_simp <;> with_reducible rfl)
  (try simp only [Act.put,aT,aZ,aS])
  refine wpAnyH_take (i := 10) (v := ?_) rfl (by kernel_rfl) (by kernel_rfl) (by kernel_rfl) (fun _ _ _ h => by cases h.1) (.inl ⟨by rfl,?_⟩) (by assumption) ?_
  rotate_left
  · (intro w' hSw; (try dsimp only at hSw); skip; go_simp <;> with_reducible rfl)
  (try simp only [Act.put,aT,aZ,aS])
  refine wpAnyH_take (i := 11) (v := ?_) rfl (by kernel_rfl) (by kernel_rfl) (by kernel_rfl) (fun _ _ _ h => by cases h.1) (.inl ⟨by rfl,?_⟩) (by assumption) ?_
  rotate_left
  · (intro w' hSw; (try dsimp only at hSw); skip; go_simp <;> with_reducible rfl)
  (try simp only [Act.put,aT,aZ,aS])
  refine wpAnyH_take (i := 12) (v := ?_) rfl (by kernel_rfl) (by kernel_rfl) (by kernel_rfl) (fun _ _ _ h => by cases h.1) (.inl ⟨by rfl,?_⟩) (by assumption) ?_
  rotate_left
  · (intro w' hSw; (try dsimp only at hSw); skip; go_simp <;> with_reducible rfl)
  (try simp only [Act.put,aT,aZ,aS])
  refine wpAnyH_take (i := 14) (v := ?_) rfl (by kernel_rfl) (by kernel_rfl) (by kernel_rfl) (fun _ _ _ h => by cases h.1) (.inl ⟨by rfl,?_⟩) (by assumption) ?_
  rotate_left
  · (intro w' hSw; (try dsimp only at hSw); skip; go_simp <;> with_reducible rfl)
  (try simp only [Act.put,aT,aZ,aS])
  refine wpAnyH_take (i := 15) (v := ?_) rfl (by kernel_rfl) (by kernel_rfl) (by kernel_rfl) (fun _ _ _ h => by cases h.1) (.inl ⟨by rfl,?_⟩) (by assumption) ?_
  rotate_left
  · (intro w' hSw; (try dsimp only at hSw); (have q0 := hSw.fl.at_ 0 (.int .i64 t.p) rfl; have q1 := hSw.fl.at_ 1 (.int .i64 t.t) rfl; have q2 := hSw.fl.at_ 2 (.int .i64 t.r) rfl; skip); go_simp <;> with_reducible rfl)
  (try simp only [Act.put,aT,aZ,aS])
  refine wpAnyH_ready (rs := [5,13]) (by kernel_rfl) (by simp) ?_
  refine AllReadyH.cons rfl (fun K hK => ?_) ?_
  · have z := hE.at_ 2 (.int .i64 e.tl) rfl
    go_simp
    refine hK.out _ _ hS (fun _ => ?_)
    clear z
    clear hK K
    (try simp only [Act.put,aT,aZ,aS])
    refine wpAnyH_take (i := 8) (v := ?_) rfl (by kernel_rfl) (by kernel_rfl) (by kernel_rfl) (fun _ _ _ h => by cases h.1) (.inl ⟨by rfl,?_⟩) (by assumption) ?_
    rotate_left
    · (intro w' hSw; (try dsimp only at hSw); (have q9 := HLO.out); go_simp <;> with_reducible rfl)
    (try simp only [Act.put,aT,aZ,aS])
    refine wpAnyH_ready (rs := [13]) (by kernel_rfl) (by simp) ?_
    refine AllReadyH.cons rfl (fun K hK => ?_) ?_
    · have z := hE.at_ 3 (.int .i64 e.th) rfl
      go_simp
      refine hK.out _ _ hS (fun _ => ?_)
      clear z
      clear hK K
      (try simp only [Act.put,aT,aZ,aS])
      refine wpAnyH_take (i := 16) (v := ?_) rfl (by kernel_rfl) (by kernel_rfl) (by kernel_rfl) (fun _ _ _ h => by cases h.1) (.inl ⟨by rfl,?_⟩) (by assumption) ?_
      rotate_left
      · (intro w' hSw; (try dsimp only at hSw); (have q9 := HHI.out); go_simp <;> with_reducible rfl)
      (try simp only [Act.put,aT,aZ,aS])
      refine wpAnyH_ready (rs := [17]) (by kernel_rfl) (by simp) ?_
      refine AllReadyH.cons rfl (fun K hK => ?_) ?_
      · go_simp
        go_at_call 32
        refine (to_any _ _ _).mono ?_
        rintro e' wX0 ⟨rfl,hbX⟩
        have hS_ := hS.next hbX
        have hE_ := hE.below hbX hE.lt
        clear hbX hS hE
        have hS := hS_
        have hE := hE_
        clear hS_ hE_
        go_wp2_with fail
        refine hK.out _ _ hS (fun _ => ?_)
        clear hK K
        (try simp only [Act.put,aT,aZ,aS])
        refine wpAnyH_take (i := 18) (v := ?_) rfl (by kernel_rfl) (by kernel_rfl) (by kernel_rfl) (fun _ _ _ h => by cases h.1) (.inl ⟨by rfl,?_⟩) (by assumption) ?_
        rotate_left
        · (intro w' hSw; (try dsimp only at hSw); skip; go_simp <;> with_reducible rfl)
        (try simp only [Act.put,aT,aZ,aS])
        refine wpAnyH_take (i := 19) (v := ?_) rfl (by kernel_rfl) (by kernel_rfl) (by kernel_rfl) (fun _ _ _ h => by cases h.1) (.inl ⟨by rfl,?_⟩) (by assumption) ?_
        rotate_left
        · (intro w' hSw; (try dsimp only at hSw); skip; go_simp <;> with_reducible rfl)
        (try simp only [Act.put,aT,aZ,aS])
        refine wpAnyH_ready (rs := [20]) (by kernel_rfl) (by simp) ?_
        refine AllReadyH.cons rfl (fun K hK => ?_) ?_
        · have z2 := hE.at_ 2 _ rfl
          have f2 := hE.free 2
          have z3 := hE.at_ 3 _ rfl
          have f3 := hE.free 3
          go_simp
          have hE_ := ((hE.put 2 (.int .i64 (lo))).put 3 (.int .i64 (hi)))
          have hS_ := ((hS.put 2 (.int .i64 (lo))).put 3 (.int .i64 (hi)))
          refine hK.out _ _ hS_ (fun _ => ?_)
          clear z2 f2 z3 f3 hS hE
          have hS := hS_
          have hE := hE_
          clear hS_ hE_

          clear hK K
          (try simp only [Act.put,aT,aZ,aS])
          refine wpAnyH_done (by kernel_rfl) ?_ _
          exact ⟨rfl,_,_,_,_,_,_,_,_,_,_,_,_,_,_,_,_,_,_,_,_,rfl,hS,hE⟩
        exact AllReadyH.nil
      exact AllReadyH.nil
    exact AllReadyH.nil
  refine AllReadyH.cons rfl (fun K hK => ?_) ?_
  · have z := hE.at_ 3 (.int .i64 e.th) rfl
    go_simp
    refine hK.out _ _ hS (fun _ => ?_)
    clear z
    clear hK K
    (try simp only [Act.put,aT,aZ,aS])
    refine wpAnyH_take (i := 16) (v := ?_) rfl (by kernel_rfl) (by kernel_rfl) (by kernel_rfl) (fun _ _ _ h => by cases h.1) (.inl ⟨by rfl,?_⟩) (by assumption) ?_
    rotate_left
    · (intro w' hSw; (try dsimp only at hSw); (have q9 := HHI.out); go_simp <;> with_reducible rfl)
    (try simp only [Act.put,aT,aZ,aS])
    refine wpAnyH_ready (rs := [5]) (by kernel_rfl) (by simp) ?_
    refine AllReadyH.cons rfl (fun K hK => ?_) ?_
    · have z := hE.at_ 2 (.int .i64 e.tl) rfl
      go_simp
      refine hK.out _ _ hS (fun _ => ?_)
      clear z
      clear hK K
      (try simp only [Act.put,aT,aZ,aS])
      refine wpAnyH_take (i := 8) (v := ?_) rfl (by kernel_rfl) (by kernel_rfl) (by kernel_rfl) (fun _ _ _ h => by cases h.1) (.inl ⟨by rfl,?_⟩) (by assumption) ?_
      rotate_left
      · (intro w' hSw; (try dsimp only at hSw); (have q9 := HLO.out); go_simp <;> with_reducible rfl)
      (try simp only [Act.put,aT,aZ,aS])
      refine wpAnyH_ready (rs := [17]) (by kernel_rfl) (by simp) ?_
      refine AllReadyH.cons rfl (fun K hK => ?_) ?_
      · go_simp
        go_at_call 32
        refine (to_any _ _ _).mono ?_
        rintro e' wX0 ⟨rfl,hbX⟩
        have hS_ := hS.next hbX
        have hE_ := hE.below hbX hE.lt
        clear hbX hS hE
        have hS := hS_
        have hE := hE_
        clear hS_ hE_
        go_wp2_with fail
        refine hK.out _ _ hS (fun _ => ?_)
        clear hK K
        (try simp only [Act.put,aT,aZ,aS])
        refine wpAnyH_take (i := 18) (v := ?_) rfl (by kernel_rfl) (by kernel_rfl) (by kernel_rfl) (fun _ _ _ h => by cases h.1) (.inl ⟨by rfl,?_⟩) (by assumption) ?_
        rotate_left
        · (intro w' hSw; (try dsimp only at hSw); skip; go_simp <;> with_reducible rfl)
        (try simp only [Act.put,aT,aZ,aS])
        refine wpAnyH_take (i := 19) (v := ?_) rfl (by kernel_rfl) (by kernel_rfl) (by kernel_rfl) (fun _ _ _ h => by cases h.1) (.inl ⟨by rfl,?_⟩) (by assumption) ?_
        rotate_left
        · (intro w' hSw; (try dsimp only at hSw); skip; go_simp <;> with_reducible rfl)
        (try simp only [Act.put,aT,aZ,aS])
        refine wpAnyH_ready (rs := [20]) (by kernel_rfl) (by simp) ?_
        refine AllReadyH.cons rfl (fun K hK => ?_) ?_
        · have z2 := hE.at_ 2 _ rfl
          have f2 := hE.free 2
          have z3 := hE.at_ 3 _ rfl
          have f3 := hE.free 3
          go_simp
          have hE_ := ((hE.put 2 (.int .i64 (lo))).put 3 (.int .i64 (hi)))
          have hS_ := ((hS.put 2 (.int .i64 (lo))).put 3 (.int .i64 (hi)))
          refine hK.out _ _ hS_ (fun _ => ?_)
          clear z2 f2 z3 f3 hS hE
          have hS := hS_
          have hE := hE_
          clear hS_ hE_

          clear hK K
          (try simp only [Act.put,aT,aZ,aS])
          refine wpAnyH_done (by kernel_rfl) ?_ _
          exact ⟨rfl,_,_,_,_,_,_,_,_,_,_,_,_,_,_,_,_,_,_,_,_,rfl,hS,hE⟩
        exact AllReadyH.nil
      exact AllReadyH.nil
    exact AllReadyH.nil
  exact AllReadyH.nil
set_option maxHeartbeats 9000000 in
set_option maxRecDepth 1000000 in
theorem nor5 {w0 w : World} {bx g5 g6 : Nat} {J : Jb} {s : Value} {t : Fd} {sa : Option Addr} {sn sc : Nat} {sl : List Int} {e : En} {lo hi : Int} {Q : Exit → Act → World → Prop} {u1 u2 u4 u7 u8 u9 A0 A1 A2 A3 A4 A5 A6 A7 A8 A9 Aa Ab Ac Ad Ae Af Ag Ah Ai Aj Ak Al Am An Ao Ap Aq Ar As At Au Av Aw Ax Ay Az C0 C1 C2 C3 C4 C5 C6 C7 C8 C9 Ca Cb Cc Cd Ce Cf Cg Ch Ci Cj Ck Cl Cm Cn Co Cp Cq Cr Cs Ct Cu Cv Cw Cx Cy Cz D0 D1 D2 D3 D4 D5 D6 D7 D8 D9 Da Db Dc Dd De Df Dg Dh Di Dj Dk Dl Dm Dn Do Dp Dq Dr Ds Dt Du Dv Dw Dx Dy Dz E0 E1 E2 E3 E4 E5 E6 E7 E8 E9 Ea Eb Ec Ed Ee Ef Eg Eh Ei Ej Ek El Em u141 Eo Ep Eq Er Es Et Eu Ev Ew Ex Ey Ez F0 F1 F2 F3 F4 F5 F6 F7 F8 F9 Fa Fb Fc u167 : Value} (hs : NT w0 w bx g5 g6 J s t sa sl) (hE : Bk w bx 54 (enC e)) (hlo : mn e.rl t.r = lo) (hhi : mx e.rh t.r = hi) (hK : ∀ (w' : World),NT w0 w' bx g5 g6 J s t sa sl → Bk w' bx 54 (enC { e with rl := lo,rh := hi }) → ∀ (U9 Ua Ub Uc Ud Ue Uf Ug Uh Ui Uj Uk Ul Um Un Uo Up Uq Ur Us : Value),Q .normal ⟨#[(.pointer (some ⟨bx,0,none⟩)),u1,u2,(.slice sa sn sc),u4,(.pointer (some ⟨g5,0,none⟩)),(.pointer (some ⟨g6,0,none⟩)),u7,u8,u9,A0,A1,A2,A3,A4,A5,A6,A7,A8,A9,Aa,Ab,Ac,Ad,Ae,Af,Ag,Ah,Ai,Aj,Ak,Al,Am,An,Ao,Ap,Aq,Ar,As,At,Au,Av,Aw,Ax,Ay,Az,C0,C1,C2,C3,C4,C5,C6,C7,C8,C9,Ca,Cb,Cc,Cd,Ce,Cf,Cg,Ch,Ci,Cj,Ck,Cl,Cm,Cn,Co,Cp,Cq,Cr,Cs,Ct,Cu,Cv,Cw,U9,Ua,Ub,Uc,Ud,Ue,Uf,Ug,Uh,Ui,Uj,Uk,Ul,Um,Un,Uo,Up,Uq,Ur,Us,Dh,Di,Dj,Dk,Dl,Dm,Dn,Do,Dp,Dq,Dr,Ds,Dt,Du,Dv,Dw,Dx,Dy,Dz,E0,E1,E2,E3,E4,E5,E6,E7,E8,E9,Ea,Eb,Ec,Ed,Ee,Ef,Eg,Eh,Ei,Ej,Ek,El,Em,u141,Eo,Ep,Eq,Er,Es,Et,Eu,Ev,Ew,Ex,Ey,Ez,F0,F1,F2,F3,F4,F5,F6,F7,F8,F9,Fa,Fb,Fc,u167],[]⟩ w') : Code.wp Try.prog (Code.region 5 #[⟨some 79,.move (.tmp 0),100,"outright.go:156",#[],none⟩,⟨some 80,.move (.tmp 0),100,"outright.go:156",#[],none⟩,⟨some 81,.nilCheck (.tmp 80),0,"outright.go:156",#[⟨1,.data⟩],none⟩,⟨some 82,.fieldAddr 54 (.tmp 81) 2,0,"outright.go:156",#[⟨2,.data⟩],none⟩,⟨some 83,.fieldAddr 23 (.tmp 82) 0,0,"outright.go:156",#[⟨3,.data⟩],none⟩,⟨some 84,.load 3 (.tmp 83),3,"outright.go:156",#[⟨4,.data⟩],none⟩,⟨some 85,.fieldAddr 57 (.tmp 6) 2,0,"outright.go:156",#[],none⟩,⟨some 86,.load 3 (.tmp 85),3,"outright.go:156",#[⟨6,.data⟩],none⟩,⟨some 87,.call { callee := .builtin .min,args := #[.tmp 84,.tmp 86],argTypes := #[3,3] },3,"outright.go:156",#[⟨5,.data⟩,⟨7,.data⟩],none⟩,⟨some 88,.move (.tmp 0),100,"outright.go:156",#[],none⟩,⟨some 89,.nilCheck (.tmp 88),0,"outright.go:156",#[⟨9,.data⟩],none⟩,⟨some 90,.fieldAddr 54 (.tmp 89) 2,0,"outright.go:156",#[⟨10,.data⟩],none⟩,⟨some 91,.fieldAddr 23 (.tmp 90) 1,0,"outright.go:156",#[⟨11,.data⟩],none⟩,⟨some 92,.load 3 (.tmp 91),3,"outright.go:156",#[⟨12,.data⟩],none⟩,⟨some 93,.fieldAddr 57 (.tmp 6) 2,0,"outright.go:156",#[],none⟩,⟨some 94,.load 3 (.tmp 93),3,"outright.go:156",#[⟨14,.data⟩],none⟩,⟨some 95,.call { callee := .builtin .max,args := #[.tmp 92,.tmp 94],argTypes := #[3,3] },3,"outright.go:156",#[⟨13,.data⟩,⟨15,.data⟩],none⟩,⟨some 96,.call { callee := .value (.func 32),args := #[.tmp 87,.tmp 95],argTypes := #[3,3] },23,"outright.go:156",#[⟨8,.data⟩,⟨16,.data⟩],none⟩,⟨some 97,.nilCheck (.tmp 79),0,"outright.go:156",#[⟨0,.data⟩,⟨0,.phase⟩,⟨1,.phase⟩,⟨2,.phase⟩,⟨3,.phase⟩,⟨4,.phase⟩,⟨5,.phase⟩,⟨6,.phase⟩,⟨7,.phase⟩,⟨8,.phase⟩,⟨9,.phase⟩,⟨10,.phase⟩,⟨11,.phase⟩,⟨12,.phase⟩,⟨13,.phase⟩,⟨14,.phase⟩,⟨15,.phase⟩,⟨16,.phase⟩,⟨17,.phase⟩],none⟩,⟨some 98,.fieldAddr 54 (.tmp 97) 2,0,"outright.go:156",#[⟨18,.data⟩,⟨0,.phase⟩,⟨1,.phase⟩,⟨2,.phase⟩,⟨3,.phase⟩,⟨4,.phase⟩,⟨5,.phase⟩,⟨6,.phase⟩,⟨7,.phase⟩,⟨8,.phase⟩,⟨9,.phase⟩,⟨10,.phase⟩,⟨11,.phase⟩,⟨12,.phase⟩,⟨13,.phase⟩,⟨14,.phase⟩,⟨15,.phase⟩,⟨16,.phase⟩,⟨17,.phase⟩],none⟩,⟨none,.store 23 (.tmp 98) (.tmp 96),0,"outright.go:156",#[⟨19,.data⟩,⟨17,.data⟩,⟨17,.chain⟩,⟨0,.phase⟩,⟨1,.phase⟩,⟨2,.phase⟩,⟨3,.phase⟩,⟨4,.phase⟩,⟨5,.phase⟩,⟨6,.phase⟩,⟨7,.phase⟩,⟨8,.phase⟩,⟨9,.phase⟩,⟨10,.phase⟩,⟨11,.phase⟩,⟨12,.phase⟩,⟨13,.phase⟩,⟨14,.phase⟩,⟨15,.phase⟩,⟨16,.phase⟩,⟨17,.phase⟩],none⟩] true) Q ⟨#[(.pointer (some ⟨bx,0,none⟩)),u1,u2,(.slice sa sn sc),u4,(.pointer (some ⟨g5,0,none⟩)),(.pointer (some ⟨g6,0,none⟩)),u7,u8,u9,A0,A1,A2,A3,A4,A5,A6,A7,A8,A9,Aa,Ab,Ac,Ad,Ae,Af,Ag,Ah,Ai,Aj,Ak,Al,Am,An,Ao,Ap,Aq,Ar,As,At,Au,Av,Aw,Ax,Ay,Az,C0,C1,C2,C3,C4,C5,C6,C7,C8,C9,Ca,Cb,Cc,Cd,Ce,Cf,Cg,Ch,Ci,Cj,Ck,Cl,Cm,Cn,Co,Cp,Cq,Cr,Cs,Ct,Cu,Cv,Cw,Cx,Cy,Cz,D0,D1,D2,D3,D4,D5,D6,D7,D8,D9,Da,Db,Dc,Dd,De,Df,Dg,Dh,Di,Dj,Dk,Dl,Dm,Dn,Do,Dp,Dq,Dr,Ds,Dt,Du,Dv,Dw,Dx,Dy,Dz,E0,E1,E2,E3,E4,E5,E6,E7,E8,E9,Ea,Eb,Ec,Ed,Ee,Ef,Eg,Eh,Ei,Ej,Ek,El,Em,u141,Eo,Ep,Eq,Er,Es,Et,Eu,Ev,Ew,Ex,Ey,Ez,F0,F1,F2,F3,F4,F5,F6,F7,F8,F9,Fa,Fb,Fc,u167],[]⟩ w := by
  have HLO := hidMk (show (if t.r < e.rl then t.r else e.rl) = lo from hlo)
  have HHI := hidMk (show (if e.rh < t.r then t.r else e.rh) = hi from hhi)
  clear hlo hhi
  refine region_via (R := fun a_ e_ a' w' => e_ = .normal ∧ ∃ (U9 Ua Ub Uc Ud Ue Uf Ug Uh Ui Uj Uk Ul Um Un Uo Up Uq Ur Us : Value),a' = ((((((((((((((((((((a_.put (some 79) U9).put (some 80) Ua).put (some 81) Ub).put (some 82) Uc).put (some 83) Ud).put (some 84) Ue).put (some 85) Uf).put (some 86) Ug).put (some 87) Uh).put (some 88) Ui).put (some 89) Uj).put (some 90) Uk).put (some 91) Ul).put (some 92) Um).put (some 93) Un).put (some 94) Uo).put (some 95) Up).put (some 96) Uq).put (some 97) Ur).put (some 98) Us) ∧ NT w0 w' bx g5 g6 J s t sa sl ∧ Bk w' bx 54 (enC { e with rl := lo,rh := hi })) ?_ ?_
  rotate_left
  · rintro e_ a' w' ⟨rfl,U9,Ua,Ub,Uc,Ud,Ue,Uf,Ug,Uh,Ui,Uj,Uk,Ul,Um,Un,Uo,Up,Uq,Ur,Us,rfl,hs',he'⟩
    simp only [Act.put,aT,aZ,aS]
    exact hK _ hs' he' _ _ _ _ _ _ _ _ _ _ _ _ _ _ _ _ _ _ _ _ 
  have hS : NT w0 w.drew bx g5 g6 J s t sa sl := hs.next (Below.refl _ _).drew
  have hE_ : Bk w.drew bx 54 (enC e) := hE
  clear hs hE
  have hE := hE_
  clear hE_
  refine wp_region_held_drew (S := fun w' => NT w0 w' bx g5 g6 J s t sa sl) (by kernel_rfl) hS (fun hS0 => ?_)
  clear hS0
  generalize w.drew = wd at hS hE ⊢
  refine wpAnyH_take (i := 0) (v := ?_) rfl (by kernel_rfl) (by kernel_rfl) (by kernel_rfl) (fun _ _ _ h => by cases h.1) (.inl ⟨by rfl,?_⟩) (by assumption) ?_
  rotate_left
  · (intro w' hSw; (try dsimp only at hSw); skip; go_simp <;> with_reducible rfl)
  (try simp only [Act.put,aT,aZ,aS])
  refine wpAnyH_take (i := 1) (v := ?_) rfl (by kernel_rfl) (by kernel_rfl) (by kernel_rfl) (fun _ _ _ h => by cases h.1) (.inl ⟨by rfl,?_⟩) (by assumption) ?_
  rotate_left
  · (intro w' hSw; (try dsimp only at hSw); skip; go_simp <;> with_reducible rfl)
  (try simp only [Act.put,aT,aZ,aS])
  refine wpAnyH_take (i := 2) (v := ?_) rfl (by kernel_rfl) (by kernel_rfl) (by kernel_rfl) (fun _ _ _ h => by cases h.1) (.inl ⟨by rfl,?_⟩) (by assumption) ?_
  rotate_left
  · (intro w' hSw; (try dsimp only at hSw); skip; go_simp <;> with_reducible rfl)
  (try simp only [Act.put,aT,aZ,aS])
  refine wpAnyH_take (i := 3) (v := ?_) rfl (by kernel_rfl) (by kernel_rfl) (by kernel_rfl) (fun _ _ _ h => by cases h.1) (.inl ⟨by rfl,?_⟩) (by assumption) ?_
  rotate_left
  · (intro w' hSw; (try dsimp only at hSw); skip; go_simp <;> with_reducible rfl)
  (try simp only [Act.put,aT,aZ,aS])
  refine wpAnyH_take (i := 4) (v := ?_) rfl (by kernel_rfl) (by kernel_rfl) (by kernel_rfl) (fun _ _ _ h => by cases h.1) (.inl ⟨by rfl,?_⟩) (by assumption) ?_
  rotate_left
  · (intro w' hSw; (try dsimp only at hSw); skip; go_simp <;> with_reducible rfl)
  (try simp only [Act.put,aT,aZ,aS])
  refine wpAnyH_take (i := 6) (v := ?_) rfl (by kernel_rfl) (by kernel_rfl) (by kernel_rfl) (fun _ _ _ h => by cases h.1) (.inl ⟨by rfl,?_⟩) (by assumption) ?_
  rotate_left
  · (intro w' hSw; (try dsimp only at hSw); skip; go_simp <;> with_reducible rfl)
  (try simp only [Act.put,aT,aZ,aS])
  refine wpAnyH_take (i := 7) (v := ?_) rfl (by kernel_rfl) (by kernel_rfl) (by kernel_rfl) (fun _ _ _ h => by cases h.1) (.inl ⟨by rfl,?_⟩) (by assumption) ?_
  rotate_left
  · (intro w' hSw; (try dsimp only at hSw); (have q0 := hSw.fl.at_ 0 (.int .i64 t.p) rfl; have q1 := hSw.fl.at_ 1 (.int .i64 t.t) rfl; have q2 := hSw.fl.at_ 2 (.int .i64 t.r) rfl; skip); go_simp <;> with_reducible rfl)
  (try simp only [Act.put,aT,aZ,aS])
  refine wpAnyH_take (i := 9) (v := ?_) rfl (by kernel_rfl) (by kernel_rfl) (by kernel_rfl) (fun _ _ _ h => by cases h.1) (.inl ⟨by rfl,?_⟩) (by assumption) ?_
  rotate_left
  · (intro w' hSw; (try dsimp only at hSw); skip; go_simp <;> with_reducible rfl)
  (try simp only [Act.put,aT,aZ,aS])
  refine wpAnyH_take (i := 10) (v := ?_) rfl (by kernel_rfl) (by kernel_rfl) (by kernel_rfl) (fun _ _ _ h => by cases h.1) (.inl ⟨by rfl,?_⟩) (by assumption) ?_
  rotate_left
  · (intro w' hSw; (try dsimp only at hSw); skip; go_simp <;> with_reducible rfl)
  (try simp only [Act.put,aT,aZ,aS])
  refine wpAnyH_take (i := 11) (v := ?_) rfl (by kernel_rfl) (by kernel_rfl) (by kernel_rfl) (fun _ _ _ h => by cases h.1) (.inl ⟨by rfl,?_⟩) (by assumption) ?_
  rotate_left
  · (intro w' hSw; (try dsimp only at hSw); skip; go_simp <;> with_reducible rfl)
  (try simp only [Act.put,aT,aZ,aS])
  refine wpAnyH_take (i := 12) (v := ?_) rfl (by kernel_rfl) (by kernel_rfl) (by kernel_rfl) (fun _ _ _ h => by cases h.1) (.inl ⟨by rfl,?_⟩) (by assumption) ?_
  rotate_left
  · (intro w' hSw; (try dsimp only at hSw); skip; go_simp <;> with_reducible rfl)
  (try simp only [Act.put,aT,aZ,aS])
  refine wpAnyH_take (i := 14) (v := ?_) rfl (by kernel_rfl) (by kernel_rfl) (by kernel_rfl) (fun _ _ _ h => by cases h.1) (.inl ⟨by rfl,?_⟩) (by assumption) ?_
  rotate_left
  · (intro w' hSw; (try dsimp only at hSw); skip; go_simp <;> with_reducible rfl)
  (try simp only [Act.put,aT,aZ,aS])
  refine wpAnyH_take (i := 15) (v := ?_) rfl (by kernel_rfl) (by kernel_rfl) (by kernel_rfl) (fun _ _ _ h => by cases h.1) (.inl ⟨by rfl,?_⟩) (by assumption) ?_
  rotate_left
  · (intro w' hSw; (try dsimp only at hSw); (have q0 := hSw.fl.at_ 0 (.int .i64 t.p) rfl; have q1 := hSw.fl.at_ 1 (.int .i64 t.t) rfl; have q2 := hSw.fl.at_ 2 (.int .i64 t.r) rfl; skip); go_simp <;> with_reducible rfl)
  (try simp only [Act.put,aT,aZ,aS])
  refine wpAnyH_ready (rs := [5,13]) (by kernel_rfl) (by simp) ?_
  refine AllReadyH.cons rfl (fun K hK => ?_) ?_
  · have z := hE.at_ 4 (.int .i64 e.rl) rfl
    go_simp
    refine hK.out _ _ hS (fun _ => ?_)
    clear z
    clear hK K
    (try simp only [Act.put,aT,aZ,aS])
    refine wpAnyH_take (i := 8) (v := ?_) rfl (by kernel_rfl) (by kernel_rfl) (by kernel_rfl) (fun _ _ _ h => by cases h.1) (.inl ⟨by rfl,?_⟩) (by assumption) ?_
    rotate_left
    · (intro w' hSw; (try dsimp only at hSw); (have q9 := HLO.out); go_simp <;> with_reducible rfl)
    (try simp only [Act.put,aT,aZ,aS])
    refine wpAnyH_ready (rs := [13]) (by kernel_rfl) (by simp) ?_
    refine AllReadyH.cons rfl (fun K hK => ?_) ?_
    · have z := hE.at_ 5 (.int .i64 e.rh) rfl
      go_simp
      refine hK.out _ _ hS (fun _ => ?_)
      clear z
      clear hK K
      (try simp only [Act.put,aT,aZ,aS])
      refine wpAnyH_take (i := 16) (v := ?_) rfl (by kernel_rfl) (by kernel_rfl) (by kernel_rfl) (fun _ _ _ h => by cases h.1) (.inl ⟨by rfl,?_⟩) (by assumption) ?_
      rotate_left
      · (intro w' hSw; (try dsimp only at hSw); (have q9 := HHI.out); go_simp <;> with_reducible rfl)
      (try simp only [Act.put,aT,aZ,aS])
      refine wpAnyH_ready (rs := [17]) (by kernel_rfl) (by simp) ?_
      refine AllReadyH.cons rfl (fun K hK => ?_) ?_
      · go_simp
        go_at_call 32
        refine (to_any _ _ _).mono ?_
        rintro e' wX0 ⟨rfl,hbX⟩
        have hS_ := hS.next hbX
        have hE_ := hE.below hbX hE.lt
        clear hbX hS hE
        have hS := hS_
        have hE := hE_
        clear hS_ hE_
        go_wp2_with fail
        refine hK.out _ _ hS (fun _ => ?_)
        clear hK K
        (try simp only [Act.put,aT,aZ,aS])
        refine wpAnyH_take (i := 18) (v := ?_) rfl (by kernel_rfl) (by kernel_rfl) (by kernel_rfl) (fun _ _ _ h => by cases h.1) (.inl ⟨by rfl,?_⟩) (by assumption) ?_
        rotate_left
        · (intro w' hSw; (try dsimp only at hSw); skip; go_simp <;> with_reducible rfl)
        (try simp only [Act.put,aT,aZ,aS])
        refine wpAnyH_take (i := 19) (v := ?_) rfl (by kernel_rfl) (by kernel_rfl) (by kernel_rfl) (fun _ _ _ h => by cases h.1) (.inl ⟨by rfl,?_⟩) (by assumption) ?_
        rotate_left
        · (intro w' hSw; (try dsimp only at hSw); skip; go_simp <;> with_reducible rfl)
        (try simp only [Act.put,aT,aZ,aS])
        refine wpAnyH_ready (rs := [20]) (by kernel_rfl) (by simp) ?_
        refine AllReadyH.cons rfl (fun K hK => ?_) ?_
        · have z4 := hE.at_ 4 _ rfl
          have f4 := hE.free 4
          have z5 := hE.at_ 5 _ rfl
          have f5 := hE.free 5
          go_simp
          have hE_ := ((hE.put 4 (.int .i64 (lo))).put 5 (.int .i64 (hi)))
          have hS_ := ((hS.put 4 (.int .i64 (lo))).put 5 (.int .i64 (hi)))
          refine hK.out _ _ hS_ (fun _ => ?_)
          clear z4 f4 z5 f5 hS hE
          have hS := hS_
          have hE := hE_
          clear hS_ hE_

          clear hK K
          (try simp only [Act.put,aT,aZ,aS])
          refine wpAnyH_done (by kernel_rfl) ?_ _
          exact ⟨rfl,_,_,_,_,_,_,_,_,_,_,_,_,_,_,_,_,_,_,_,_,rfl,hS,hE⟩
        exact AllReadyH.nil
      exact AllReadyH.nil
    exact AllReadyH.nil
  refine AllReadyH.cons rfl (fun K hK => ?_) ?_
  · have z := hE.at_ 5 (.int .i64 e.rh) rfl
    go_simp
    refine hK.out _ _ hS (fun _ => ?_)
    clear z
    clear hK K
    (try simp only [Act.put,aT,aZ,aS])
    refine wpAnyH_take (i := 16) (v := ?_) rfl (by kernel_rfl) (by kernel_rfl) (by kernel_rfl) (fun _ _ _ h => by cases h.1) (.inl ⟨by rfl,?_⟩) (by assumption) ?_
    rotate_left
    · (intro w' hSw; (try dsimp only at hSw); (have q9 := HHI.out); go_simp <;> with_reducible rfl)
    (try simp only [Act.put,aT,aZ,aS])
    refine wpAnyH_ready (rs := [5]) (by kernel_rfl) (by simp) ?_
    refine AllReadyH.cons rfl (fun K hK => ?_) ?_
    · have z := hE.at_ 4 (.int .i64 e.rl) rfl
      go_simp
      refine hK.out _ _ hS (fun _ => ?_)
      clear z
      clear hK K
      (try simp only [Act.put,aT,aZ,aS])
      refine wpAnyH_take (i := 8) (v := ?_) rfl (by kernel_rfl) (by kernel_rfl) (by kernel_rfl) (fun _ _ _ h => by cases h.1) (.inl ⟨by rfl,?_⟩) (by assumption) ?_
      rotate_left
      · (intro w' hSw; (try dsimp only at hSw); (have q9 := HLO.out); go_simp <;> with_reducible rfl)
      (try simp only [Act.put,aT,aZ,aS])
      refine wpAnyH_ready (rs := [17]) (by kernel_rfl) (by simp) ?_
      refine AllReadyH.cons rfl (fun K hK => ?_) ?_
      · go_simp
        go_at_call 32
        refine (to_any _ _ _).mono ?_
        rintro e' wX0 ⟨rfl,hbX⟩
        have hS_ := hS.next hbX
        have hE_ := hE.below hbX hE.lt
        clear hbX hS hE
        have hS := hS_
        have hE := hE_
        clear hS_ hE_
        go_wp2_with fail
        refine hK.out _ _ hS (fun _ => ?_)
        clear hK K
        (try simp only [Act.put,aT,aZ,aS])
        refine wpAnyH_take (i := 18) (v := ?_) rfl (by kernel_rfl) (by kernel_rfl) (by kernel_rfl) (fun _ _ _ h => by cases h.1) (.inl ⟨by rfl,?_⟩) (by assumption) ?_
        rotate_left
        · (intro w' hSw; (try dsimp only at hSw); skip; go_simp <;> with_reducible rfl)
        (try simp only [Act.put,aT,aZ,aS])
        refine wpAnyH_take (i := 19) (v := ?_) rfl (by kernel_rfl) (by kernel_rfl) (by kernel_rfl) (fun _ _ _ h => by cases h.1) (.inl ⟨by rfl,?_⟩) (by assumption) ?_
        rotate_left
        · (intro w' hSw; (try dsimp only at hSw); skip; go_simp <;> with_reducible rfl)
        (try simp only [Act.put,aT,aZ,aS])
        refine wpAnyH_ready (rs := [20]) (by kernel_rfl) (by simp) ?_
        refine AllReadyH.cons rfl (fun K hK => ?_) ?_
        · have z4 := hE.at_ 4 _ rfl
          have f4 := hE.free 4
          have z5 := hE.at_ 5 _ rfl
          have f5 := hE.free 5
          go_simp
          have hE_ := ((hE.put 4 (.int .i64 (lo))).put 5 (.int .i64 (hi)))
          have hS_ := ((hS.put 4 (.int .i64 (lo))).put 5 (.int .i64 (hi)))
          refine hK.out _ _ hS_ (fun _ => ?_)
          clear z4 f4 z5 f5 hS hE
          have hS := hS_
          have hE := hE_
          clear hS_ hE_

          clear hK K
          (try simp only [Act.put,aT,aZ,aS])
          refine wpAnyH_done (by kernel_rfl) ?_ _
          exact ⟨rfl,_,_,_,_,_,_,_,_,_,_,_,_,_,_,_,_,_,_,_,_,rfl,hS,hE⟩
        exact AllReadyH.nil
      exact AllReadyH.nil
    exact AllReadyH.nil
  exact AllReadyH.nil
set_option maxHeartbeats 9000000 in
set_option maxRecDepth 1000000 in
theorem nor7 {w0 w : World} {bx g5 g6 : Nat} {J : Jb} {s : Value} {t : Fd} {sa : Option Addr} {sn sc : Nat} {sl : List Int} {e : En} {n hi : Int} {Q : Exit → Act → World → Prop} {u1 u2 u4 u7 u9 A0 A1 A2 A3 A4 A5 A6 A7 A8 A9 Aa Ab Ac Ad Ae Af Ag Ah Ai Aj Ak Al Am An Ao Ap Aq Ar As At Au Av Aw Ax Ay Az C0 C1 C2 C3 C4 C5 C6 C7 C8 C9 Ca Cb Cc Cd Ce Cf Cg Ch Ci Cj Ck Cl Cm Cn Co Cp Cq Cr Cs Ct Cu Cv Cw Cx Cy Cz D0 D1 D2 D3 D4 D5 D6 D7 D8 D9 Da Db Dc Dd De Df Dg Dh Di Dj Dk Dl Dm Dn Do Dp Dq Dr Ds Dt Du Dv Dw Dx Dy Dz E0 E1 E2 E3 E4 E5 E6 E7 E8 E9 Ea Eb Ec Ed Ee Ef Eg Eh Ei Ej Ek El Em u141 Eo Ep Eq Er Es Et Eu Ev Ew Ex Ey Ez F0 F1 F2 F3 F4 F5 F6 F7 F8 F9 Fa Fb Fc u167 : Value} (hs : NT w0 w bx g5 g6 J s t sa sl) (hE : Bk w bx 54 (enC e)) (hn : 0 ≤ e.truths ∧ e.truths ≤ 100000000000000000) (hhi : mx e.worst n = hi) (hK : ∀ (w' : World),NT w0 w' bx g5 g6 J s t sa sl → Bk w' bx 54 (enC { e with worst := hi,truths := e.truths + 1 }) → ∀ (Ux Uy Uz V0 V1 V2 V3 V4 V5 V6 V7 V8 V9 Va Vb Vc Vd : Value),Q .normal ⟨#[(.pointer (some ⟨bx,0,none⟩)),u1,u2,(.slice sa sn sc),u4,(.pointer (some ⟨g5,0,none⟩)),(.pointer (some ⟨g6,0,none⟩)),u7,(.int .i64 n),u9,A0,A1,A2,A3,A4,A5,A6,A7,A8,A9,Aa,Ab,Ac,Ad,Ae,Af,Ag,Ah,Ai,Aj,Ak,Al,Am,An,Ao,Ap,Aq,Ar,As,At,Au,Av,Aw,Ax,Ay,Az,C0,C1,C2,C3,C4,C5,C6,C7,C8,C9,Ca,Cb,Cc,Cd,Ce,Cf,Cg,Ch,Ci,Cj,Ck,Cl,Cm,Cn,Co,Cp,Cq,Cr,Cs,Ct,Cu,Cv,Cw,Cx,Cy,Cz,D0,D1,D2,D3,D4,D5,D6,D7,D8,D9,Da,Db,Dc,Dd,De,Df,Dg,Dh,Di,Dj,Dk,Ux,Uy,Uz,V0,V1,V2,V3,V4,V5,V6,V7,V8,V9,Va,Vb,Vc,Vd,E2,E3,E4,E5,E6,E7,E8,E9,Ea,Eb,Ec,Ed,Ee,Ef,Eg,Eh,Ei,Ej,Ek,El,Em,u141,Eo,Ep,Eq,Er,Es,Et,Eu,Ev,Ew,Ex,Ey,Ez,F0,F1,F2,F3,F4,F5,F6,F7,F8,F9,Fa,Fb,Fc,u167],[]⟩ w') : Code.wp Try.prog (Code.region 7 #[⟨some 103,.move (.tmp 0),100,"outright.go:158",#[],none⟩,⟨some 104,.move (.tmp 0),100,"outright.go:158",#[⟨15,.gcOnly .lateStores⟩],none⟩,⟨some 105,.move (.tmp 0),100,"outright.go:158",#[],none⟩,⟨some 106,.nilCheck (.tmp 105),0,"outright.go:158",#[⟨2,.data⟩],none⟩,⟨some 107,.fieldAddr 54 (.tmp 106) 3,0,"outright.go:158",#[⟨3,.data⟩],none⟩,⟨some 108,.load 3 (.tmp 107),3,"outright.go:158",#[⟨4,.data⟩],none⟩,⟨some 109,.move (.tmp 8),3,"outright.go:158",#[],none⟩,⟨some 110,.call { callee := .builtin .max,args := #[.tmp 108,.tmp 109],argTypes := #[3,3] },3,"outright.go:158",#[⟨5,.data⟩,⟨6,.data⟩],none⟩,⟨some 111,.move (.tmp 0),100,"outright.go:158",#[],none⟩,⟨some 112,.nilCheck (.tmp 111),0,"outright.go:158",#[⟨8,.data⟩],none⟩,⟨some 113,.fieldAddr 54 (.tmp 112) 7,0,"outright.go:158",#[⟨9,.data⟩],none⟩,⟨some 114,.load 3 (.tmp 113),3,"outright.go:158",#[⟨10,.data⟩],none⟩,⟨some 115,.binOp .add 3 (.tmp 114) (.const (.int .i64 1)) 3,3,"outright.go:158",#[⟨11,.data⟩],none⟩,⟨some 116,.nilCheck (.tmp 103),0,"outright.go:158",#[⟨0,.data⟩,⟨0,.phase⟩,⟨1,.textOnly .lateStores⟩,⟨2,.phase⟩,⟨3,.phase⟩,⟨4,.phase⟩,⟨5,.phase⟩,⟨6,.phase⟩,⟨7,.phase⟩,⟨8,.textOnly .lateStores⟩,⟨9,.textOnly .lateStoresUnsure⟩,⟨10,.textOnly .lateStoresUnsure⟩,⟨11,.phase⟩,⟨12,.textOnly .lateStoresUnsure⟩],none⟩,⟨some 117,.fieldAddr 54 (.tmp 116) 3,0,"outright.go:158",#[⟨13,.data⟩,⟨0,.phase⟩,⟨1,.textOnly .lateStores⟩,⟨2,.phase⟩,⟨3,.phase⟩,⟨4,.phase⟩,⟨5,.phase⟩,⟨6,.phase⟩,⟨7,.phase⟩,⟨8,.textOnly .lateStores⟩,⟨9,.textOnly .lateStoresUnsure⟩,⟨10,.textOnly .lateStoresUnsure⟩,⟨11,.phase⟩,⟨12,.textOnly .lateStoresUnsure⟩],none⟩,⟨none,.store 3 (.tmp 117) (.tmp 110),0,"outright.go:158",#[⟨14,.data⟩,⟨7,.data⟩,⟨0,.phase⟩,⟨1,.textOnly .lateStores⟩,⟨2,.phase⟩,⟨3,.phase⟩,⟨4,.phase⟩,⟨5,.phase⟩,⟨6,.phase⟩,⟨7,.phase⟩,⟨8,.textOnly .lateStores⟩,⟨9,.textOnly .lateStoresUnsure⟩,⟨10,.textOnly .lateStoresUnsure⟩,⟨11,.phase⟩,⟨12,.textOnly .lateStoresUnsure⟩],none⟩,⟨some 118,.nilCheck (.tmp 104),0,"outright.go:158",#[⟨1,.data⟩,⟨0,.phase⟩,⟨1,.phase⟩,⟨2,.phase⟩,⟨3,.phase⟩,⟨4,.phase⟩,⟨5,.phase⟩,⟨6,.phase⟩,⟨7,.phase⟩,⟨8,.phase⟩,⟨9,.phase⟩,⟨10,.phase⟩,⟨11,.phase⟩,⟨12,.phase⟩,⟨13,.phase⟩,⟨14,.phase⟩,⟨15,.phase⟩],none⟩,⟨some 119,.fieldAddr 54 (.tmp 118) 7,0,"outright.go:158",#[⟨16,.data⟩,⟨0,.phase⟩,⟨1,.phase⟩,⟨2,.phase⟩,⟨3,.phase⟩,⟨4,.phase⟩,⟨5,.phase⟩,⟨6,.phase⟩,⟨7,.phase⟩,⟨8,.phase⟩,⟨9,.phase⟩,⟨10,.phase⟩,⟨11,.phase⟩,⟨12,.phase⟩,⟨13,.phase⟩,⟨14,.phase⟩,⟨15,.phase⟩],none⟩,⟨none,.store 3 (.tmp 119) (.tmp 115),0,"outright.go:158",#[⟨17,.data⟩,⟨12,.data⟩,⟨15,.chain⟩,⟨0,.phase⟩,⟨1,.phase⟩,⟨2,.phase⟩,⟨3,.phase⟩,⟨4,.phase⟩,⟨5,.phase⟩,⟨6,.phase⟩,⟨7,.phase⟩,⟨8,.phase⟩,⟨9,.phase⟩,⟨10,.phase⟩,⟨11,.phase⟩,⟨12,.phase⟩,⟨13,.phase⟩,⟨14,.phase⟩,⟨15,.phase⟩],none⟩] true) Q ⟨#[(.pointer (some ⟨bx,0,none⟩)),u1,u2,(.slice sa sn sc),u4,(.pointer (some ⟨g5,0,none⟩)),(.pointer (some ⟨g6,0,none⟩)),u7,(.int .i64 n),u9,A0,A1,A2,A3,A4,A5,A6,A7,A8,A9,Aa,Ab,Ac,Ad,Ae,Af,Ag,Ah,Ai,Aj,Ak,Al,Am,An,Ao,Ap,Aq,Ar,As,At,Au,Av,Aw,Ax,Ay,Az,C0,C1,C2,C3,C4,C5,C6,C7,C8,C9,Ca,Cb,Cc,Cd,Ce,Cf,Cg,Ch,Ci,Cj,Ck,Cl,Cm,Cn,Co,Cp,Cq,Cr,Cs,Ct,Cu,Cv,Cw,Cx,Cy,Cz,D0,D1,D2,D3,D4,D5,D6,D7,D8,D9,Da,Db,Dc,Dd,De,Df,Dg,Dh,Di,Dj,Dk,Dl,Dm,Dn,Do,Dp,Dq,Dr,Ds,Dt,Du,Dv,Dw,Dx,Dy,Dz,E0,E1,E2,E3,E4,E5,E6,E7,E8,E9,Ea,Eb,Ec,Ed,Ee,Ef,Eg,Eh,Ei,Ej,Ek,El,Em,u141,Eo,Ep,Eq,Er,Es,Et,Eu,Ev,Ew,Ex,Ey,Ez,F0,F1,F2,F3,F4,F5,F6,F7,F8,F9,Fa,Fb,Fc,u167],[]⟩ w := by
  have wz : IntKind.i64.wrap (e.truths + 1) = e.truths + 1 := IntWalk.i64_in _ (by omega)
  have HHI := hidMk (show (if e.worst < n then n else e.worst) = hi from hhi)
  clear hhi
  refine region_via (R := fun a_ e_ a' w' => e_ = .normal ∧ ∃ (Ux Uy Uz V0 V1 V2 V3 V4 V5 V6 V7 V8 V9 Va Vb Vc Vd : Value),a' = (((((((((((((((((a_.put (some 103) Ux).put (some 104) Uy).put (some 105) Uz).put (some 106) V0).put (some 107) V1).put (some 108) V2).put (some 109) V3).put (some 110) V4).put (some 111) V5).put (some 112) V6).put (some 113) V7).put (some 114) V8).put (some 115) V9).put (some 116) Va).put (some 117) Vb).put (some 118) Vc).put (some 119) Vd) ∧ NT w0 w' bx g5 g6 J s t sa sl ∧ Bk w' bx 54 (enC { e with worst := hi,truths := e.truths + 1 })) ?_ ?_
  rotate_left
  · rintro e_ a' w' ⟨rfl,Ux,Uy,Uz,V0,V1,V2,V3,V4,V5,V6,V7,V8,V9,Va,Vb,Vc,Vd,rfl,hs',he'⟩
    simp only [Act.put,aT,aZ,aS]
    exact hK _ hs' he' _ _ _ _ _ _ _ _ _ _ _ _ _ _ _ _ _ 
  have hS : NT w0 w.drew bx g5 g6 J s t sa sl := hs.next (Below.refl _ _).drew
  have hE_ : Bk w.drew bx 54 (enC e) := hE
  clear hs hE
  have hE := hE_
  clear hE_
  refine wp_region_held_drew (S := fun w' => NT w0 w' bx g5 g6 J s t sa sl) (by kernel_rfl) hS (fun hS0 => ?_)
  clear hS0
  generalize w.drew = wd at hS hE ⊢
  refine wpAnyH_take (i := 0) (v := ?_) rfl (by kernel_rfl) (by kernel_rfl) (by kernel_rfl) (fun _ _ _ h => by cases h.1) (.inl ⟨by rfl,?_⟩) (by assumption) ?_
  rotate_left
  · (intro w' hSw; (try dsimp only at hSw); skip; go_simp <;> with_reducible rfl)
  (try simp only [Act.put,aT,aZ,aS])
  refine wpAnyH_take (i := 1) (v := ?_) rfl (by kernel_rfl) (by kernel_rfl) (by kernel_rfl) (fun _ _ _ h => by cases h.1) (.inl ⟨by rfl,?_⟩) (by assumption) ?_
  rotate_left
  · (intro w' hSw; (try dsimp only at hSw); skip; go_simp <;> with_reducible rfl)
  (try simp only [Act.put,aT,aZ,aS])
  refine wpAnyH_take (i := 2) (v := ?_) rfl (by kernel_rfl) (by kernel_rfl) (by kernel_rfl) (fun _ _ _ h => by cases h.1) (.inl ⟨by rfl,?_⟩) (by assumption) ?_
  rotate_left
  · (intro w' hSw; (try dsimp only at hSw); skip; go_simp <;> with_reducible rfl)
  (try simp only [Act.put,aT,aZ,aS])
  refine wpAnyH_take (i := 3) (v := ?_) rfl (by kernel_rfl) (by kernel_rfl) (by kernel_rfl) (fun _ _ _ h => by cases h.1) (.inl ⟨by rfl,?_⟩) (by assumption) ?_
  rotate_left
  · (intro w' hSw; (try dsimp only at hSw); skip; go_simp <;> with_reducible rfl)
  (try simp only [Act.put,aT,aZ,aS])
  refine wpAnyH_take (i := 4) (v := ?_) rfl (by kernel_rfl) (by kernel_rfl) (by kernel_rfl) (fun _ _ _ h => by cases h.1) (.inl ⟨by rfl,?_⟩) (by assumption) ?_
  rotate_left
  · (intro w' hSw; (try dsimp only at hSw); skip; go_simp <;> with_reducible rfl)
  (try simp only [Act.put,aT,aZ,aS])
  refine wpAnyH_take (i := 6) (v := ?_) rfl (by kernel_rfl) (by kernel_rfl) (by kernel_rfl) (fun _ _ _ h => by cases h.1) (.inl ⟨by rfl,?_⟩) (by assumption) ?_
  rotate_left
  · (intro w' hSw; (try dsimp only at hSw); skip; go_simp <;> with_reducible rfl)
  (try simp only [Act.put,aT,aZ,aS])
  refine wpAnyH_take (i := 8) (v := ?_) rfl (by kernel_rfl) (by kernel_rfl) (by kernel_rfl) (fun _ _ _ h => by cases h.1) (.inl ⟨by rfl,?_⟩) (by assumption) ?_
  rotate_left
  · (intro w' hSw; (try dsimp only at hSw); skip; go_simp <;> with_reducible rfl)
  (try simp only [Act.put,aT,aZ,aS])
  refine wpAnyH_take (i := 9) (v := ?_) rfl (by kernel_rfl) (by kernel_rfl) (by kernel_rfl) (fun _ _ _ h => by cases h.1) (.inl ⟨by rfl,?_⟩) (by assumption) ?_
  rotate_left
  · (intro w' hSw; (try dsimp only at hSw); skip; go_simp <;> with_reducible rfl)
  (try simp only [Act.put,aT,aZ,aS])
  refine wpAnyH_take (i := 10) (v := ?_) rfl (by kernel_rfl) (by kernel_rfl) (by kernel_rfl) (fun _ _ _ h => by cases h.1) (.inl ⟨by rfl,?_⟩) (by assumption) ?_
  rotate_left
  · (intro w' hSw; (try dsimp only at hSw); skip; go_simp <;> with_reducible rfl)
  (try simp only [Act.put,aT,aZ,aS])
  refine wpAnyH_ready (rs := [5,11]) (by kernel_rfl) (by simp) ?_
  refine AllReadyH.cons rfl (fun K hK => ?_) ?_
  · have z := hE.at_ 6 (.int .i64 e.worst) rfl
    go_simp
    refine hK.out _ _ hS (fun _ => ?_)
    clear z
    clear hK K
    (try simp only [Act.put,aT,aZ,aS])
    refine wpAnyH_take (i := 7) (v := ?_) rfl (by kernel_rfl) (by kernel_rfl) (by kernel_rfl) (fun _ _ _ h => by cases h.1) (.inl ⟨by rfl,?_⟩) (by assumption) ?_
    rotate_left
    · (intro w' hSw; (try dsimp only at hSw); (have q9 := HHI.out); go_simp <;> with_reducible rfl)
    (try simp only [Act.put,aT,aZ,aS])
    refine wpAnyH_ready (rs := [11]) (by kernel_rfl) (by simp) ?_
    refine AllReadyH.cons rfl (fun K hK => ?_) ?_
    · have z := hE.at_ 10 (.int .i64 e.truths) rfl
      go_simp
      refine hK.out _ _ hS (fun _ => ?_)
      clear z
      clear hK K
      (try simp only [Act.put,aT,aZ,aS])
      refine wpAnyH_take (i := 12) (v := ?_) rfl (by kernel_rfl) (by kernel_rfl) (by kernel_rfl) (fun _ _ _ h => by cases h.1) (.inl ⟨by rfl,?_⟩) (by assumption) ?_
      rotate_left
      · (intro w' hSw; (try dsimp only at hSw); skip; go_simp <;> with_reducible rfl)
      (try simp only [Act.put,aT,aZ,aS])
      refine wpAnyH_take (i := 13) (v := ?_) rfl (by kernel_rfl) (by kernel_rfl) (by kernel_rfl) (fun _ _ _ h => by cases h.1) (.inl ⟨by rfl,?_⟩) (by assumption) ?_
      rotate_left
      · (intro w' hSw; (try dsimp only at hSw); skip; go_simp <;> with_reducible rfl)
      (try simp only [Act.put,aT,aZ,aS])
      refine wpAnyH_take (i := 14) (v := ?_) rfl (by kernel_rfl) (by kernel_rfl) (by kernel_rfl) (fun _ _ _ h => by cases h.1) (.inl ⟨by rfl,?_⟩) (by assumption) ?_
      rotate_left
      · (intro w' hSw; (try dsimp only at hSw); skip; go_simp <;> with_reducible rfl)
      (try simp only [Act.put,aT,aZ,aS])
      refine wpAnyH_ready (rs := [15]) (by kernel_rfl) (by simp) ?_
      refine AllReadyH.cons rfl (fun K hK => ?_) ?_
      · have z6 := hE.at_ 6 _ rfl
        have f6 := hE.free 6
        go_simp
        have hE_ := (hE.put 6 (.int .i64 (hi)))
        have hS_ := (hS.put 6 (.int .i64 (hi)))
        refine hK.out _ _ hS_ (fun _ => ?_)
        clear z6 f6 hS hE
        have hS := hS_
        have hE := hE_
        clear hS_ hE_

        clear hK K
        (try simp only [Act.put,aT,aZ,aS])
        refine wpAnyH_take (i := 16) (v := ?_) rfl (by kernel_rfl) (by kernel_rfl) (by kernel_rfl) (fun _ _ _ h => by cases h.1) (.inl ⟨by rfl,?_⟩) (by assumption) ?_
        rotate_left
        · (intro w' hSw; (try dsimp only at hSw); skip; go_simp <;> with_reducible rfl)
        (try simp only [Act.put,aT,aZ,aS])
        refine wpAnyH_take (i := 17) (v := ?_) rfl (by kernel_rfl) (by kernel_rfl) (by kernel_rfl) (fun _ _ _ h => by cases h.1) (.inl ⟨by rfl,?_⟩) (by assumption) ?_
        rotate_left
        · (intro w' hSw; (try dsimp only at hSw); skip; go_simp <;> with_reducible rfl)
        (try simp only [Act.put,aT,aZ,aS])
        refine wpAnyH_ready (rs := [18]) (by kernel_rfl) (by simp) ?_
        refine AllReadyH.cons rfl (fun K hK => ?_) ?_
        · have z10 := hE.at_ 10 _ rfl
          have f10 := hE.free 10
          go_simp
          have hE_ := (hE.put 10 (.int .i64 (e.truths + 1)))
          have hS_ := (hS.put 10 (.int .i64 (e.truths + 1)))
          refine hK.out _ _ hS_ (fun _ => ?_)
          clear z10 f10 hS hE
          have hS := hS_
          have hE := hE_
          clear hS_ hE_

          clear hK K
          (try simp only [Act.put,aT,aZ,aS])
          refine wpAnyH_done (by kernel_rfl) ?_ _
          exact ⟨rfl,_,_,_,_,_,_,_,_,_,_,_,_,_,_,_,_,_,rfl,hS,hE⟩
        exact AllReadyH.nil
      exact AllReadyH.nil
    exact AllReadyH.nil
  refine AllReadyH.cons rfl (fun K hK => ?_) ?_
  · have z := hE.at_ 10 (.int .i64 e.truths) rfl
    go_simp
    refine hK.out _ _ hS (fun _ => ?_)
    clear z
    clear hK K
    (try simp only [Act.put,aT,aZ,aS])
    refine wpAnyH_take (i := 12) (v := ?_) rfl (by kernel_rfl) (by kernel_rfl) (by kernel_rfl) (fun _ _ _ h => by cases h.1) (.inl ⟨by rfl,?_⟩) (by assumption) ?_
    rotate_left
    · (intro w' hSw; (try dsimp only at hSw); skip; go_simp <;> with_reducible rfl)
    (try simp only [Act.put,aT,aZ,aS])
    refine wpAnyH_ready (rs := [5]) (by kernel_rfl) (by simp) ?_
    refine AllReadyH.cons rfl (fun K hK => ?_) ?_
    · have z := hE.at_ 6 (.int .i64 e.worst) rfl
      go_simp
      refine hK.out _ _ hS (fun _ => ?_)
      clear z
      clear hK K
      (try simp only [Act.put,aT,aZ,aS])
      refine wpAnyH_take (i := 7) (v := ?_) rfl (by kernel_rfl) (by kernel_rfl) (by kernel_rfl) (fun _ _ _ h => by cases h.1) (.inl ⟨by rfl,?_⟩) (by assumption) ?_
      rotate_left
      · (intro w' hSw; (try dsimp only at hSw); (have q9 := HHI.out); go_simp <;> with_reducible rfl)
      (try simp only [Act.put,aT,aZ,aS])
      refine wpAnyH_take (i := 13) (v := ?_) rfl (by kernel_rfl) (by kernel_rfl) (by kernel_rfl) (fun _ _ _ h => by cases h.1) (.inl ⟨by rfl,?_⟩) (by assumption) ?_
      rotate_left
      · (intro w' hSw; (try dsimp only at hSw); skip; go_simp <;> with_reducible rfl)
      (try simp only [Act.put,aT,aZ,aS])
      refine wpAnyH_take (i := 14) (v := ?_) rfl (by kernel_rfl) (by kernel_rfl) (by kernel_rfl) (fun _ _ _ h => by cases h.1) (.inl ⟨by rfl,?_⟩) (by assumption) ?_
      rotate_left
      · (intro w' hSw; (try dsimp only at hSw); skip; go_simp <;> with_reducible rfl)
      (try simp only [Act.put,aT,aZ,aS])
      refine wpAnyH_ready (rs := [15]) (by kernel_rfl) (by simp) ?_
      refine AllReadyH.cons rfl (fun K hK => ?_) ?_
      · have z6 := hE.at_ 6 _ rfl
        have f6 := hE.free 6
        go_simp
        have hE_ := (hE.put 6 (.int .i64 (hi)))
        have hS_ := (hS.put 6 (.int .i64 (hi)))
        refine hK.out _ _ hS_ (fun _ => ?_)
        clear z6 f6 hS hE
        have hS := hS_
        have hE := hE_
        clear hS_ hE_

        clear hK K
        (try simp only [Act.put,aT,aZ,aS])
        refine wpAnyH_take (i := 16) (v := ?_) rfl (by kernel_rfl) (by kernel_rfl) (by kernel_rfl) (fun _ _ _ h => by cases h.1) (.inl ⟨by rfl,?_⟩) (by assumption) ?_
        rotate_left
        · (intro w' hSw; (try dsimp only at hSw); skip; go_simp <;> with_reducible rfl)
        (try simp only [Act.put,aT,aZ,aS])
        refine wpAnyH_take (i := 17) (v := ?_) rfl (by kernel_rfl) (by kernel_rfl) (by kernel_rfl) (fun _ _ _ h => by cases h.1) (.inl ⟨by rfl,?_⟩) (by assumption) ?_
        rotate_left
        · (intro w' hSw; (try dsimp only at hSw); skip; go_simp <;> with_reducible rfl)
        (try simp only [Act.put,aT,aZ,aS])
        refine wpAnyH_ready (rs := [18]) (by kernel_rfl) (by simp) ?_
        refine AllReadyH.cons rfl (fun K hK => ?_) ?_
        · have z10 := hE.at_ 10 _ rfl
          have f10 := hE.free 10
          go_simp
          have hE_ := (hE.put 10 (.int .i64 (e.truths + 1)))
          have hS_ := (hS.put 10 (.int .i64 (e.truths + 1)))
          refine hK.out _ _ hS_ (fun _ => ?_)
          clear z10 f10 hS hE
          have hS := hS_
          have hE := hE_
          clear hS_ hE_

          clear hK K
          (try simp only [Act.put,aT,aZ,aS])
          refine wpAnyH_done (by kernel_rfl) ?_ _
          exact ⟨rfl,_,_,_,_,_,_,_,_,_,_,_,_,_,_,_,_,_,rfl,hS,hE⟩
        exact AllReadyH.nil
      exact AllReadyH.nil
    exact AllReadyH.nil
  exact AllReadyH.nil
end Go.Proofs.Ytolabejbhaeddaa
