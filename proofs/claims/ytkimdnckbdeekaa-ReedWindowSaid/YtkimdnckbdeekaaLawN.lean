/- Numbers of the law ReedWindow: who is in the window. -/
import Derived.Test.YtkimdnckbdeekaaWorstF
import Derived.Test.YtkimdnckbdeekaaPots
import Derived.Test.YtkimdnckbdeekaaWindow
namespace Go.Proofs.Ytkimdnckbdeekaa
set_option linter.all false
open Go.RowKit

/-! ### numbers -/
theorem foldm_le (t : Tg) (m : Int) : ∀ (l : List R2) (z : Int), l.foldl (worstStep t) z ≤ m ↔ z ≤ m ∧ ∀ s ∈ l, -(t.p1 + s.1) ≤ m ∧ t.p2 + s.2 ≤ m
  | [], z => by simp
  | s :: l, z => by
    have ih := foldm_le t m l (worstStep t z s)
    have hs : worstStep t z s ≤ m ↔ z ≤ m ∧ -(t.p1 + s.1) ≤ m ∧ t.p2 + s.2 ≤ m := by
      unfold worstStep mx
      refine ⟨fun h => ?_, fun h => ?_⟩ <;> revert h <;> (repeat' split) <;> omega
    show l.foldl (worstStep t) (worstStep t z s) ≤ m ↔ _
    rw [ih, hs]
    simp only [List.forall_mem_cons]
    exact ⟨fun ⟨⟨a, b, c⟩, d⟩ => ⟨a, ⟨b, c⟩, d⟩, fun ⟨a, ⟨b, c⟩, d⟩ => ⟨⟨a, b, c⟩, d⟩⟩
theorem meetL_iff (n : Int) : ∀ (l : List R2) (r : R2), ((meetL r l).1 ≤ n ∧ n ≤ (meetL r l).2) ↔ (r.1 ≤ n ∧ n ≤ r.2) ∧ ∀ s ∈ l, s.1 ≤ n ∧ n ≤ s.2
  | [], r => by simp [meetL]
  | s :: l, r => by
    have ih := meetL_iff n l (meet2 r s)
    have hs : ((meet2 r s).1 ≤ n ∧ n ≤ (meet2 r s).2) ↔ (r.1 ≤ n ∧ n ≤ r.2) ∧ (s.1 ≤ n ∧ n ≤ s.2) := by
      unfold meet2
      refine ⟨fun h => ?_, fun h => ?_⟩ <;> revert h <;> (repeat' split) <;> omega
    show ((meetL (meet2 r s) l).1 ≤ n ∧ n ≤ (meetL (meet2 r s) l).2) ↔ _
    rw [ih, hs]
    simp only [List.forall_mem_cons]
    exact ⟨fun ⟨⟨a, b⟩, d⟩ => ⟨a, b, d⟩, fun ⟨a, b, d⟩ => ⟨⟨a, b⟩, d⟩⟩
theorem win_iff (wi n : Int) (sh : List R2) : ((win wi sh).1 ≤ n ∧ n ≤ (win wi sh).2) ↔ ∀ s ∈ conds sh, -wi - s.1 ≤ n ∧ n ≤ wi - s.2 := by
  have key : ∀ l : List R2, l ≠ [] → (((meetAll (l.map (sureOf wi))).1 ≤ n ∧ n ≤ (meetAll (l.map (sureOf wi))).2) ↔ ∀ s ∈ l, -wi - s.1 ≤ n ∧ n ≤ wi - s.2) := by
    intro l hl
    cases l with
    | nil => exact absurd rfl hl
    | cons s l =>
      show ((meetL (sureOf wi s) (l.map (sureOf wi))).1 ≤ n ∧ n ≤ (meetL (sureOf wi s) (l.map (sureOf wi))).2) ↔ _
      rw [meetL_iff]
      simp only [sureOf, List.forall_mem_map, List.forall_mem_cons]
  refine key (conds sh) ?_
  unfold conds
  split
  · simp
  · assumption
theorem worst_iff (J : Jb) (n : Int) (hw : 0 ≤ J.wi) : worstI { J with p1 := n, p2 := n } ({ J with p1 := n, p2 := n } : Jb).tg ≤ J.wi ↔ ((win J.wi J.sh).1 ≤ n ∧ n ≤ (win J.wi J.sh).2) := by
  rw [win_iff]
  show (conds J.sh).foldl (worstStep ({ J with p1 := n, p2 := n } : Jb).tg) 0 ≤ J.wi ↔ _
  rw [foldm_le]
  refine ⟨fun h s hs => ?_, fun h => ⟨hw, fun s hs => ?_⟩⟩
  · have := h.2 s hs
    simp only [Jb.tg] at this
    omega
  · have := h s hs
    simp only [Jb.tg]
    omega
theorem pass_cases (wi : Int) (sh : List R2) (n : Int) : (passI wi sh n n = 1 ∧ ((win wi sh).1 ≤ n ∧ n ≤ (win wi sh).2)) ∨ ((passI wi sh n n = 2 ∨ passI wi sh n n = 3) ∧ ¬ ((win wi sh).1 ≤ n ∧ n ≤ (win wi sh).2)) := by
  unfold passI
  by_cases h : (win wi sh).1 ≤ n ∧ n ≤ (win wi sh).2
  · rw [if_pos h]; exact .inl ⟨rfl, h⟩
  · rw [if_neg h]
    refine .inr ⟨?_, h⟩
    split
    · exact .inl rfl
    · exact .inr rfl

/-- What JobOf is known to hand back. -/
def JobPost (b : Nat) (w : World) (e : Ending) (w' : World) : Prop :=
  ∃ (J : Jb) (a : Option Addr) (n c : Nat), e = .returned (.agg (jobC J (.slice a n c))) ∧ n = J.sh.length ∧ Rg w' w'.heap.size a J.sh ∧ J.check = 0 ∧ (∀ n, -20 ≤ n → n ≤ 20 → ({ J with p1 := n, p2 := n } : Jb).check = 0) ∧
    w'.os = w.os ∧ w'.tape = w.tape ∧ w'.output = w.output ∧ w.heap.size ≤ w'.heap.size ∧ ∀ k, k < w.heap.size → k ≠ b → w'.heap[k]? = w.heap[k]?
end Go.Proofs.Ytkimdnckbdeekaa
