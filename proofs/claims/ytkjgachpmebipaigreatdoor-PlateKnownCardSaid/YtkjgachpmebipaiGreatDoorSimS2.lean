import Derived.Test.YtkjgachpmebipaiGreatDoorSimS
/- Another order than the written one. -/
namespace Go.Sim
set_option linter.all false
open Go
variable [Rho] [Asm] [SymOK]

theorem rmask_bit {p : List Nat} {m : Nat} : ∀ (n k : Nat), (rmask p m n).testBit k = (decide (k < n) && m.testBit (pm p k))
  | 0, k => by simp [rmask]
  | n + 1, k => by
    have ih := rmask_bit (p := p) (m := m) n k
    simp only [rmask]
    split
    · rename_i h
      show ((rmask p m n) ||| 2 ^ n).testBit k = _
      rw [Nat.testBit_or, ih, Nat.testBit_two_pow]
      by_cases hk : k = n
      · subst hk; simp [h]
      · have e1 : decide (k < n + 1) = decide (k < n) := by simp only [decide_eq_decide]; omega
        have e2 : decide (n = k) = false := by simp only [decide_eq_false_iff_not]; omega
        rw [e1, e2, Bool.or_false]
    · rename_i h
      rw [ih]
      by_cases hk : k = n
      · subst hk; simp [h]
      · have e1 : decide (k < n + 1) = decide (k < n) := by simp only [decide_eq_decide]; omega
        rw [e1]
theorem permL_ok {l : List (Ins × Nat)} {p : List Nat} {n : Nat} : ∀ {r : List Nat} {l' : List (Ins × Nat)}, permL l p n r = some l' → l'.length = r.length ∧ ∀ (k : Nat) (x : Ins × Nat), l'[k]? = some x → ∃ (j : Nat) (a : Ins × Nat), r[k]? = some j ∧ l[j]? = some a ∧ x = (a.1, rmask p a.2 n)
  | [], l', h => by simp only [permL, Option.some.injEq] at h; subst h; exact ⟨rfl, fun k x h => by simp at h⟩
  | j :: r, l', h => by
    simp only [permL] at h
    split at h
    · cases h
    · rename_i a ha
      split at h
      · cases h
      · rename_i s hs
        cases h
        obtain ⟨q1, q2⟩ := permL_ok hs
        refine ⟨by simp [q1], fun k x hk => ?_⟩
        cases k with
        | zero => simp at hk; subst hk; exact ⟨j, a, by simp, ha, rfl⟩
        | succ k => simpa using q2 k x (by simpa using hk)

/-- What is told of an order: where each operation stands (π), and back (σ). -/
structure Laid (l : List (Ins × Nat)) (dl : List DI) (π σ : Nat → Nat) : Prop where
  len : dl.length = l.length
  left : ∀ i, σ (π i) = i
  right : ∀ i, π (σ i) = i
  lt : ∀ i, i < l.length → π i < l.length
  lt' : ∀ i, i < l.length → σ i < l.length
  get : ∀ (i : Nat) (d : DI), dl[i]? = some d → ∃ m, l[π i]? = some (d.io, m) ∧ m < 2 ^ l.length ∧ ∀ k, d.m.testBit k = (decide (k < l.length) && m.testBit (π k))
  told : Told dl

theorem drawP_ok {l : List (Ins × Nat)} {dl : List DI} (h : drawP l = some dl) : ∃ π σ, Laid l dl π σ := by
  unfold drawP at h
  generalize lateA 0 l [] = p at h
  simp only at h
  generalize (List.range l.length).map (fun i => p.findIdx (Nat.beq i)) = q at h
  split at h
  · rename_i l' h1 h2
    simp only [Bool.and_eq_true] at h1
    obtain ⟨hp, hm⟩ := h1
    simp only [permOK, Bool.and_eq_true, List.all_eq_true, List.mem_range] at hp
    obtain ⟨⟨hl1, hl2⟩, hp⟩ := hp
    have hl1 := beqN hl1
    have hl2 := beqN hl2
    obtain ⟨q1, q2⟩ := permL_ok h2
    obtain ⟨d1, d2, told⟩ := drawI_ok h
    have out : ∀ (r : List Nat), r.length = l.length → ∀ i, ¬ i < l.length → pm r i = i := fun r hr i hi => by
      unfold pm
      rw [List.getElem?_eq_none (by omega)]
    have hlen : dl.length = l.length := by rw [d1, q1, hl1]
    refine ⟨pm p, pm q, hlen, fun i => ?_, fun i => ?_, fun i hi => blt_true (hp i hi).1.2, fun i hi => blt_true (hp i hi).2, fun i d hd => ?_, told⟩
    · by_cases hi : i < l.length
      · exact beqN (hp i hi).1.1.1
      · rw [out p hl1 i hi, out q hl2 i hi]
    · by_cases hi : i < l.length
      · exact beqN (hp i hi).1.1.2
      · rw [out q hl2 i hi, out p hl1 i hi]
    · obtain ⟨j, a, e1, e2, e3⟩ := q2 i _ (d2 i d hd)
      simp only [Prod.mk.injEq] at e3
      refine ⟨a.2, ?_, ?_, fun k => ?_⟩
      · unfold pm; rw [e1, e3.1]; exact e2
      · exact blt_true (List.all_eq_true.1 hm a (List.mem_of_getElem? e2))
      · rw [e3.2]; exact rmask_bit _ _
  · cases h
theorem drawA_ok {l : List (Ins × Nat)} {dl : List DI} (h : drawA l = some dl) : ∃ π σ, Laid l dl π σ := by
  unfold drawA at h
  split at h
  · rename_i d hd
    cases h
    obtain ⟨d1, d2, told⟩ := drawI_ok hd
    refine ⟨id, id, d1, fun _ => rfl, fun _ => rfl, fun _ h => h, fun _ h => h, fun i e he => ?_, told⟩
    have hi : i < l.length := by rw [← d1]; exact (List.getElem?_eq_some_iff.1 he).1
    have hlt := told.lt i e he
    refine ⟨e.m, d2 i e he, Nat.lt_of_lt_of_le hlt (Nat.pow_le_pow_right (by omega) (by omega)), fun k => ?_⟩
    by_cases hk : k < l.length
    · simp [hk]
    · have : e.m.testBit k = false := Nat.testBit_lt_two_pow (Nat.lt_of_lt_of_le hlt (Nat.pow_le_pow_right (by omega) (by omega)))
      simp [this]
  · exact drawP_ok h
end Go.Sim
