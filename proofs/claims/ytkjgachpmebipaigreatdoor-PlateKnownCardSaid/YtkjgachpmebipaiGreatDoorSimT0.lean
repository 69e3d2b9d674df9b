import Derived.Test.YtkjgachpmebipaiGreatDoorSimS2
namespace Go.Sim
set_option linter.all false
open Go
variable [Rho] [Asm] [SymOK]

theorem beforeL_ok : ∀ {l : List Oper} {j : Nat} {acc R : List Nat}, CheckFast.beforeL l j acc = R → acc.length = j →
    R.length = j + l.length ∧ (∀ i, i < j → R[i]? = acc.reverse[i]?) ∧ ∀ (i : Nat) (o : Oper), l[i]? = some o → R[j + i]? = some (CheckFast.one (fun x => if x < j + i then R.getD x 0 else 0) o)
  | [], j, acc, R, h, hj => by
    simp only [CheckFast.beforeL] at h
    subst h
    exact ⟨by simp [hj], fun i _ => rfl, fun i o h => by simp at h⟩
  | o :: l, j, acc, R, h, hj => by
    simp only [CheckFast.beforeL, CheckFast.force_eq] at h
    obtain ⟨q1, q2, q3⟩ := beforeL_ok h (by simp [hj])
    have old : ∀ i, i < j → R[i]? = acc.reverse[i]? := fun i hi => by
      rw [q2 i (by omega), List.reverse_cons, List.getElem?_append_left (by simp; omega)]
    refine ⟨by rw [q1]; simp; omega, old, fun i o' hi => ?_⟩
    cases i with
    | zero =>
      simp at hi
      subst hi
      rw [Nat.add_zero, q2 j (by omega), List.reverse_cons, List.getElem?_append_right (by simp; omega)]
      simp only [List.length_reverse, hj, Nat.sub_self, List.getElem?_cons_zero]
      congr 2
      funext x
      split
      · rename_i hx
        rw [List.getD_eq_getElem?_getD, List.getD_eq_getElem?_getD, old x hx, List.getElem?_reverse (by omega)]
        congr 3
        omega
      · rfl
    | succ i =>
      have := q3 i o' (by simpa using hi)
      rw [Nat.add_right_comm] at this
      exact this
theorem before_ok {ops : Array Oper} {bl : List Nat} (h : CheckFast.beforeL ops.toList 0 [] = bl) : bl.length = ops.size ∧ ∀ (i : Nat) (o : Oper) (m : Nat), ops[i]? = some o → bl[i]? = some m →
    (∀ e ∈ o.after, Region.binds .any e = true → m.testBit e.on = true) ∧ ∀ k, m.testBit k = true → ∃ e ∈ o.after, Region.binds .any e = true ∧ (e.on = k ∨ ∃ m', bl[e.on]? = some m' ∧ m'.testBit k = true) := by
  obtain ⟨q1, _, q3⟩ := beforeL_ok h rfl
  refine ⟨by simpa using q1, fun i o m ho hm => ?_⟩
  have h1 := q3 i o (by rw [Array.getElem?_toList]; exact ho)
  rw [Nat.zero_add] at h1
  rw [hm] at h1
  cases h1
  constructor
  · intro e he hb
    rw [one_bit]
    exact ⟨e, he, hb, .inl rfl⟩
  · intro k hk
    rw [one_bit] at hk
    obtain ⟨e, he, hb, hk⟩ := hk
    refine ⟨e, he, hb, hk.imp id fun hk => ?_⟩
    split at hk
    · rw [List.getD_eq_getElem?_getD] at hk
      cases hq : bl[e.on]? with
      | none => rw [hq] at hk; simp at hk
      | some m' => rw [hq] at hk; exact ⟨m', rfl, hk⟩
    · simp at hk
end Go.Sim
