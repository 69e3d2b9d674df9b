/- Part 16 of the proof: RefA. -/
import Derived.Test.YtdficjnnlaicpaaT11
/- Contracts of the small functions of the reference of layer 1. -/
namespace Go.Proofs.Ytdficjnnlaicpaa
set_option linter.all false
open Go.RowKit

theorem among_any (n lo hi : Int) (w : World) :
    Calls Try.prog 48 #[.int .i64 n, .int .i64 lo, .int .i64 hi] w fun e w' => e = .returned (.bool (numE n lo hi == 0)) ∧ w' = w := by
  by_cases h1 : n < lo
  · have H : Hid ((numE n lo hi == 0) = false) := by show (numE n lo hi == 0) = false; simp [numE, h1]
    go_enter Try.func48, Try.ntmps48
    go_wp2
    go_ret
    exact ⟨by rw [H.out]; rfl, rfl⟩
  · by_cases h2 : hi < n
    · have H : Hid ((numE n lo hi == 0) = false) := by show (numE n lo hi == 0) = false; simp [numE, h2]
      have hd : decide (n ≤ hi) = false := decide_eq_false (by omega)
      go_enter Try.func48, Try.ntmps48
      go_wp2
      go_ret
      exact ⟨by rw [H.out]; rfl, rfl⟩
    · have H : Hid ((numE n lo hi == 0) = true) := by show (numE n lo hi == 0) = true; simp [numE, h1, h2]
      go_enter Try.func48, Try.ntmps48
      go_wp2
      go_ret
      exact ⟨by rw [H.out]; rfl, rfl⟩
theorem rngE_split (a b lo hi : Int) : rngE a b lo hi = if (numE a lo hi == 0) = true then (if (numE b lo hi == 0) = true then (if b < a then 5 else 0) else 1) else 1 := by
  unfold rngE numE
  by_cases h1 : a < lo ∨ hi < a <;> by_cases h2 : b < lo ∨ hi < b <;> simp [h1, h2]
theorem refRange_any (a b lo hi : Int) (w : World) :
    Calls Try.prog 53 #[.agg #[.int .i64 a, .int .i64 b], .int .i64 lo, .int .i64 hi] w fun e w' => e = .returned (.int .i64 (rngE a b lo hi)) ∧ Below w.heap.size w w' := by
  have Hr := hidMk (rngE_split a b lo hi)
  cases h1 : (numE a lo hi == 0)
  · have H : Hid (rngE a b lo hi = 1) := by show rngE a b lo hi = 1; rw [Hr.out, h1]; rfl
    go_enter Try.func53, Try.ntmps53
    go_wp2_with (go_at_call 48; refine (among_any _ _ _ _).mono ?_; rintro e w' ⟨rfl, rfl⟩)
    go_ret
    exact ⟨by rw [H.out]; rfl, (Below.refl _ _).alloc (Nat.le_refl _) _⟩
  · cases h2 : (numE b lo hi == 0)
    · have H : Hid (rngE a b lo hi = 1) := by show rngE a b lo hi = 1; rw [Hr.out, h1, h2]; rfl
      go_enter Try.func53, Try.ntmps53
      go_wp2_with (go_at_call 48; refine (among_any _ _ _ _).mono ?_; rintro e w' ⟨rfl, rfl⟩)
      go_ret
      exact ⟨by rw [H.out]; rfl, (Below.refl _ _).alloc (Nat.le_refl _) _⟩
    · by_cases h3 : b < a
      · have H : Hid (rngE a b lo hi = 5) := by show rngE a b lo hi = 5; rw [Hr.out, h1, h2, if_pos h3]; rfl
        go_enter Try.func53, Try.ntmps53
        go_wp2_with (go_at_call 48; refine (among_any _ _ _ _).mono ?_; rintro e w' ⟨rfl, rfl⟩)
        go_ret
        exact ⟨by rw [H.out]; rfl, (Below.refl _ _).alloc (Nat.le_refl _) _⟩
      · have H : Hid (rngE a b lo hi = 0) := by show rngE a b lo hi = 0; rw [Hr.out, h1, h2, if_neg h3]; rfl
        go_enter Try.func53, Try.ntmps53
        go_wp2_with (go_at_call 48; refine (among_any _ _ _ _).mono ?_; rintro e w' ⟨rfl, rfl⟩)
        go_ret
        exact ⟨by rw [H.out]; rfl, (Below.refl _ _).alloc (Nat.le_refl _) _⟩
theorem inside_any (a b c d : Int) (w : World) :
    Calls Try.prog 73 #[.agg #[.int .i64 a, .int .i64 b], .agg #[.int .i64 c, .int .i64 d]] w fun e w' => e = .returned (.bool (decide (c ≤ a ∧ b ≤ d))) ∧ Below w.heap.size w w' := by
  by_cases h1 : c ≤ a
  · by_cases h2 : b ≤ d
    · rw [decide_eq_true ⟨h1, h2⟩]
      go_enter Try.func73, Try.ntmps73
      go_wp2
      go_ret
      exact ⟨rfl, ((Below.refl _ _).alloc (Nat.le_refl _) _).alloc (by simp) _⟩
    · rw [decide_eq_false (fun h => h2 h.2)]
      go_enter Try.func73, Try.ntmps73
      go_wp2
      go_ret
      exact ⟨rfl, ((Below.refl _ _).alloc (Nat.le_refl _) _).alloc (by simp) _⟩
  · rw [decide_eq_false (fun h => h1 h.1)]
    go_enter Try.func73, Try.ntmps73
    go_wp2
    go_ret
    exact ⟨rfl, ((Below.refl _ _).alloc (Nat.le_refl _) _).alloc (by simp) _⟩
end Go.Proofs.Ytdficjnnlaicpaa
