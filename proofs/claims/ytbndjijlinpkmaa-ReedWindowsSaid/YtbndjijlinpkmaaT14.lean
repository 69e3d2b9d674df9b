/- Part 14 of the proof: RefA, RefB. -/
import Derived.Test.YtbndjijlinpkmaaT10
/- Contracts of the small functions of the reference of layer 1. -/
namespace Go.Proofs.Ytbndjijlinpkmaa
set_option linter.all false
open Go.RowKit

theorem among_any (n lo hi : Int) (w : World) :
    Calls Try.prog 48 #[.int .i64 n, .int .i64 lo, .int .i64 hi] w fun e w' => e = .returned (.bool (numE n lo hi == 0)) ∧ w' = w := by
  by_cases h1 : n < lo
  · have H : Hid ((numE n lo hi == 0) = false) := by show (numE n lo hi == 0) = false; simp [numE, h1]
    go_enter Try.func48, Try.ntmps48
    go_wp2
    go_ret
    exact ⟨by rw [H.out]; rfl, rfl⟩
  · by_cases h2 : hi < n
    · have H : Hid ((numE n lo hi == 0) = false) := by show (numE n lo hi == 0) = false; simp [numE, h2]
      have hd : decide (n ≤ hi) = false := decide_eq_false (by omega)
      go_enter Try.func48, Try.ntmps48
      go_wp2
      go_ret
      exact ⟨by rw [H.out]; rfl, rfl⟩
    · have H : Hid ((numE n lo hi == 0) = true) := by show (numE n lo hi == 0) = true; simp [numE, h1, h2]
      go_enter Try.func48, Try.ntmps48
      go_wp2
      go_ret
      exact ⟨by rw [H.out]; rfl, rfl⟩
theorem rngE_split (a b lo hi : Int) : rngE a b lo hi = if (numE a lo hi == 0) = true then (if (numE b lo hi == 0) = true then (if b < a then 5 else 0) else 1) else 1 := by
  unfold rngE numE
  by_cases h1 : a < lo ∨ hi < a <;> by_cases h2 : b < lo ∨ hi < b <;> simp [h1, h2]
theorem refRange_any (a b lo hi : Int) (w : World) :
    Calls Try.prog 53 #[.agg #[.int .i64 a, .int .i64 b], .int .i64 lo, .int .i64 hi] w fun e w' => e = .returned (.int .i64 (rngE a b lo hi)) ∧ Below w.heap.size w w' := by
  have Hr := hidMk (rngE_split a b lo hi)
  cases h1 : (numE a lo hi == 0)
  · have H : Hid (rngE a b lo hi = 1) := by show rngE a b lo hi = 1; rw [Hr.out, h1]; rfl
    go_enter Try.func53, Try.ntmps53
    go_wp2_with (go_at_call 48; refine (among_any _ _ _ _).mono ?_; rintro e w' ⟨rfl, rfl⟩)
    go_ret
    exact ⟨by rw [H.out]; rfl, (Below.refl _ _).alloc (Nat.le_refl _) _⟩
  · cases h2 : (numE b lo hi == 0)
    · have H : Hid (rngE a b lo hi = 1) := by show rngE a b lo hi = 1; rw [Hr.out, h1, h2]; rfl
      go_enter Try.func53, Try.ntmps53
      go_wp2_with (go_at_call 48; refine (among_any _ _ _ _).mono ?_; rintro e w' ⟨rfl, rfl⟩)
      go_ret
      exact ⟨by rw [H.out]; rfl, (Below.refl _ _).alloc (Nat.le_refl _) _⟩
    · by_cases h3 : b < a
      · have H : Hid (rngE a b lo hi = 5) := by show rngE a b lo hi = 5; rw [Hr.out, h1, h2, if_pos h3]; rfl
        go_enter Try.func53, Try.ntmps53
        go_wp2_with (go_at_call 48; refine (among_any _ _ _ _).mono ?_; rintro e w' ⟨rfl, rfl⟩)
        go_ret
        exact ⟨by rw [H.out]; rfl, (Below.refl _ _).alloc (Nat.le_refl _) _⟩
      · have H : Hid (rngE a b lo hi = 0) := by show rngE a b lo hi = 0; rw [Hr.out, h1, h2, if_neg h3]; rfl
        go_enter Try.func53, Try.ntmps53
        go_wp2_with (go_at_call 48; refine (among_any _ _ _ _).mono ?_; rintro e w' ⟨rfl, rfl⟩)
        go_ret
        exact ⟨by rw [H.out]; rfl, (Below.refl _ _).alloc (Nat.le_refl _) _⟩
theorem inside_any (a b c d : Int) (w : World) :
    Calls Try.prog 73 #[.agg #[.int .i64 a, .int .i64 b], .agg #[.int .i64 c, .int .i64 d]] w fun e w' => e = .returned (.bool (decide (c ≤ a ∧ b ≤ d))) ∧ Below w.heap.size w w' := by
  by_cases h1 : c ≤ a
  · by_cases h2 : b ≤ d
    · rw [decide_eq_true ⟨h1, h2⟩]
      go_enter Try.func73, Try.ntmps73
      go_wp2
      go_ret
      exact ⟨rfl, ((Below.refl _ _).alloc (Nat.le_refl _) _).alloc (by simp) _⟩
    · rw [decide_eq_false (fun h => h2 h.2)]
      go_enter Try.func73, Try.ntmps73
      go_wp2
      go_ret
      exact ⟨rfl, ((Below.refl _ _).alloc (Nat.le_refl _) _).alloc (by simp) _⟩
  · rw [decide_eq_false (fun h => h1 h.1)]
    go_enter Try.func73, Try.ntmps73
    go_wp2
    go_ret
    exact ⟨rfl, ((Below.refl _ _).alloc (Nat.le_refl _) _).alloc (by simp) _⟩
theorem refHeard_any (a b r m : Int) (w : World) (h : -100000 ≤ r ∧ r ≤ 100000 ∧ -100000 ≤ m ∧ m ≤ 100000) :
    Calls Try.prog 49 #[.agg #[.int .i64 a, .int .i64 b], .int .i64 r, .int .i64 m] w fun e w' => e = .returned (.agg #[.int .i64 (heardR a b r m).1, .int .i64 (heardR a b r m).2]) ∧ Below w.heap.size w w' := by
  obtain ⟨h1, h2, h3, h4⟩ := h
  have key : ∀ p q : Int, p = (heardR a b r m).1 → q = (heardR a b r m).2 → ∀ w', Below w.heap.size w w' → (Ending.returned (.agg #[.int .i64 p, .int .i64 q]) = .returned (.agg #[.int .i64 (heardR a b r m).1, .int .i64 (heardR a b r m).2]) ∧ Below w.heap.size w w') := by
    rintro p q rfl rfl w' hb
    exact ⟨rfl, hb⟩
  have Key := hidMk key
  clear key
  have hB : ∀ p q : Int, Below w.heap.size w ((w.alloc (.cells #[.int .i64 a, .int .i64 b] 23)).alloc (.cells #[.int .i64 p, .int .i64 q] 23)) := fun p q => ((Below.refl _ _).alloc (Nat.le_refl _) _).alloc (by simp) _
  have HB := hidMk hB
  clear hB
  by_cases c1 : a < r - m <;> by_cases c2 : r + m < b
  all_goals
    go_enter Try.func49, Try.ntmps49
    go_wp2
    refine bodyPost_ret (v := .agg #[.int .i64 _, .int .i64 _]) (by simp [results, Try.results49, go_sem]; first | exact ⟨rfl, rfl⟩ | rfl) rfl (Key.out _ _ (by unfold heardR meet2; simp only; split <;> omega) (by unfold heardR meet2; simp only; split <;> omega) _ (HB.out _ _))
end Go.Proofs.Ytbndjijlinpkmaa
/- Contracts of the reference's checks, windows and shifts. -/
namespace Go.Proofs.Ytbndjijlinpkmaa
set_option linter.all false
open Go.RowKit

/-- The first error of several ranges. -/
def allE (lo hi : Int) : List R2 → Int
  | [] => 0
  | s :: l => if rngE s.1 s.2 lo hi = 0 then allE lo hi l else rngE s.1 s.2 lo hi
theorem allE_sh : ∀ l : List R2, allE (-60) 60 l = shE l
  | [] => rfl
  | s :: l => by unfold allE shE; rw [allE_sh l]
set_option maxHeartbeats 1000000 in
set_option maxRecDepth 100000 in
theorem checkAll_any (a : Option Addr) (n c : Nat) (l : List R2) (lo hi : Int) (w : World) (hn : n = l.length) (hm : n ≤ 9223372036854775807) (h : Rg w w.heap.size a l) :
    Calls Try.prog 54 #[.slice a n c, .int .i64 lo, .int .i64 hi] w fun e w' => e = .returned (.int .i64 (allE lo hi l)) ∧ Below w.heap.size w w' := by
  have Hn := hidMk hn
  have Hh := hidMk h
  clear hn h
  go_enter Try.func54, Try.ntmps54
  go_wp2_with fail
  go_loopw [7, 8] (fun i _ wr => ∃ k : Nat, k ≤ n ∧ i = .int .i64 k ∧ Hid (allE lo hi l = allE lo hi (l.drop k)) ∧ Below w.heap.size w wr) (fun i _ _ => n - (intOf i).toNat)
  case atStart => exact ⟨0, Nat.zero_le _, rfl, rfl, Below.refl _ _⟩
  case round =>
    obtain ⟨k, hk, rfl, Hf, hB⟩ := hrel
    have hz := hB.size
    by_cases hlt : k < n
    · have hkl : k < l.length := by rw [← Hn.out]; exact hlt
      obtain ⟨b, off, rfl, hbl, e0, e1⟩ := Hh.out k l[k] (List.getElem?_eq_getElem hkl)
      replace e0 := (hB.cell (p := ⟨b, off + k * 2, none⟩) hbl).trans e0
      replace e1 := (hB.cell (p := ⟨b, off + k * 2 + 1, none⟩) hbl).trans e1
      have hbl' : b < wr.heap.size := by omega
      have Hd : Hid (l.drop k = l[k] :: l.drop (k + 1)) := List.drop_eq_getElem_cons hkl
      obtain ⟨s, Hs⟩ : ∃ s, Hid (s = l[k]) := ⟨_, hidMk rfl⟩
      rw [← Hs.out] at e0 e1 Hd
      by_cases hz0 : rngE s.1 s.2 lo hi = 0
      · have hz1 : (rngE s.1 s.2 lo hi != 0) = false := by simp [hz0]
        have Hz := hidMk hz0
        clear hz0
        go_wp2_with (go_at_call 53; refine (refRange_any _ _ _ _ _).mono ?_; rintro e w2 ⟨rfl, hb⟩)
        go_roundw
        case rel => exact ⟨k + 1, by omega, by go_num, by show allE lo hi l = _; rw [Hf.out, Hd.out, allE, if_pos Hz.out], hB.trans (hb.mono (by omega))⟩
        case measure => simp [intOf]; omega
      · have hz1 : (rngE s.1 s.2 lo hi != 0) = true := by simp [hz0]
        have Hz := hidMk hz0
        clear hz0
        go_wp2_with (go_at_call 53; refine (refRange_any _ _ _ _ _).mono ?_; rintro e w2 ⟨rfl, hb⟩)
        go_ret
        exact ⟨ret_i (by rw [Hf.out, Hd.out, allE, if_neg Hz.out]), hB.trans (hb.mono (by omega))⟩
    · obtain rfl : k = n := by omega
      go_wp2_with fail
      go_ret
      exact ⟨ret_i (by rw [Hf.out, List.drop_of_length_le (by rw [← Hn.out]; omega)]; rfl), hB⟩
end Go.Proofs.Ytbndjijlinpkmaa
