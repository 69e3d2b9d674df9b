/- Part 17 of the proof: RefB. -/
import Derived.Test.YtdficjnnlaicpaaT16
/- Contracts of the reference's checks, windows and shifts. -/
namespace Go.Proofs.Ytdficjnnlaicpaa
set_option linter.all false
open Go.RowKit

/-- The first error of several ranges. -/
def allE (lo hi : Int) : List R2 → Int
  | [] => 0
  | s :: l => if rngE s.1 s.2 lo hi = 0 then allE lo hi l else rngE s.1 s.2 lo hi
theorem allE_sh : ∀ l : List R2, allE (-60) 60 l = shE l
  | [] => rfl
  | s :: l => by unfold allE shE; rw [allE_sh l]
set_option maxHeartbeats 1000000 in
set_option maxRecDepth 100000 in
theorem checkAll_any (a : Option Addr) (n c : Nat) (l : List R2) (lo hi : Int) (w : World) (hn : n = l.length) (hm : n ≤ 9223372036854775807) (h : Rg w w.heap.size a l) :
    Calls Try.prog 54 #[.slice a n c, .int .i64 lo, .int .i64 hi] w fun e w' => e = .returned (.int .i64 (allE lo hi l)) ∧ Below w.heap.size w w' := by
  have Hn := hidMk hn
  have Hh := hidMk h
  clear hn h
  go_enter Try.func54, Try.ntmps54
  go_wp2_with fail
  go_loopw [7, 8] (fun i _ wr => ∃ k : Nat, k ≤ n ∧ i = .int .i64 k ∧ Hid (allE lo hi l = allE lo hi (l.drop k)) ∧ Below w.heap.size w wr) (fun i _ _ => n - (intOf i).toNat)
  case atStart => exact ⟨0, Nat.zero_le _, rfl, rfl, Below.refl _ _⟩
  case round =>
    obtain ⟨k, hk, rfl, Hf, hB⟩ := hrel
    have hz := hB.size
    by_cases hlt : k < n
    · have hkl : k < l.length := by rw [← Hn.out]; exact hlt
      obtain ⟨b, off, rfl, hbl, e0, e1⟩ := Hh.out k l[k] (List.getElem?_eq_getElem hkl)
      replace e0 := (hB.cell (p := ⟨b, off + k * 2, none⟩) hbl).trans e0
      replace e1 := (hB.cell (p := ⟨b, off + k * 2 + 1, none⟩) hbl).trans e1
      have hbl' : b < wr.heap.size := by omega
      have Hd : Hid (l.drop k = l[k] :: l.drop (k + 1)) := List.drop_eq_getElem_cons hkl
      obtain ⟨s, Hs⟩ : ∃ s, Hid (s = l[k]) := ⟨_, hidMk rfl⟩
      rw [← Hs.out] at e0 e1 Hd
      by_cases hz0 : rngE s.1 s.2 lo hi = 0
      · have hz1 : (rngE s.1 s.2 lo hi != 0) = false := by simp [hz0]
        have Hz := hidMk hz0
        clear hz0
        go_wp2_with (go_at_call 53; refine (refRange_any _ _ _ _ _).mono ?_; rintro e w2 ⟨rfl, hb⟩)
        go_roundw
        case rel => exact ⟨k + 1, by omega, by go_num, by show allE lo hi l = _; rw [Hf.out, Hd.out, allE, if_pos Hz.out], hB.trans (hb.mono (by omega))⟩
        case measure => simp [intOf]; omega
      · have hz1 : (rngE s.1 s.2 lo hi != 0) = true := by simp [hz0]
        have Hz := hidMk hz0
        clear hz0
        go_wp2_with (go_at_call 53; refine (refRange_any _ _ _ _ _).mono ?_; rintro e w2 ⟨rfl, hb⟩)
        go_ret
        exact ⟨ret_i (by rw [Hf.out, Hd.out, allE, if_neg Hz.out]), hB.trans (hb.mono (by omega))⟩
    · obtain rfl : k = n := by omega
      go_wp2_with fail
      go_ret
      exact ⟨ret_i (by rw [Hf.out, List.drop_of_length_le (by rw [← Hn.out]; omega)]; rfl), hB⟩
end Go.Proofs.Ytdficjnnlaicpaa
