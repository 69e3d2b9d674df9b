/- Contracts of reed.passes and work.fine. -/
import Derived.Test.YtkimdnckbdeekaaWin
import Derived.Test.YtkimdnckbdeekaaSpoil
namespace Go.Proofs.Ytkimdnckbdeekaa
open Go.RowKit

theorem holds_any (a b c d : Int) (w : World) :
    Calls Try.prog 36 #[.agg #[.int .i64 a, .int .i64 b], .agg #[.int .i64 c, .int .i64 d]] w fun e w' => e = .returned (.bool (decide (a ≤ c ∧ d ≤ b))) ∧ (w.alloc (.cells #[.int .i64 a, .int .i64 b] 24)).alloc (.cells #[.int .i64 c, .int .i64 d] 24) = w' := by
  by_cases h : a ≤ c ∧ d ≤ b
  · rw [decide_eq_true h]; exact holds_yes a b c d h w
  · rw [decide_eq_false h]; exact holds_no a b c d h w

set_option maxHeartbeats 1000000 in
set_option maxRecDepth 100000 in
theorem passes_any (J : Jb) (a : Option Addr) (n c : Nat) (w : World) (hJ : J.In 1000) (hn : n = J.sh.length) (h : Rg w w.heap.size a J.sh) :
    Calls Try.prog 19 #[.agg (jobC J (.slice a n c))] w fun e w' => e = .returned (.int .i64 (passI J.wi J.sh J.p1 J.p2)) ∧ Below w.heap.size w w' := by
  have HJ : Hid (J.In 1000) := hJ
  have Hn : Hid (n = J.sh.length) := hn
  have Hh : Hid (Rg w w.heap.size a J.sh) := h
  clear hJ hn h
  have b0 : Bk (w.alloc (.cells (jobC J (.slice a n c)) 31)) w.heap.size 31 (jobC J (.slice a n c)) := Bk.new w _ _
  by_cases h1 : (win J.wi J.sh).1 ≤ J.p1 ∧ J.p2 ≤ (win J.wi J.sh).2
  · have He : Hid (passI J.wi J.sh J.p1 J.p2 = 1) := by show passI J.wi J.sh J.p1 J.p2 = 1; unfold passI; rw [if_pos h1]
    have hd : decide ((win J.wi J.sh).1 ≤ J.p1 ∧ J.p2 ≤ (win J.wi J.sh).2) = true := decide_eq_true h1
    clear h1
    go_enter Try.func19, Try.ntmps19
    go_wp2_with (refine wpList_load_row rfl 31 _ rfl w.heap.size rfl _ (jobC J (.slice a n c)) _ _ b0 Try.underlying31 rfl szJob ?_)
    refine (windows_any J a n c _ HJ.out Hn.out (Hh.out.up ((Below.refl _ _).alloc (Nat.le_refl _) _))).mono ?_
    rintro e w1 ⟨rfl, hb⟩
    have hz := hb.size
    simp only [World.size_alloc] at hz
    have hz' : w.heap.size < w1.heap.size := by omega
    have hz1 : w.heap.size < w1.heap.size + 1 := by omega
    have hz2 : w.heap.size < w1.heap.size + 1 + 1 := by omega
    have hz3 : w.heap.size < w1.heap.size + 1 + 1 + 1 := by omega
    have hz4 : w.heap.size < w1.heap.size + 1 + 1 + 1 + 1 := by omega
    have k0 := b0.below hb (by simp)
    have hB1 : Below w.heap.size w w1 := ((Below.refl _ _).alloc (Nat.le_refl _) _).trans (hb.mono (by simp))
    clear hb b0
    have c0 := k0.at_ 0 _ rfl
    have c1 := k0.at_ 1 _ rfl
    go_wp2_with (go_at_call 36; refine (holds_any _ _ _ _ _).mono ?_; rintro e w2 ⟨rfl, rfl⟩)
    go_ret
    exact ⟨by rw [He.out]; rfl, (((hB1.alloc (by omega) _).alloc (by simp; omega) _).alloc (by simp; omega) _).alloc (by simp; omega) _⟩
  · have hd : decide ((win J.wi J.sh).1 ≤ J.p1 ∧ J.p2 ≤ (win J.wi J.sh).2) = false := decide_eq_false h1
    rcases Bool.eq_false_or_eq_true (decide ((meetL ((pos J.wi J.sh).1, (pos J.wi J.sh).2) [(J.p1, J.p2)]).2 < (meetL ((pos J.wi J.sh).1, (pos J.wi J.sh).2) [(J.p1, J.p2)]).1)) with hv | hv
    · have He : Hid (passI J.wi J.sh J.p1 J.p2 = 2) := by
        show passI J.wi J.sh J.p1 J.p2 = 2
        unfold passI
        rw [if_neg h1]
        have hv' := hv
        simp only [decide_eq_true_eq] at hv'
        have h2 : (meet2 (pos J.wi J.sh) (J.p1, J.p2)).2 < (meet2 (pos J.wi J.sh) (J.p1, J.p2)).1 := hv'
        rw [if_pos h2]
      clear h1
      go_enter Try.func19, Try.ntmps19
      go_wp2_with (refine wpList_load_row rfl 31 _ rfl w.heap.size rfl _ (jobC J (.slice a n c)) _ _ b0 Try.underlying31 rfl szJob ?_)
      refine (windows_any J a n c _ HJ.out Hn.out (Hh.out.up ((Below.refl _ _).alloc (Nat.le_refl _) _))).mono ?_
      rintro e w1 ⟨rfl, hb⟩
      have hz := hb.size
      simp only [World.size_alloc] at hz
      have hz' : w.heap.size < w1.heap.size := by omega
      have hz1 : w.heap.size < w1.heap.size + 1 := by omega
      have hz2 : w.heap.size < w1.heap.size + 1 + 1 := by omega
      have hz3 : w.heap.size < w1.heap.size + 1 + 1 + 1 := by omega
      have hz4 : w.heap.size < w1.heap.size + 1 + 1 + 1 + 1 := by omega
      have k0 := b0.below hb (by simp)
      have hB1 : Below w.heap.size w w1 := ((Below.refl _ _).alloc (Nat.le_refl _) _).trans (hb.mono (by simp))
      clear hb b0
      have c0 := k0.at_ 0 _ rfl
      have c1 := k0.at_ 1 _ rfl
      go_wp2_with (first | (go_at_call 36; refine (holds_any _ _ _ _ _).mono ?_; rintro e w2 ⟨rfl, rfl⟩))
      refine (meet_any _ _ _ _ _ [(J.p1, J.p2)] _ rfl (by simp) ?hrg).mono ?_
      case hrg => exact Rg.of_bk [(J.p1, J.p2)] (Bk.newAt _ _ _ _ (by simp)) (by simp)
      rintro e w3 ⟨rfl, hb3⟩
      go_wp2_with (go_at_call 18; refine (empty_any _ _ _).mono ?_; rintro e w4 ⟨rfl, rfl⟩)
      go_ret
      refine ⟨by rw [He.out]; rfl, ?_⟩
      exact ((((((hB1.alloc (by omega) _).alloc (by simp; omega) _).alloc (by simp; omega) _).alloc (by simp; omega) _).alloc (by simp; omega) _).trans (hb3.mono (by simp; omega))).alloc (by have := hb3.size; simp at this; omega) _
    · have He : Hid (passI J.wi J.sh J.p1 J.p2 = 3) := by
        show passI J.wi J.sh J.p1 J.p2 = 3
        unfold passI
        rw [if_neg h1]
        have hv' := hv
        simp only [decide_eq_false_iff_not] at hv'
        have h2 : ¬ (meet2 (pos J.wi J.sh) (J.p1, J.p2)).2 < (meet2 (pos J.wi J.sh) (J.p1, J.p2)).1 := hv'
        rw [if_neg h2]
      clear h1
      go_enter Try.func19, Try.ntmps19
      go_wp2_with (refine wpList_load_row rfl 31 _ rfl w.heap.size rfl _ (jobC J (.slice a n c)) _ _ b0 Try.underlying31 rfl szJob ?_)
      refine (windows_any J a n c _ HJ.out Hn.out (Hh.out.up ((Below.refl _ _).alloc (Nat.le_refl _) _))).mono ?_
      rintro e w1 ⟨rfl, hb⟩
      have hz := hb.size
      simp only [World.size_alloc] at hz
      have hz' : w.heap.size < w1.heap.size := by omega
      have hz1 : w.heap.size < w1.heap.size + 1 := by omega
      have hz2 : w.heap.size < w1.heap.size + 1 + 1 := by omega
      have hz3 : w.heap.size < w1.heap.size + 1 + 1 + 1 := by omega
      have hz4 : w.heap.size < w1.heap.size + 1 + 1 + 1 + 1 := by omega
      have k0 := b0.below hb (by simp)
      have hB1 : Below w.heap.size w w1 := ((Below.refl _ _).alloc (Nat.le_refl _) _).trans (hb.mono (by simp))
      clear hb b0
      have c0 := k0.at_ 0 _ rfl
      have c1 := k0.at_ 1 _ rfl
      go_wp2_with (first | (go_at_call 36; refine (holds_any _ _ _ _ _).mono ?_; rintro e w2 ⟨rfl, rfl⟩))
      refine (meet_any _ _ _ _ _ [(J.p1, J.p2)] _ rfl (by simp) ?hrg).mono ?_
      case hrg => exact Rg.of_bk [(J.p1, J.p2)] (Bk.newAt _ _ _ _ (by simp)) (by simp)
      rintro e w3 ⟨rfl, hb3⟩
      go_wp2_with (go_at_call 18; refine (empty_any _ _ _).mono ?_; rintro e w4 ⟨rfl, rfl⟩)
      go_ret
      refine ⟨by rw [He.out]; rfl, ?_⟩
      exact ((((((hB1.alloc (by omega) _).alloc (by simp; omega) _).alloc (by simp; omega) _).alloc (by simp; omega) _).alloc (by simp; omega) _).trans (hb3.mono (by simp; omega))).alloc (by have := hb3.size; simp at this; omega) _
end Go.Proofs.Ytkimdnckbdeekaa
