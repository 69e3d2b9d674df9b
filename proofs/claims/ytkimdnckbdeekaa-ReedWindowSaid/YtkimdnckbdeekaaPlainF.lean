/- The contracts of reed.Passes and Worst on jobs that are valid, of In, and of work.worst. -/
import Derived.Test.YtkimdnckbdeekaaFiled
import Derived.Test.YtkimdnckbdeekaaPass
namespace Go.Proofs.Ytkimdnckbdeekaa
set_option linter.all false
open Go.RowKit

theorem in_any (a b n : Int) (w : World) :
    Calls Try.prog 10 #[.agg #[.int .i64 a, .int .i64 b], .int .i64 n] w fun e w' => e = .returned (.bool (decide (a ≤ n ∧ n ≤ b))) ∧ Below w.heap.size w w' := by
  by_cases h1 : a ≤ n
  · by_cases h2 : n ≤ b
    · rw [decide_eq_true ⟨h1, h2⟩]
      go_enter Try.func10, Try.ntmps10
      go_wp2
      go_ret
      exact ⟨rfl, (Below.refl _ _).alloc (Nat.le_refl _) _⟩
    · rw [decide_eq_false (fun h => h2 h.2)]
      go_enter Try.func10, Try.ntmps10
      go_wp2
      go_ret
      exact ⟨rfl, (Below.refl _ _).alloc (Nat.le_refl _) _⟩
  · rw [decide_eq_false (fun h => h1 h.1)]
    go_enter Try.func10, Try.ntmps10
    go_wp2
    go_ret
    exact ⟨rfl, (Below.refl _ _).alloc (Nat.le_refl _) _⟩

set_option maxHeartbeats 1000000 in
set_option maxRecDepth 100000 in
theorem passesF_ok (J : Jb) (hc : J.check = 0) (a : Option Addr) (n c : Nat) (w : World) (hn : n = J.sh.length) (hm : n ≤ 9223372036854775807) (h : Rg w w.heap.size a J.sh) :
    Calls Try.prog 8 #[.agg (jobC J (.slice a n c))] w fun e w' => e = .returned (.tuple #[.int .i64 (passI J.wi J.sh J.p1 J.p2), .int .i64 0]) ∧ Below w.heap.size w w' := by
  have Hn : Hid (n = J.sh.length) := hn
  have Hh : Hid (Rg w w.heap.size a J.sh) := h
  have HJ := hidMk ((check_ok hc).inn.mono (by decide : (100 : Int) ≤ 1000))
  have hcb : (J.check != 0) = false := by simp [hc]
  clear hn h hc
  have b0 : Bk (w.alloc (.cells (jobC J (.slice a n c)) 31)) w.heap.size 31 (jobC J (.slice a n c)) := Bk.new w _ _
  have hW : Below w.heap.size w (w.alloc (.cells (jobC J (.slice a n c)) 31)) := (Below.refl _ _).alloc (Nat.le_refl _) _
  go_enter Try.func8, Try.ntmps8
  go_wp2_with (refine wpList_load_row rfl 31 _ rfl w.heap.size rfl _ (jobC J (.slice a n c)) _ _ b0 Try.underlying31 rfl szJob ?_)
  refine (check_any J a n c _ Hn.out hm (Hh.out.up hW)).mono ?_
  rintro e w1 ⟨rfl, hb1⟩
  have hz1 := hb1.size
  simp only [World.size_alloc] at hz1
  have k0 := b0.below hb1 (by simp)
  have hB1 : Below w.heap.size w w1 := hW.trans (hb1.mono (by simp))
  clear hb1 b0 hW
  go_wp2_with (refine wpList_load_row rfl 31 _ rfl w.heap.size rfl _ (jobC J (.slice a n c)) _ _ k0 Try.underlying31 rfl szJob ?_)
  refine (passes_any J a n c _ HJ.out Hn.out (Hh.out.up hB1)).mono ?_
  rintro e w2 ⟨rfl, hb2⟩
  have hB2 : Below w.heap.size w w2 := hB1.trans (hb2.mono (by omega))
  go_wp2
  refine bodyPost_ret (v := .tuple #[.int .i64 (passI J.wi J.sh J.p1 J.p2), .int .i64 0]) (by simp [results, Try.results8, go_sem]) rfl ⟨rfl, hB2⟩
end Go.Proofs.Ytkimdnckbdeekaa
