/- The contract of reed.Worst without strokes, on a valid job. -/
import Derived.Test.YtkimdnckbdeekaaWorst
namespace Go.Proofs.Ytkimdnckbdeekaa
set_option linter.all false
open Go.RowKit
set_option maxHeartbeats 1000000 in
set_option maxRecDepth 100000 in
theorem worstF_ok (J : Jb) (hc : J.check = 0) (a : Option Addr) (n c : Nat) (w : World) (hn : n = J.sh.length) (hm : n ≤ 9223372036854775807) (h : Rg w w.heap.size a J.sh) :
    Calls Try.prog 9 #[.agg (jobC J (.slice a n c)), .slice none 0 0] w fun e w' => e = .returned (.tuple #[.int .i64 (worstI J J.tg), .int .i64 0]) ∧ Below w.heap.size w w' := by
  have Hn : Hid (n = J.sh.length) := hn
  have Hh : Hid (Rg w w.heap.size a J.sh) := h
  have HJ := hidMk ((check_ok hc).inn.mono (by decide : (100 : Int) ≤ 200))
  have hf : filedE J [] = 0 := by unfold filedE; rw [if_pos hc]; rfl
  have Hf := hidMk hf
  clear hn h hc hf
  have b0 : Bk (w.alloc (.cells (jobC J (.slice a n c)) 31)) w.heap.size 31 (jobC J (.slice a n c)) := Bk.new w _ _
  have hW : Below w.heap.size w (w.alloc (.cells (jobC J (.slice a n c)) 31)) := (Below.refl _ _).alloc (Nat.le_refl _) _
  go_enter Try.func9, Try.ntmps9
  go_wp2_with (refine wpList_load_row rfl 31 _ rfl w.heap.size rfl _ (jobC J (.slice a n c)) _ _ b0 Try.underlying31 rfl szJob ?_)
  refine (filed_any J a n c none 0 0 [] _ Hn.out hm (Hh.out.up hW) rfl (by decide) (Is.nil _ _ _)).mono ?_
  rintro e w1 ⟨he, hb1⟩
  rw [if_pos Hf.out] at he
  subst he
  have hz1 := hb1.size
  simp only [World.size_alloc] at hz1
  have hB1 : Below w.heap.size w w1 := hW.trans (hb1.mono (by simp))
  clear hb1 b0 hW
  have e1 : J.setTg (afterS J J.tg []) = J := rfl
  rw [e1]
  go_wp2_with (first | (refine wpList_store_row rfl 59 _ _ rfl w1.heap.size (jobC J (.slice a n c)) rfl rfl _ _ (Bk.new _ _ _) szWork rfl (oneJob _ _ _ _) ?_; rw [World.setRow_alloc_new]) | (refine wpList_load_row rfl 59 _ rfl w1.heap.size rfl _ (jobC J (.slice a n c)) _ _ (Bk.new _ _ _) Try.underlying59 rfl szWork ?_))
  refine (worst_any J a n c _ HJ.out Hn.out (Hh.out.up (hB1.alloc (by omega) _))).mono ?_
  rintro e w2 ⟨rfl, hb2⟩
  have hB2 : Below w.heap.size w w2 := (hB1.alloc (by omega) _).trans (hb2.mono (by simp; omega))
  go_wp2
  refine bodyPost_ret (v := .tuple #[.int .i64 (worstI J J.tg), .int .i64 0]) (by simp [results, Try.results9, go_sem]) rfl ⟨rfl, hB2⟩
end Go.Proofs.Ytkimdnckbdeekaa
