/- Part 14 of the proof: StrokeL. -/
import Derived.Test.YtdficjnnlaicpaaT13
/- The contracts of reed.Worst and reed.Spoiled on valid jobs and strokes. -/
namespace Go.Proofs.Ytdficjnnlaicpaa
set_option linter.all false
open Go.RowKit
theorem filed_ok {J : Jb} {l : List Int} (h : filedE J l = 0) : J.check = 0 ∧ l.length ≤ 6 := by
  unfold filedE at h
  by_cases h0 : J.check = 0
  · rw [if_pos h0] at h
    refine ⟨h0, ?_⟩
    unfold strokesE at h
    by_cases h6 : 6 < l.length
    · rw [if_pos h6] at h; omega
    · omega
  · rw [if_neg h0] at h; exact absurd h h0
theorem filed_in {J : Jb} {l : List Int} (h : filedE J l = 0) : (J.setTg (afterS J J.tg l)).In 200 := by
  obtain ⟨h0, h6⟩ := filed_ok h
  have hin := (check_ok h0).inn
  have h1 := afterS_in J (hin.mono (by decide)) l J.tg 100 hin.tg
  exact (hin.mono (by decide : (100 : Int) ≤ 200)).setTg (h1.mono (by omega))
set_option maxHeartbeats 1000000 in
set_option maxRecDepth 100000 in
theorem worstL_ok (J : Jb) (l : List Int) (hc : filedE J l = 0) (a : Option Addr) (n c : Nat) (b : Option Addr) (m d : Nat) (w : World) (hn : n = J.sh.length) (hm : n ≤ 9223372036854775807) (h : Rg w w.heap.size a J.sh)
    (hmn : m = l.length) (hmm : m ≤ 9223372036854775807) (hl : Is w w.heap.size b l) :
    Calls Try.prog 24 #[.agg (jobC J (.slice a n c)), .slice b m d] w fun e w' => e = .returned (.tuple #[.int .i64 (worstI (J.setTg (afterS J J.tg l)) (afterS J J.tg l)), .int .i64 0]) ∧ Below w.heap.size w w' := by
  have Hn : Hid (n = J.sh.length) := hn
  have Hh : Hid (Rg w w.heap.size a J.sh) := h
  have Hm : Hid (m = l.length) := hmn
  have Hl : Hid (Is w w.heap.size b l) := hl
  have HJ := hidMk (filed_in hc)
  have Hf := hidMk hc
  clear hn h hc hmn hl
  have b0 : Bk (w.alloc (.cells (jobC J (.slice a n c)) 30)) w.heap.size 30 (jobC J (.slice a n c)) := Bk.new w _ _
  have hW : Below w.heap.size w (w.alloc (.cells (jobC J (.slice a n c)) 30)) := (Below.refl _ _).alloc (Nat.le_refl _) _
  go_enter Try.func24, Try.ntmps24
  go_wp2_with (refine wpList_load_row rfl 30 _ rfl w.heap.size rfl _ (jobC J (.slice a n c)) _ _ b0 Try.underlying30 rfl szJob ?_)
  refine (filed_any J a n c b m d l _ Hn.out hm (Hh.out.up hW) Hm.out hmm (Hl.out.up hW)).mono ?_
  rintro e w1 ⟨he, hb1⟩
  rw [if_pos Hf.out] at he
  subst he
  have hz1 := hb1.size
  simp only [World.size_alloc] at hz1
  have hB1 : Below w.heap.size w w1 := hW.trans (hb1.mono (by simp))
  clear hb1 b0 hW
  obtain ⟨T, hT⟩ : ∃ T, afterS J J.tg l = T := ⟨_, rfl⟩
  have HJ' : Hid ((J.setTg T).In 200) := by have := HJ.out; rw [hT] at this; exact this
  have HT := hidMk hT
  rw [hT]
  clear HJ hT
  go_wp2_with (first | (refine wpList_store_row rfl 85 _ _ rfl w1.heap.size (jobC (J.setTg T) (.slice a n c)) rfl rfl _ _ (Bk.new _ _ _) szWork rfl (oneJob _ _ _ _) ?_; rw [World.setRow_alloc_new]) | (refine wpList_load_row rfl 85 _ rfl w1.heap.size rfl _ (jobC (J.setTg T) (.slice a n c)) _ _ (Bk.new _ _ _) Try.underlying85 rfl szWork ?_))
  refine (worst_any (J.setTg T) a n c _ HJ'.out Hn.out (Hh.out.up (hB1.alloc (by omega) _))).mono ?_
  rintro e w2 ⟨rfl, hb2⟩
  have hB2 : Below w.heap.size w w2 := (hB1.alloc (by omega) _).trans (hb2.mono (by simp; omega))
  go_wp2
  refine bodyPost_ret (v := .tuple #[.int .i64 (worstI (J.setTg T) T), .int .i64 0]) (by simp [results, Try.results24, go_sem]; rfl) rfl ⟨by rw [HT.out], hB2⟩
set_option maxHeartbeats 1000000 in
set_option maxRecDepth 100000 in
theorem spoiledL_ok (J : Jb) (l : List Int) (hc : filedE J l = 0) (a : Option Addr) (n c : Nat) (b : Option Addr) (m d : Nat) (w : World) (hn : n = J.sh.length) (hm : n ≤ 9223372036854775807) (h : Rg w w.heap.size a J.sh)
    (hmn : m = l.length) (hmm : m ≤ 9223372036854775807) (hl : Is w w.heap.size b l) :
    Calls Try.prog 26 #[.agg (jobC J (.slice a n c)), .slice b m d] w fun e w' => e = .returned (.tuple #[.int .i64 (spoilI J.le (afterS J J.tg l)), .int .i64 0]) ∧ Below w.heap.size w w' := by
  have Hn : Hid (n = J.sh.length) := hn
  have Hh : Hid (Rg w w.heap.size a J.sh) := h
  have Hm : Hid (m = l.length) := hmn
  have Hl : Hid (Is w w.heap.size b l) := hl
  have Hf := hidMk hc
  clear hn h hc hmn hl
  have b0 : Bk (w.alloc (.cells (jobC J (.slice a n c)) 30)) w.heap.size 30 (jobC J (.slice a n c)) := Bk.new w _ _
  have hW : Below w.heap.size w (w.alloc (.cells (jobC J (.slice a n c)) 30)) := (Below.refl _ _).alloc (Nat.le_refl _) _
  go_enter Try.func26, Try.ntmps26
  go_wp2_with (refine wpList_load_row rfl 30 _ rfl w.heap.size rfl _ (jobC J (.slice a n c)) _ _ b0 Try.underlying30 rfl szJob ?_)
  refine (filed_any J a n c b m d l _ Hn.out hm (Hh.out.up hW) Hm.out hmm (Hl.out.up hW)).mono ?_
  rintro e w1 ⟨he, hb1⟩
  rw [if_pos Hf.out] at he
  subst he
  have hz1 := hb1.size
  simp only [World.size_alloc] at hz1
  have hB1 : Below w.heap.size w w1 := hW.trans (hb1.mono (by simp))
  clear hb1 b0 hW
  obtain ⟨T, hT⟩ : ∃ T, afterS J J.tg l = T := ⟨_, rfl⟩
  have HT := hidMk hT
  rw [hT]
  clear hT
  go_wp2_with (first | (refine wpList_store_row rfl 85 _ _ rfl w1.heap.size (jobC (J.setTg T) (.slice a n c)) rfl rfl _ _ (Bk.new _ _ _) szWork rfl (oneJob _ _ _ _) ?_; rw [World.setRow_alloc_new]) | (refine wpList_load_row rfl 85 _ rfl w1.heap.size rfl _ (jobC (J.setTg T) (.slice a n c)) _ _ (Bk.new _ _ _) Try.underlying85 rfl szWork ?_))
  refine (spoiled_any (J.setTg T) (.slice a n c) _).mono ?_
  rintro e w2 ⟨rfl, rfl⟩
  have hB2 := (hB1.alloc (B := w.heap.size) (by omega) (.cells (jobC (J.setTg T) (.slice a n c)) 85)).alloc (by simp; omega) (.cells (jobC (J.setTg T) (.slice a n c)) 85)
  go_wp2
  refine bodyPost_ret (v := .tuple #[.int .i64 (spoilI J.le T), .int .i64 0]) (by simp [results, Try.results26, go_sem]; rfl) rfl ⟨by rw [HT.out], hB2⟩
end Go.Proofs.Ytdficjnnlaicpaa
