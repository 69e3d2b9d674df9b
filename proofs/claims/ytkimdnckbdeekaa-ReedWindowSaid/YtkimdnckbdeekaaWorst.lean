/- The contracts of work.worst and of reed.Worst without strokes. -/
import Derived.Test.YtkimdnckbdeekaaPlainF
namespace Go.Proofs.Ytkimdnckbdeekaa
set_option linter.all false
open Go.RowKit

def worstStep (t : Tg) (m : Int) (s : R2) : Int := mx (mx m (-(t.p1 + s.1))) (t.p2 + s.2)
theorem worst_bnd (t : Tg) (ht : -200 ≤ t.p1 ∧ t.p1 ≤ 200 ∧ -200 ≤ t.p2 ∧ t.p2 ≤ 200) : ∀ (l : List R2) (m : Int), (∀ s ∈ l, -60 ≤ s.1 ∧ s.1 ≤ 60 ∧ -60 ≤ s.2 ∧ s.2 ≤ 60) → 0 ≤ m ∧ m ≤ 1000 → 0 ≤ l.foldl (worstStep t) m ∧ l.foldl (worstStep t) m ≤ 1000
  | [], m, _, h => h
  | s :: l, m, hs, h => by
    have h1 := hs s List.mem_cons_self
    refine worst_bnd t ht l _ (fun q hq => hs q (List.mem_cons_of_mem _ hq)) ?_
    unfold worstStep mx
    refine ⟨?_, ?_⟩ <;> (repeat' split) <;> omega
theorem worst_snoc (t : Tg) (l : List R2) (s : R2) : (l ++ [s]).foldl (worstStep t) 0 = worstStep t (l.foldl (worstStep t) 0) s := by simp

set_option maxHeartbeats 1000000 in
set_option maxRecDepth 100000 in
theorem worst_any (J : Jb) (a : Option Addr) (n c : Nat) (w : World) (hJ : J.In 200) (hn : n = J.sh.length) (h : Rg w w.heap.size a J.sh) :
    Calls Try.prog 21 #[.agg (jobC J (.slice a n c))] w fun e w' => e = .returned (.int .i64 (worstI J J.tg)) ∧ Below w.heap.size w w' := by
  have hm : n ≤ 4 := by have := hJ.len; omega
  have HJ : Hid (J.In 200) := hJ
  have Hn : Hid (n = J.sh.length) := hn
  have Hh : Hid (Rg w w.heap.size a J.sh) := h
  have p1b := hJ.p1
  have p2b := hJ.p2
  clear hn h hJ
  have b0 : Bk (w.alloc (.cells (jobC J (.slice a n c)) 59)) w.heap.size 59 (jobC J (.slice a n c)) := Bk.new w _ _
  go_enter Try.func21, Try.ntmps21
  go_wp2_with (refine wpList_load_row rfl 31 _ rfl w.heap.size rfl _ (jobC J (.slice a n c)) _ _ b0 Try.underlying31 rfl szJob ?_)
  refine (conditions_any J a n c _ Hn.out hm (Hh.out.up ((Below.refl _ _).alloc (Nat.le_refl _) _))).mono ?_
  rintro e w1 ⟨a', c', rfl, hrg, hb⟩
  have hz := hb.size
  simp only [World.size_alloc] at hz
  have k0 := b0.below hb (by simp)
  have HB0 : Hid (Below w.heap.size w w1) := ((Below.refl _ _).alloc (Nat.le_refl _) _).trans (hb.mono (by simp))
  have HR : Hid (Rg w1 w1.heap.size a' (conds J.sh)) := hrg
  clear b0 hb hrg
  obtain ⟨hc1, hc2⟩ := conds_len J.sh HJ.out.len
  obtain ⟨m, Hm⟩ : ∃ m, Hid (m = (conds J.sh).length) := ⟨_, rfl⟩
  rw [← Hm.out] at hc1 hc2 ⊢
  go_wp2_with fail
  go_loopw [3, 11] (fun v i wr => ∃ k : Nat, k ≤ m ∧ i = .int .i64 k ∧ v = .int .i64 (((conds J.sh).take k).foldl (worstStep J.tg) 0) ∧ Below w1.heap.size w1 wr) (fun _ i _ => m - (intOf i).toNat)
  case atStart => exact ⟨0, Nat.zero_le _, rfl, rfl, Below.refl _ _⟩
  case round =>
    obtain ⟨k, hk, rfl, rfl, hB⟩ := hrel
    have hs := hB.size
    have hl1 := k0.lt
    have q0 := k0.below hB (by omega)
    have hl2 := q0.lt
    have d0 := q0.at_ 0 _ rfl
    have d1 := q0.at_ 1 _ rfl
    by_cases hlt : k < m
    · have hkl : k < (conds J.sh).length := by rw [← Hm.out]; exact hlt
      obtain ⟨b, off, rfl, hbl, e0, e1⟩ := HR.out k (conds J.sh)[k] (List.getElem?_eq_getElem hkl)
      replace e0 := (hB.cell (p := ⟨b, off + k * 2, none⟩) hbl).trans e0
      replace e1 := (hB.cell (p := ⟨b, off + k * 2 + 1, none⟩) hbl).trans e1
      have hbl' : b < wr.heap.size := by omega
      obtain ⟨s1, s2, s3, s4⟩ := conds_in J.sh HJ.out.sh _ (List.getElem_mem hkl)
      obtain ⟨s, Hs⟩ : ∃ s, Hid (s = (conds J.sh)[k]) := ⟨_, hidMk rfl⟩
      obtain ⟨M, HM⟩ : ∃ M, Hid (M = ((conds J.sh).take k).foldl (worstStep J.tg) 0) := ⟨_, hidMk rfl⟩
      have hM := worst_bnd J.tg ⟨p1b.1, p1b.2, p2b.1, p2b.2⟩ ((conds J.sh).take k) 0 (fun q hq => conds_in J.sh HJ.out.sh q (List.mem_of_mem_take hq)) (by decide)
      rw [← HM.out] at hM ⊢
      rw [← Hs.out] at s1 s2 s3 s4 e0 e1
      go_wp2_with (go_at_call 39; refine (sum_any _ _ _ _ _ ⟨by omega, by omega, by omega, by omega, by omega, by omega, by omega, by omega⟩).mono ?_; rintro e w2 ⟨rfl, hb2⟩)
      go_roundw
      case rel =>
        refine ⟨k + 1, by omega, by go_num, ?_, ?_⟩
        · rw [take_snoc _ k hkl, worst_snoc, ← HM.out, ← Hs.out]
          rfl
        · exact ((hB.alloc (by omega) _).trans (hb2.mono (by simp; omega))).alloc (by have := hb2.size; simp at this; omega) _
      case measure => simp [intOf]; omega
    · obtain rfl : k = m := by omega
      go_wp2
      go_ret
      refine ⟨?_, HB0.out.trans (hB.mono (by omega))⟩
      have e : (conds J.sh).take k = conds J.sh := by rw [Hm.out]; exact List.take_length
      rw [e]
      rfl
end Go.Proofs.Ytkimdnckbdeekaa
