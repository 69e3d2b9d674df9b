/- Part 19 of the proof: Worst, WorstF, Pots, In, LawN, HearF, StrokeL, TrueD, TrueN, KitA, KitB. -/
import Derived.Test.YtggokdmlijipjaaT18
import Derived.Test.YtggokdmlijipjaaT10
import Derived.Test.YtggokdmlijipjaaT11
/- The contracts of work.worst and of reed.Worst without strokes. -/
namespace Go.Proofs.Ytggokdmlijipjaa
set_option linter.all false
open Go.RowKit

def worstStep (t : Tg) (m : Int) (s : R2) : Int := mx (mx m (-(t.p1 + s.1))) (t.p2 + s.2)
theorem worst_bnd (t : Tg) (ht : -200 ≤ t.p1 ∧ t.p1 ≤ 200 ∧ -200 ≤ t.p2 ∧ t.p2 ≤ 200) : ∀ (l : List R2) (m : Int), (∀ s ∈ l, -60 ≤ s.1 ∧ s.1 ≤ 60 ∧ -60 ≤ s.2 ∧ s.2 ≤ 60) → 0 ≤ m ∧ m ≤ 1000 → 0 ≤ l.foldl (worstStep t) m ∧ l.foldl (worstStep t) m ≤ 1000
  | [], m, _, h => h
  | s :: l, m, hs, h => by
    have h1 := hs s List.mem_cons_self
    refine worst_bnd t ht l _ (fun q hq => hs q (List.mem_cons_of_mem _ hq)) ?_
    unfold worstStep mx
    refine ⟨?_, ?_⟩ <;> (repeat' split) <;> omega
theorem worst_snoc (t : Tg) (l : List R2) (s : R2) : (l ++ [s]).foldl (worstStep t) 0 = worstStep t (l.foldl (worstStep t) 0) s := by simp

set_option maxHeartbeats 1000000 in
set_option maxRecDepth 100000 in
theorem worst_any (J : Jb) (a : Option Addr) (n c : Nat) (w : World) (hJ : J.In 200) (hn : n = J.sh.length) (h : Rg w w.heap.size a J.sh) :
    Calls Try.prog 30 #[.agg (jobC J (.slice a n c))] w fun e w' => e = .returned (.int .i64 (worstI J J.tg)) ∧ Below w.heap.size w w' := by
  have hm : n ≤ 4 := by have := hJ.len; omega
  have HJ : Hid (J.In 200) := hJ
  have Hn : Hid (n = J.sh.length) := hn
  have Hh : Hid (Rg w w.heap.size a J.sh) := h
  have p1b := hJ.p1
  have p2b := hJ.p2
  clear hn h hJ
  have b0 : Bk (w.alloc (.cells (jobC J (.slice a n c)) 68)) w.heap.size 68 (jobC J (.slice a n c)) := Bk.new w _ _
  go_enter Try.func30, Try.ntmps30
  go_wp2_with (refine wpList_load_row rfl 33 _ rfl w.heap.size rfl _ (jobC J (.slice a n c)) _ _ b0 Try.underlying33 rfl szJob ?_)
  refine (conditions_any J a n c _ Hn.out hm (Hh.out.up ((Below.refl _ _).alloc (Nat.le_refl _) _))).mono ?_
  rintro e w1 ⟨a', c', rfl, hrg, hb⟩
  have hz := hb.size
  simp only [World.size_alloc] at hz
  have k0 := b0.below hb (by simp)
  have HB0 : Hid (Below w.heap.size w w1) := ((Below.refl _ _).alloc (Nat.le_refl _) _).trans (hb.mono (by simp))
  have HR : Hid (Rg w1 w1.heap.size a' (conds J.sh)) := hrg
  clear b0 hb hrg
  obtain ⟨hc1, hc2⟩ := conds_len J.sh HJ.out.len
  obtain ⟨m, Hm⟩ : ∃ m, Hid (m = (conds J.sh).length) := ⟨_, rfl⟩
  rw [← Hm.out] at hc1 hc2 ⊢
  go_wp2_with fail
  go_loopw [3, 11] (fun v i wr => ∃ k : Nat, k ≤ m ∧ i = .int .i64 k ∧ v = .int .i64 (((conds J.sh).take k).foldl (worstStep J.tg) 0) ∧ Below w1.heap.size w1 wr) (fun _ i _ => m - (intOf i).toNat)
  case atStart => exact ⟨0, Nat.zero_le _, rfl, rfl, Below.refl _ _⟩
  case round =>
    obtain ⟨k, hk, rfl, rfl, hB⟩ := hrel
    have hs := hB.size
    have hl1 := k0.lt
    have q0 := k0.below hB (by omega)
    have hl2 := q0.lt
    have d0 := q0.at_ 0 _ rfl
    have d1 := q0.at_ 1 _ rfl
    by_cases hlt : k < m
    · have hkl : k < (conds J.sh).length := by rw [← Hm.out]; exact hlt
      obtain ⟨b, off, rfl, hbl, e0, e1⟩ := HR.out k (conds J.sh)[k] (List.getElem?_eq_getElem hkl)
      replace e0 := (hB.cell (p := ⟨b, off + k * 2, none⟩) hbl).trans e0
      replace e1 := (hB.cell (p := ⟨b, off + k * 2 + 1, none⟩) hbl).trans e1
      have hbl' : b < wr.heap.size := by omega
      obtain ⟨s1, s2, s3, s4⟩ := conds_in J.sh HJ.out.sh _ (List.getElem_mem hkl)
      obtain ⟨s, Hs⟩ : ∃ s, Hid (s = (conds J.sh)[k]) := ⟨_, hidMk rfl⟩
      obtain ⟨M, HM⟩ : ∃ M, Hid (M = ((conds J.sh).take k).foldl (worstStep J.tg) 0) := ⟨_, hidMk rfl⟩
      have hM := worst_bnd J.tg ⟨p1b.1, p1b.2, p2b.1, p2b.2⟩ ((conds J.sh).take k) 0 (fun q hq => conds_in J.sh HJ.out.sh q (List.mem_of_mem_take hq)) (by decide)
      rw [← HM.out] at hM ⊢
      rw [← Hs.out] at s1 s2 s3 s4 e0 e1
      go_wp2_with (go_at_call 53; refine (sum_any _ _ _ _ _ ⟨by omega, by omega, by omega, by omega, by omega, by omega, by omega, by omega⟩).mono ?_; rintro e w2 ⟨rfl, hb2⟩)
      go_roundw
      case rel =>
        refine ⟨k + 1, by omega, by go_num, ?_, ?_⟩
        · rw [take_snoc _ k hkl, worst_snoc, ← HM.out, ← Hs.out]
          rfl
        · exact ((hB.alloc (by omega) _).trans (hb2.mono (by simp; omega))).alloc (by have := hb2.size; simp at this; omega) _
      case measure => simp [intOf]; omega
    · obtain rfl : k = m := by omega
      go_wp2
      go_ret
      refine ⟨?_, HB0.out.trans (hB.mono (by omega))⟩
      have e : (conds J.sh).take k = conds J.sh := by rw [Hm.out]; exact List.take_length
      rw [e]
      rfl
end Go.Proofs.Ytggokdmlijipjaa
/- The contract of reed.Worst without strokes, on a valid job. -/
namespace Go.Proofs.Ytggokdmlijipjaa
set_option linter.all false
open Go.RowKit
set_option maxHeartbeats 1000000 in
set_option maxRecDepth 100000 in
theorem worstF_ok (J : Jb) (hc : J.check = 0) (a : Option Addr) (n c : Nat) (w : World) (hn : n = J.sh.length) (hm : n ≤ 9223372036854775807) (h : Rg w w.heap.size a J.sh) :
    Calls Try.prog 18 #[.agg (jobC J (.slice a n c)), .slice none 0 0] w fun e w' => e = .returned (.tuple #[.int .i64 (worstI J J.tg), .int .i64 0]) ∧ Below w.heap.size w w' := by
  have Hn : Hid (n = J.sh.length) := hn
  have Hh : Hid (Rg w w.heap.size a J.sh) := h
  have HJ := hidMk ((check_ok hc).inn.mono (by decide : (100 : Int) ≤ 200))
  have hf : filedE J [] = 0 := by unfold filedE; rw [if_pos hc]; rfl
  have Hf := hidMk hf
  clear hn h hc hf
  have b0 : Bk (w.alloc (.cells (jobC J (.slice a n c)) 33)) w.heap.size 33 (jobC J (.slice a n c)) := Bk.new w _ _
  have hW : Below w.heap.size w (w.alloc (.cells (jobC J (.slice a n c)) 33)) := (Below.refl _ _).alloc (Nat.le_refl _) _
  go_enter Try.func18, Try.ntmps18
  go_wp2_with (refine wpList_load_row rfl 33 _ rfl w.heap.size rfl _ (jobC J (.slice a n c)) _ _ b0 Try.underlying33 rfl szJob ?_)
  refine (filed_any J a n c none 0 0 [] _ Hn.out hm (Hh.out.up hW) rfl (by decide) (Is.nil _ _ _)).mono ?_
  rintro e w1 ⟨he, hb1⟩
  rw [if_pos Hf.out] at he
  subst he
  have hz1 := hb1.size
  simp only [World.size_alloc] at hz1
  have hB1 : Below w.heap.size w w1 := hW.trans (hb1.mono (by simp))
  clear hb1 b0 hW
  have e1 : J.setTg (afterS J J.tg []) = J := rfl
  rw [e1]
  go_wp2_with (first | (refine wpList_store_row rfl 68 _ _ rfl w1.heap.size (jobC J (.slice a n c)) rfl rfl _ _ (Bk.new _ _ _) szWork rfl (oneJob _ _ _ _) ?_; rw [World.setRow_alloc_new]) | (refine wpList_load_row rfl 68 _ rfl w1.heap.size rfl _ (jobC J (.slice a n c)) _ _ (Bk.new _ _ _) Try.underlying68 rfl szWork ?_))
  refine (worst_any J a n c _ HJ.out Hn.out (Hh.out.up (hB1.alloc (by omega) _))).mono ?_
  rintro e w2 ⟨rfl, hb2⟩
  have hB2 : Below w.heap.size w w2 := (hB1.alloc (by omega) _).trans (hb2.mono (by simp; omega))
  go_wp2
  refine bodyPost_ret (v := .tuple #[.int .i64 (worstI J J.tg), .int .i64 0]) (by simp [results, Try.results18, go_sem]) rfl ⟨rfl, hB2⟩
end Go.Proofs.Ytggokdmlijipjaa
/- The contract of NewPot: a new block with one number; nothing else is changed. -/
namespace Go.Proofs.Ytggokdmlijipjaa
set_option linter.all false
open Go.RowKit
set_option maxHeartbeats 1000000 in
theorem newPot_any (a : Option Addr) (n c : Nat) (l : List Int) (w : World) (hn : n = l.length) (hm : n ≤ 9223372036854775807) (h : Is w w.heap.size a l) :
    Calls Try.prog 4 #[.slice a n c] w fun e w' => ∃ s t, e = .returned (.pointer (some ⟨w.heap.size, 0, none⟩)) ∧ Bk w' w.heap.size t #[.int .u64 s] ∧ Below w.heap.size w w' := by
  have Hn : Hid (n = l.length) := hn
  have Hh : Hid (Is w w.heap.size a l) := h
  clear hn h
  go_enter Try.func4, Try.ntmps4
  go_wp2
  go_loopw [4] (fun i wr => ∃ (k : Nat) (s : Int) (t : TypeId), k ≤ n ∧ i = .int .i64 k ∧ Bk wr w.heap.size t #[.int .u64 s] ∧ Below w.heap.size w wr) (fun i _ => n - (intOf i).toNat)
  case atStart => exact ⟨0, _, _, Nat.zero_le _, rfl, Bk.new w _ _, (Below.refl _ _).alloc (Nat.le_refl _) _⟩
  case round =>
    obtain ⟨k, s, t, hk, rfl, hb, hB⟩ := hrel
    have c0 := hb.at_ 0 _ rfl
    have f0 := hb.free 0
    have hl := hb.lt
    by_cases hlt : k < n
    · have hkl : k < l.length := by rw [← Hn.out]; exact hlt
      obtain ⟨b, off, rfl, hbl, e0⟩ := Hh.out k l[k] (List.getElem?_eq_getElem hkl)
      replace e0 := (hB.cell (p := ⟨b, off + k, none⟩) hbl).trans e0
      obtain ⟨x, hx⟩ : ∃ x, l[k] = x := ⟨_, rfl⟩
      rw [hx] at e0
      have hne : b ≠ w.heap.size := by omega
      have hne' : w.heap.size ≠ b := by omega
      have i0 : (0 : Int) ≤ ↑k := by omega
      have i1 : (↑k : Int) < ↑n := by omega
      have HB := hidMk hB
      have Hb := hidMk hb
      clear hB hb hx hbl Hh Hn hkl
      go_wp2
      go_region
      clear e0 hne hne'
      obtain ⟨s1, hs1⟩ : ∃ s1, IntKind.u64.wrap (bits BinOp.xor IntKind.u64 s (IntKind.u64.wrap x) * 15485907386658061715) = s1 := ⟨_, rfl⟩
      rw [hs1]
      clear hs1
      go_wp2
      go_region
      go_wp2
      go_roundw
      case rel =>
        exact ⟨k + 1, _, t, by omega, by go_num, ((Hb.out.put1 _).put1 _), ((HB.out.setCell (Nat.le_refl _) _).setCell (Nat.le_refl _) _).drew.drew⟩
      case measure => simp [intOf]; omega
    · obtain rfl : k = n := by omega
      go_wp2
      go_ret
      exact ⟨s, t, rfl, hb, hB⟩
end Go.Proofs.Ytggokdmlijipjaa
/- The contract of musettekit.In. -/
namespace Go.Proofs.Ytggokdmlijipjaa
set_option linter.all false
open Go.RowKit

theorem in_any (a b n : Int) (w : World) :
    Calls Try.prog 14 #[.agg #[.int .i64 a, .int .i64 b], .int .i64 n] w fun e w' => e = .returned (.bool (decide (a ≤ n ∧ n ≤ b))) ∧ Below w.heap.size w w' := by
  by_cases h1 : a ≤ n
  · by_cases h2 : n ≤ b
    · rw [decide_eq_true ⟨h1, h2⟩]
      go_enter Try.func14, Try.ntmps14
      go_wp2
      go_ret
      exact ⟨rfl, (Below.refl _ _).alloc (Nat.le_refl _) _⟩
    · rw [decide_eq_false (fun h => h2 h.2)]
      go_enter Try.func14, Try.ntmps14
      go_wp2
      go_ret
      exact ⟨rfl, (Below.refl _ _).alloc (Nat.le_refl _) _⟩
  · rw [decide_eq_false (fun h => h1 h.1)]
    go_enter Try.func14, Try.ntmps14
    go_wp2
    go_ret
    exact ⟨rfl, (Below.refl _ _).alloc (Nat.le_refl _) _⟩

end Go.Proofs.Ytggokdmlijipjaa
/- Numbers of the law ReedWindow: who is in the window. -/
namespace Go.Proofs.Ytggokdmlijipjaa
set_option linter.all false
open Go.RowKit

/-! ### numbers -/
theorem foldm_le (t : Tg) (m : Int) : ∀ (l : List R2) (z : Int), l.foldl (worstStep t) z ≤ m ↔ z ≤ m ∧ ∀ s ∈ l, -(t.p1 + s.1) ≤ m ∧ t.p2 + s.2 ≤ m
  | [], z => by simp
  | s :: l, z => by
    have ih := foldm_le t m l (worstStep t z s)
    have hs : worstStep t z s ≤ m ↔ z ≤ m ∧ -(t.p1 + s.1) ≤ m ∧ t.p2 + s.2 ≤ m := by
      unfold worstStep mx
      refine ⟨fun h => ?_, fun h => ?_⟩ <;> revert h <;> (repeat' split) <;> omega
    show l.foldl (worstStep t) (worstStep t z s) ≤ m ↔ _
    rw [ih, hs]
    simp only [List.forall_mem_cons]
    exact ⟨fun ⟨⟨a, b, c⟩, d⟩ => ⟨a, ⟨b, c⟩, d⟩, fun ⟨a, ⟨b, c⟩, d⟩ => ⟨⟨a, b, c⟩, d⟩⟩
theorem meetL_iff (n : Int) : ∀ (l : List R2) (r : R2), ((meetL r l).1 ≤ n ∧ n ≤ (meetL r l).2) ↔ (r.1 ≤ n ∧ n ≤ r.2) ∧ ∀ s ∈ l, s.1 ≤ n ∧ n ≤ s.2
  | [], r => by simp [meetL]
  | s :: l, r => by
    have ih := meetL_iff n l (meet2 r s)
    have hs : ((meet2 r s).1 ≤ n ∧ n ≤ (meet2 r s).2) ↔ (r.1 ≤ n ∧ n ≤ r.2) ∧ (s.1 ≤ n ∧ n ≤ s.2) := by
      unfold meet2
      refine ⟨fun h => ?_, fun h => ?_⟩ <;> revert h <;> (repeat' split) <;> omega
    show ((meetL (meet2 r s) l).1 ≤ n ∧ n ≤ (meetL (meet2 r s) l).2) ↔ _
    rw [ih, hs]
    simp only [List.forall_mem_cons]
    exact ⟨fun ⟨⟨a, b⟩, d⟩ => ⟨a, b, d⟩, fun ⟨a, b, d⟩ => ⟨⟨a, b⟩, d⟩⟩
theorem win_iff (wi n : Int) (sh : List R2) : ((win wi sh).1 ≤ n ∧ n ≤ (win wi sh).2) ↔ ∀ s ∈ conds sh, -wi - s.1 ≤ n ∧ n ≤ wi - s.2 := by
  have key : ∀ l : List R2, l ≠ [] → (((meetAll (l.map (sureOf wi))).1 ≤ n ∧ n ≤ (meetAll (l.map (sureOf wi))).2) ↔ ∀ s ∈ l, -wi - s.1 ≤ n ∧ n ≤ wi - s.2) := by
    intro l hl
    cases l with
    | nil => exact absurd rfl hl
    | cons s l =>
      show ((meetL (sureOf wi s) (l.map (sureOf wi))).1 ≤ n ∧ n ≤ (meetL (sureOf wi s) (l.map (sureOf wi))).2) ↔ _
      rw [meetL_iff]
      simp only [sureOf, List.forall_mem_map, List.forall_mem_cons]
  refine key (conds sh) ?_
  unfold conds
  split
  · simp
  · assumption
theorem worst_iff (J : Jb) (n : Int) (hw : 0 ≤ J.wi) : worstI { J with p1 := n, p2 := n } ({ J with p1 := n, p2 := n } : Jb).tg ≤ J.wi ↔ ((win J.wi J.sh).1 ≤ n ∧ n ≤ (win J.wi J.sh).2) := by
  rw [win_iff]
  show (conds J.sh).foldl (worstStep ({ J with p1 := n, p2 := n } : Jb).tg) 0 ≤ J.wi ↔ _
  rw [foldm_le]
  refine ⟨fun h s hs => ?_, fun h => ⟨hw, fun s hs => ?_⟩⟩
  · have := h.2 s hs
    simp only [Jb.tg] at this
    omega
  · have := h s hs
    simp only [Jb.tg]
    omega
theorem pass_cases (wi : Int) (sh : List R2) (n : Int) : (passI wi sh n n = 1 ∧ ((win wi sh).1 ≤ n ∧ n ≤ (win wi sh).2)) ∨ ((passI wi sh n n = 2 ∨ passI wi sh n n = 3) ∧ ¬ ((win wi sh).1 ≤ n ∧ n ≤ (win wi sh).2)) := by
  unfold passI
  by_cases h : (win wi sh).1 ≤ n ∧ n ≤ (win wi sh).2
  · rw [if_pos h]; exact .inl ⟨rfl, h⟩
  · rw [if_neg h]
    refine .inr ⟨?_, h⟩
    split
    · exact .inl rfl
    · exact .inr rfl

/-- What JobOf is known to hand back. -/
def JobPost (b : Nat) (w : World) (e : Ending) (w' : World) : Prop :=
  ∃ (J : Jb) (a : Option Addr) (n c : Nat), e = .returned (.agg (jobC J (.slice a n c))) ∧ n = J.sh.length ∧ Rg w' w'.heap.size a J.sh ∧ J.check = 0 ∧ (∀ n, -20 ≤ n → n ≤ 20 → ({ J with p1 := n, p2 := n } : Jb).check = 0) ∧
    w'.os = w.os ∧ w'.tape = w.tape ∧ w'.output = w.output ∧ w.heap.size ≤ w'.heap.size ∧ ∀ k, k < w.heap.size → k ≠ b → w'.heap[k]? = w.heap[k]?
end Go.Proofs.Ytggokdmlijipjaa
/- The contract of reed.Hear on valid jobs, any reading. -/
namespace Go.Proofs.Ytggokdmlijipjaa
set_option linter.all false
open Go.RowKit
/-- What Hear answers on a valid job. -/
def hearI (J : Jb) (r : Int) : R2 × Int := if r < J.p1 - J.me ∨ J.p2 + J.me < r then ((0, 0), 9) else (heardR J.p1 J.p2 r J.me, 0)
set_option maxHeartbeats 1000000 in
set_option maxRecDepth 100000 in
theorem hearF_ok (J : Jb) (hc : J.check = 0) (r : Int) (a : Option Addr) (n c : Nat) (w : World) (hn : n = J.sh.length) (hm : n ≤ 9223372036854775807) (h : Rg w w.heap.size a J.sh) :
    Calls Try.prog 10 #[.agg (jobC J (.slice a n c)), .int .i64 r] w fun e w' => e = .returned (.tuple #[.agg #[.int .i64 (hearI J r).1.1, .int .i64 (hearI J r).1.2], .int .i64 (hearI J r).2]) ∧ Below w.heap.size w w' := by
  have Hn : Hid (n = J.sh.length) := hn
  have Hh : Hid (Rg w w.heap.size a J.sh) := h
  have hin := (check_ok hc).inn
  have p1 := hin.p1
  have p2 := hin.p2
  have me := hin.me
  have hcb : (J.check != 0) = false := by simp [hc]
  clear hn h hc hin
  have b0 : Bk ((w.alloc (.cells (jobC J (.slice a n c)) 33)).alloc (.cells #[.int .i64 0, .int .i64 0] 26)) w.heap.size 33 (jobC J (.slice a n c)) := (Bk.new w _ _).alloc _
  have b1 : Bk ((w.alloc (.cells (jobC J (.slice a n c)) 33)).alloc (.cells #[.int .i64 0, .int .i64 0] 26)) (w.heap.size + 1) 26 #[.int .i64 0, .int .i64 0] := Bk.newAt _ _ _ _ (by simp)
  have hW : Below w.heap.size w ((w.alloc (.cells (jobC J (.slice a n c)) 33)).alloc (.cells #[.int .i64 0, .int .i64 0] 26)) := ((Below.refl _ _).alloc (Nat.le_refl _) _).alloc (by simp) _
  by_cases h1 : r < J.p1 - J.me
  · have He : Hid (hearI J r = ((0, 0), 9)) := by show hearI J r = _; unfold hearI; rw [if_pos (.inl h1)]
    go_enter Try.func10, Try.ntmps10
    go_wp2_with (refine wpList_load_row rfl 33 _ rfl w.heap.size rfl _ (jobC J (.slice a n c)) _ _ b0 Try.underlying33 rfl szJob ?_)
    refine (check_any J a n c _ Hn.out hm (Hh.out.up hW)).mono ?_
    rintro e w1 ⟨rfl, hb1⟩
    have hz1 := hb1.size
    simp only [World.size_alloc] at hz1
    have k0 := b0.below hb1 (by simp; omega)
    have k1 := b1.below hb1 (by simp)
    have hB1 : Below w.heap.size w w1 := hW.trans (hb1.mono (by simp; omega))
    clear hb1 b0 b1 hW
    have d0 := k0.at_ 0 _ rfl
    have d1 := k0.at_ 1 _ rfl
    have d17 := k0.at_ 17 _ rfl
    have c0 := k1.at_ 0 _ rfl
    have c1 := k1.at_ 1 _ rfl
    have f0 := k1.free 0
    have f1 := k1.free 1
    go_wp2
    refine bodyPost_ret (results_row_tmp Try.results10 _ _ _ _ _ _ rfl rfl (k1.put2 _ _) Try.underlying26 szRange) rfl ⟨by rw [He.out]; rfl, ?_⟩
    exact (hB1.setCell (by simp) _).setCell (by simp) _
  · by_cases h2 : J.p2 + J.me < r
    · have He : Hid (hearI J r = ((0, 0), 9)) := by show hearI J r = _; unfold hearI; rw [if_pos (.inr h2)]
      go_enter Try.func10, Try.ntmps10
      go_wp2_with (refine wpList_load_row rfl 33 _ rfl w.heap.size rfl _ (jobC J (.slice a n c)) _ _ b0 Try.underlying33 rfl szJob ?_)
      refine (check_any J a n c _ Hn.out hm (Hh.out.up hW)).mono ?_
      rintro e w1 ⟨rfl, hb1⟩
      have hz1 := hb1.size
      simp only [World.size_alloc] at hz1
      have k0 := b0.below hb1 (by simp; omega)
      have k1 := b1.below hb1 (by simp)
      have hB1 : Below w.heap.size w w1 := hW.trans (hb1.mono (by simp; omega))
      clear hb1 b0 b1 hW
      have d0 := k0.at_ 0 _ rfl
      have d1 := k0.at_ 1 _ rfl
      have d17 := k0.at_ 17 _ rfl
      have c0 := k1.at_ 0 _ rfl
      have c1 := k1.at_ 1 _ rfl
      have f0 := k1.free 0
      have f1 := k1.free 1
      go_wp2
      refine bodyPost_ret (results_row_tmp Try.results10 _ _ _ _ _ _ rfl rfl (k1.put2 _ _) Try.underlying26 szRange) rfl ⟨by rw [He.out]; rfl, ?_⟩
      exact (hB1.setCell (by simp) _).setCell (by simp) _
    · have He : Hid (hearI J r = (heardR J.p1 J.p2 r J.me, 0)) := by show hearI J r = _; unfold hearI; rw [if_neg (by omega)]
      go_enter Try.func10, Try.ntmps10
      go_wp2_with (refine wpList_load_row rfl 33 _ rfl w.heap.size rfl _ (jobC J (.slice a n c)) _ _ b0 Try.underlying33 rfl szJob ?_)
      refine (check_any J a n c _ Hn.out hm (Hh.out.up hW)).mono ?_
      rintro e w1 ⟨rfl, hb1⟩
      have hz1 := hb1.size
      simp only [World.size_alloc] at hz1
      have k0 := b0.below hb1 (by simp; omega)
      have k1 := b1.below hb1 (by simp)
      have hB1 : Below w.heap.size w w1 := hW.trans (hb1.mono (by simp; omega))
      clear hb1 b0 b1 hW
      have d0 := k0.at_ 0 _ rfl
      have d1 := k0.at_ 1 _ rfl
      have d17 := k0.at_ 17 _ rfl
      go_wp2_with fail
      refine (heard_any _ _ _ _ _ ⟨by omega, by omega, by omega, by omega⟩).mono ?_
      rintro e w2 ⟨rfl, hb2⟩
      have hz2 := hb2.size
      have k2 := k1.below hb2 (by omega)
      have hB2 : Below w.heap.size w w2 := hB1.trans (hb2.mono (by omega))
      have c0 := k2.at_ 0 _ rfl
      have c1 := k2.at_ 1 _ rfl
      have f0 := k2.free 0
      have f1 := k2.free 1
      clear hb2 k0 k1 hB1
      go_wp2
      refine bodyPost_ret (results_row_tmp Try.results10 _ _ _ _ _ _ rfl rfl (k2.put2 _ _) Try.underlying26 szRange) rfl ⟨by rw [He.out]; rfl, ?_⟩
      exact (hB2.setCell (by simp) _).setCell (by simp) _
end Go.Proofs.Ytggokdmlijipjaa
/- The contracts of reed.Worst and reed.Spoiled on valid jobs and strokes. -/
namespace Go.Proofs.Ytggokdmlijipjaa
set_option linter.all false
open Go.RowKit
theorem filed_ok {J : Jb} {l : List Int} (h : filedE J l = 0) : J.check = 0 ∧ l.length ≤ 6 := by
  unfold filedE at h
  by_cases h0 : J.check = 0
  · rw [if_pos h0] at h
    refine ⟨h0, ?_⟩
    unfold strokesE at h
    by_cases h6 : 6 < l.length
    · rw [if_pos h6] at h; omega
    · omega
  · rw [if_neg h0] at h; exact absurd h h0
theorem filed_in {J : Jb} {l : List Int} (h : filedE J l = 0) : (J.setTg (afterS J J.tg l)).In 200 := by
  obtain ⟨h0, h6⟩ := filed_ok h
  have hin := (check_ok h0).inn
  have h1 := afterS_in J (hin.mono (by decide)) l J.tg 100 hin.tg
  exact (hin.mono (by decide : (100 : Int) ≤ 200)).setTg (h1.mono (by omega))
set_option maxHeartbeats 1000000 in
set_option maxRecDepth 100000 in
theorem worstL_ok (J : Jb) (l : List Int) (hc : filedE J l = 0) (a : Option Addr) (n c : Nat) (b : Option Addr) (m d : Nat) (w : World) (hn : n = J.sh.length) (hm : n ≤ 9223372036854775807) (h : Rg w w.heap.size a J.sh)
    (hmn : m = l.length) (hmm : m ≤ 9223372036854775807) (hl : Is w w.heap.size b l) :
    Calls Try.prog 18 #[.agg (jobC J (.slice a n c)), .slice b m d] w fun e w' => e = .returned (.tuple #[.int .i64 (worstI (J.setTg (afterS J J.tg l)) (afterS J J.tg l)), .int .i64 0]) ∧ Below w.heap.size w w' := by
  have Hn : Hid (n = J.sh.length) := hn
  have Hh : Hid (Rg w w.heap.size a J.sh) := h
  have Hm : Hid (m = l.length) := hmn
  have Hl : Hid (Is w w.heap.size b l) := hl
  have HJ := hidMk (filed_in hc)
  have Hf := hidMk hc
  clear hn h hc hmn hl
  have b0 : Bk (w.alloc (.cells (jobC J (.slice a n c)) 33)) w.heap.size 33 (jobC J (.slice a n c)) := Bk.new w _ _
  have hW : Below w.heap.size w (w.alloc (.cells (jobC J (.slice a n c)) 33)) := (Below.refl _ _).alloc (Nat.le_refl _) _
  go_enter Try.func18, Try.ntmps18
  go_wp2_with (refine wpList_load_row rfl 33 _ rfl w.heap.size rfl _ (jobC J (.slice a n c)) _ _ b0 Try.underlying33 rfl szJob ?_)
  refine (filed_any J a n c b m d l _ Hn.out hm (Hh.out.up hW) Hm.out hmm (Hl.out.up hW)).mono ?_
  rintro e w1 ⟨he, hb1⟩
  rw [if_pos Hf.out] at he
  subst he
  have hz1 := hb1.size
  simp only [World.size_alloc] at hz1
  have hB1 : Below w.heap.size w w1 := hW.trans (hb1.mono (by simp))
  clear hb1 b0 hW
  obtain ⟨T, hT⟩ : ∃ T, afterS J J.tg l = T := ⟨_, rfl⟩
  have HJ' : Hid ((J.setTg T).In 200) := by have := HJ.out; rw [hT] at this; exact this
  have HT := hidMk hT
  rw [hT]
  clear HJ hT
  go_wp2_with (first | (refine wpList_store_row rfl 68 _ _ rfl w1.heap.size (jobC (J.setTg T) (.slice a n c)) rfl rfl _ _ (Bk.new _ _ _) szWork rfl (oneJob _ _ _ _) ?_; rw [World.setRow_alloc_new]) | (refine wpList_load_row rfl 68 _ rfl w1.heap.size rfl _ (jobC (J.setTg T) (.slice a n c)) _ _ (Bk.new _ _ _) Try.underlying68 rfl szWork ?_))
  refine (worst_any (J.setTg T) a n c _ HJ'.out Hn.out (Hh.out.up (hB1.alloc (by omega) _))).mono ?_
  rintro e w2 ⟨rfl, hb2⟩
  have hB2 : Below w.heap.size w w2 := (hB1.alloc (by omega) _).trans (hb2.mono (by simp; omega))
  go_wp2
  refine bodyPost_ret (v := .tuple #[.int .i64 (worstI (J.setTg T) T), .int .i64 0]) (by simp [results, Try.results18, go_sem]; rfl) rfl ⟨by rw [HT.out], hB2⟩
set_option maxHeartbeats 1000000 in
set_option maxRecDepth 100000 in
theorem spoiledL_ok (J : Jb) (l : List Int) (hc : filedE J l = 0) (a : Option Addr) (n c : Nat) (b : Option Addr) (m d : Nat) (w : World) (hn : n = J.sh.length) (hm : n ≤ 9223372036854775807) (h : Rg w w.heap.size a J.sh)
    (hmn : m = l.length) (hmm : m ≤ 9223372036854775807) (hl : Is w w.heap.size b l) :
    Calls Try.prog 19 #[.agg (jobC J (.slice a n c)), .slice b m d] w fun e w' => e = .returned (.tuple #[.int .i64 (spoilI J.le (afterS J J.tg l)), .int .i64 0]) ∧ Below w.heap.size w w' := by
  have Hn : Hid (n = J.sh.length) := hn
  have Hh : Hid (Rg w w.heap.size a J.sh) := h
  have Hm : Hid (m = l.length) := hmn
  have Hl : Hid (Is w w.heap.size b l) := hl
  have Hf := hidMk hc
  clear hn h hc hmn hl
  have b0 : Bk (w.alloc (.cells (jobC J (.slice a n c)) 33)) w.heap.size 33 (jobC J (.slice a n c)) := Bk.new w _ _
  have hW : Below w.heap.size w (w.alloc (.cells (jobC J (.slice a n c)) 33)) := (Below.refl _ _).alloc (Nat.le_refl _) _
  go_enter Try.func19, Try.ntmps19
  go_wp2_with (refine wpList_load_row rfl 33 _ rfl w.heap.size rfl _ (jobC J (.slice a n c)) _ _ b0 Try.underlying33 rfl szJob ?_)
  refine (filed_any J a n c b m d l _ Hn.out hm (Hh.out.up hW) Hm.out hmm (Hl.out.up hW)).mono ?_
  rintro e w1 ⟨he, hb1⟩
  rw [if_pos Hf.out] at he
  subst he
  have hz1 := hb1.size
  simp only [World.size_alloc] at hz1
  have hB1 : Below w.heap.size w w1 := hW.trans (hb1.mono (by simp))
  clear hb1 b0 hW
  obtain ⟨T, hT⟩ : ∃ T, afterS J J.tg l = T := ⟨_, rfl⟩
  have HT := hidMk hT
  rw [hT]
  clear hT
  go_wp2_with (first | (refine wpList_store_row rfl 68 _ _ rfl w1.heap.size (jobC (J.setTg T) (.slice a n c)) rfl rfl _ _ (Bk.new _ _ _) szWork rfl (oneJob _ _ _ _) ?_; rw [World.setRow_alloc_new]) | (refine wpList_load_row rfl 68 _ rfl w1.heap.size rfl _ (jobC (J.setTg T) (.slice a n c)) _ _ (Bk.new _ _ _) Try.underlying68 rfl szWork ?_))
  refine (spoiled_any (J.setTg T) (.slice a n c) _).mono ?_
  rintro e w2 ⟨rfl, rfl⟩
  have hB2 := (hB1.alloc (B := w.heap.size) (by omega) (.cells (jobC (J.setTg T) (.slice a n c)) 68)).alloc (by simp; omega) (.cells (jobC (J.setTg T) (.slice a n c)) 68)
  go_wp2
  refine bodyPost_ret (v := .tuple #[.int .i64 (spoilI J.le T), .int .i64 0]) (by simp [results, Try.results19, go_sem]; rfl) rfl ⟨by rw [HT.out], hB2⟩
end Go.Proofs.Ytggokdmlijipjaa
/- What a tongue truly is, and how far it is off: numbers. -/
namespace Go.Proofs.Ytggokdmlijipjaa
set_option linter.all false

/-- What a tongue truly is. -/
structure Fd where
  p : Int
  t : Int
  r : Int
/-- A tongue as it is known contains what it truly is. -/
structure Tg.has (T : Tg) (x : Fd) : Prop where
  p : T.p1 ≤ x.p ∧ x.p ≤ T.p2
  t : T.t1 ≤ x.t ∧ x.t ≤ T.t2
  r : T.r1 ≤ x.r ∧ x.r ≤ T.r2
/-- Each number lies in its range. -/
def Ins : List Int → List R2 → Prop
  | [], [] => True
  | n :: l, s :: q => (s.1 ≤ n ∧ n ≤ s.2) ∧ Ins l q
  | _, _ => False
theorem Ins.len : ∀ {l : List Int} {q : List R2}, Ins l q → l.length = q.length
  | [], [], _ => rfl
  | _ :: _, _ :: _, h => by simp [Ins.len h.2]
  | [], _ :: _, h => h.elim
  | _ :: _, [], h => h.elim
theorem Ins.snoc : ∀ {l : List Int} {q : List R2} {n : Int} {s : R2}, Ins l q → s.1 ≤ n ∧ n ≤ s.2 → Ins (l ++ [n]) (q ++ [s])
  | [], [], _, _, _, h => ⟨h, trivial⟩
  | _ :: _, _ :: _, _, _, h, h' => ⟨h.1, Ins.snoc h.2 h'⟩
  | [], _ :: _, _, _, h, _ => h.elim
  | _ :: _, [], _, _, h, _ => h.elim
theorem Ins.all {P : Int → Prop} {Q : R2 → Prop} (hPQ : ∀ n s, s.1 ≤ n ∧ n ≤ s.2 → Q s → P n) : ∀ {l : List Int} {q : List R2}, Ins l q → (∀ s ∈ q, Q s) → ∀ n ∈ l, P n
  | [], [], _, _ => by simp
  | n :: l, s :: q, h, hq => by
    intro m hm
    rcases List.mem_cons.1 hm with rfl | hm
    · exact hPQ _ s h.1 (hq s List.mem_cons_self)
    · exact Ins.all hPQ h.2 (fun s hs => hq s (List.mem_cons_of_mem _ hs)) m hm
  | [], _ :: _, h, _ => h.elim
  | _ :: _, [], h, _ => h.elim
theorem Ins.allR {P : Int → Prop} {Q : R2 → Prop} (hPQ : ∀ n s, s.1 ≤ n ∧ n ≤ s.2 → P n → Q s) : ∀ {l : List Int} {q : List R2}, Ins l q → (∀ n ∈ l, P n) → ∀ s ∈ q, Q s
  | [], [], _, _ => by simp
  | n :: l, s :: q, h, hq => by
    intro m hm
    rcases List.mem_cons.1 hm with rfl | hm
    · exact hPQ n _ h.1 (hq n List.mem_cons_self)
    · exact Ins.allR hPQ h.2 (fun n hn => hq n (List.mem_cons_of_mem _ hn)) m hm
  | [], _ :: _, h, _ => h.elim
  | _ :: _, [], h, _ => h.elim
/-! ### far -/
def farStep (p : Int) (n s : Int) : Int := mx (mx n (p + s)) (-p - s)
def farI (p : Int) (l : List Int) : Int := l.foldl (farStep p) 0
theorem farf_le (p m : Int) : ∀ (l : List Int) (z : Int), l.foldl (farStep p) z ≤ m ↔ z ≤ m ∧ ∀ s ∈ l, p + s ≤ m ∧ -p - s ≤ m
  | [], z => by simp
  | s :: l, z => by
    have ih := farf_le p m l (farStep p z s)
    have hs : farStep p z s ≤ m ↔ z ≤ m ∧ p + s ≤ m ∧ -p - s ≤ m := by
      unfold farStep mx
      refine ⟨fun h => ?_, fun h => ?_⟩ <;> revert h <;> (repeat' split) <;> omega
    show l.foldl (farStep p) (farStep p z s) ≤ m ↔ _
    rw [ih, hs]
    simp only [List.forall_mem_cons]
    exact ⟨fun ⟨⟨a, b, c⟩, d⟩ => ⟨a, ⟨b, c⟩, d⟩, fun ⟨a, ⟨b, c⟩, d⟩ => ⟨⟨a, b, c⟩, d⟩⟩
theorem far_le (p m : Int) (l : List Int) : farI p l ≤ m ↔ 0 ≤ m ∧ ∀ s ∈ l, p + s ≤ m ∧ -p - s ≤ m := farf_le p m l 0
theorem far_bnd (p : Int) (hp : -500 ≤ p ∧ p ≤ 500) : ∀ (l : List Int) (m : Int), (∀ s ∈ l, -100 ≤ s ∧ s ≤ 100) → 0 ≤ m ∧ m ≤ 1000 → 0 ≤ l.foldl (farStep p) m ∧ l.foldl (farStep p) m ≤ 1000
  | [], m, _, h => h
  | s :: l, m, hs, h => by
    have h1 := hs s List.mem_cons_self
    refine far_bnd p hp l _ (fun q hq => hs q (List.mem_cons_of_mem _ hq)) ?_
    unfold farStep mx
    refine ⟨?_, ?_⟩ <;> (repeat' split) <;> omega
theorem far_snoc (p : Int) (l : List Int) (s : Int) : (l ++ [s]).foldl (farStep p) 0 = farStep p (l.foldl (farStep p) 0) s := by simp
end Go.Proofs.Ytggokdmlijipjaa
/- Numbers of the law ReedTrue: what truly is so lies within what is told. -/
namespace Go.Proofs.Ytggokdmlijipjaa
set_option linter.all false
open Go.RowKit

theorem pos_iff (wi n : Int) (sh : List R2) : ((pos wi sh).1 ≤ n ∧ n ≤ (pos wi sh).2) ↔ ∀ s ∈ conds sh, -wi - s.2 ≤ n ∧ n ≤ wi - s.1 := by
  have key : ∀ l : List R2, l ≠ [] → (((meetAll (l.map (possOf wi))).1 ≤ n ∧ n ≤ (meetAll (l.map (possOf wi))).2) ↔ ∀ s ∈ l, -wi - s.2 ≤ n ∧ n ≤ wi - s.1) := by
    intro l hl
    cases l with
    | nil => exact absurd rfl hl
    | cons s l =>
      show ((meetL (possOf wi s) (l.map (possOf wi))).1 ≤ n ∧ n ≤ (meetL (possOf wi s) (l.map (possOf wi))).2) ↔ _
      rw [meetL_iff]
      simp only [possOf, List.forall_mem_map, List.forall_mem_cons]
  refine key (conds sh) ?_
  unfold conds
  split
  · simp
  · assumption
/-! ### verdicts -/
/-- A verdict is right. -/
def RightI (v : Int) (is : Bool) : Prop := v = 3 ∨ (v = 1 ∧ is = true) ∨ (v = 2 ∧ is = false)
theorem RightI.of {v : Int} {p : Prop} [Decidable p] (h : v = 3 ∨ (v = 1 ∧ p) ∨ (v = 2 ∧ ¬ p)) : RightI v (decide p) := by
  rcases h with h | ⟨h, hp⟩ | ⟨h, hp⟩
  · exact .inl h
  · exact .inr (.inl ⟨h, decide_eq_true hp⟩)
  · exact .inr (.inr ⟨h, decide_eq_false hp⟩)
theorem pass_right (wi : Int) (hw : 0 ≤ wi) (sh : List R2) (a b p : Int) (hp : a ≤ p ∧ p ≤ b) (l : List Int) (hl : Ins l (conds sh)) : passI wi sh a b = 3 ∨ (passI wi sh a b = 1 ∧ farI p l ≤ wi) ∨ (passI wi sh a b = 2 ∧ ¬ farI p l ≤ wi) := by
  unfold passI
  by_cases h : (win wi sh).1 ≤ a ∧ b ≤ (win wi sh).2
  · rw [if_pos h]
    refine .inr (.inl ⟨rfl, ?_⟩)
    rw [far_le]
    refine ⟨hw, ?_⟩
    have hin := (win_iff wi p sh).1 (by omega)
    exact Ins.all (Q := fun s => -wi - s.1 ≤ p ∧ p ≤ wi - s.2) (fun n s h1 h2 => by omega) hl hin
  · rw [if_neg h]
    by_cases h2 : (meet2 (pos wi sh) (a, b)).2 < (meet2 (pos wi sh) (a, b)).1
    · rw [if_pos h2]
      refine .inr (.inr ⟨rfl, fun hf => ?_⟩)
      rw [far_le] at hf
      have hin := (pos_iff wi p sh).2 (Ins.allR (P := fun s => p + s ≤ wi ∧ -p - s ≤ wi) (fun n s h1 h2 => by omega) hl hf.2)
      revert h2
      unfold meet2
      simp only
      split <;> split <;> omega
    · rw [if_neg h2]; exact .inl rfl
theorem heard_has (J : Jb) (p m : Int) (hp : J.p1 ≤ p ∧ p ≤ J.p2) (hm : -J.me ≤ m ∧ m ≤ J.me) : (hearI J (p + m)).2 = 0 ∧ ((hearI J (p + m)).1.1 ≤ p ∧ p ≤ (hearI J (p + m)).1.2) ∧ (J.p1 ≤ (hearI J (p + m)).1.1 ∧ (hearI J (p + m)).1.2 ≤ J.p2) := by
  unfold hearI
  rw [if_neg (by omega)]
  refine ⟨rfl, ?_⟩
  unfold heardR meet2
  simp only
  refine ⟨⟨?_, ?_⟩, ?_, ?_⟩ <;> split <;> omega
theorem strk_tip {J : Jb} {T : Tg} {x : Fd} {u v : Int} (h : T.has x) (hu : J.u1 ≤ u ∧ u ≤ J.u2) (hv : J.x1 ≤ v ∧ v ≤ J.x2) : (strk J T 1).has ⟨x.p + u, x.t - v, x.r⟩ := by
  have hp := h.p
  have ht := h.t
  have hr := h.r
  unfold strk
  rw [if_pos rfl]
  exact ⟨⟨by show T.p1 + J.u1 ≤ x.p + u; omega, by show x.p + u ≤ T.p2 + J.u2; omega⟩, ⟨by show T.t1 - J.x2 ≤ x.t - v; omega, by show x.t - v ≤ T.t2 - J.x1; omega⟩, hr⟩
theorem strk_root {J : Jb} {T : Tg} {x : Fd} {u v : Int} (h : T.has x) (hu : J.d1 ≤ u ∧ u ≤ J.d2) (hv : J.y1 ≤ v ∧ v ≤ J.y2) : (strk J T 2).has ⟨x.p - u, x.t, x.r - v⟩ := by
  have hp := h.p
  have ht := h.t
  have hr := h.r
  unfold strk
  rw [if_neg (by decide), if_pos rfl]
  exact ⟨⟨by show T.p1 - J.d2 ≤ x.p - u; omega, by show x.p - u ≤ T.p2 - J.d1; omega⟩, ht, ⟨by show T.r1 - J.y2 ≤ x.r - v; omega, by show x.r - v ≤ T.r2 - J.y1; omega⟩⟩
theorem far_worst (J : Jb) (T : Tg) (p : Int) (hp : T.p1 ≤ p ∧ p ≤ T.p2) (l : List Int) (hl : Ins l (conds J.sh)) : farI p l ≤ worstI J T := by
  have h := (foldm_le T (worstI J T) (conds J.sh) 0).1 (Int.le_refl _)
  rw [far_le]
  exact ⟨h.1, Ins.all (Q := fun s => -(T.p1 + s.1) ≤ worstI J T ∧ T.p2 + s.2 ≤ worstI J T) (fun n s h1 h2 => by omega) hl h.2⟩
theorem spoil_right (le : Int) (T : Tg) (x : Fd) (h : T.has x) : spoilI le T = 3 ∨ (spoilI le T = 1 ∧ (x.t < le ∨ x.r < le)) ∨ (spoilI le T = 2 ∧ ¬ (x.t < le ∨ x.r < le)) := by
  have ht := h.t
  have hr := h.r
  unfold spoilI
  by_cases h1 : T.t2 < le ∨ T.r2 < le
  · rw [if_pos h1]; exact .inr (.inl ⟨rfl, by omega⟩)
  · rw [if_neg h1]
    by_cases h2 : le ≤ T.t1 ∧ le ≤ T.r1
    · rw [if_pos h2]; exact .inr (.inr ⟨rfl, by omega⟩)
    · rw [if_neg h2]; exact .inl rfl
theorem fine_right (J : Jb) (hw : 0 ≤ J.wi) (T : Tg) (x : Fd) (h : T.has x) (l : List Int) (hl : Ins l (conds J.sh)) : fineI J T = 3 ∨ (fineI J T = 1 ∧ (farI x.p l ≤ J.wi ∧ ¬ (x.t < J.le ∨ x.r < J.le))) ∨ (fineI J T = 2 ∧ ¬ (farI x.p l ≤ J.wi ∧ ¬ (x.t < J.le ∨ x.r < J.le))) := by
  have hp := pass_right J.wi hw J.sh T.p1 T.p2 x.p h.p l hl
  have hs := spoil_right J.le T x h
  unfold fineI
  by_cases h1 : passI J.wi J.sh T.p1 T.p2 = 1 ∧ spoilI J.le T = 2
  · rw [if_pos h1]
    refine .inr (.inl ⟨rfl, ?_, ?_⟩)
    · rcases hp with e | ⟨_, e⟩ | ⟨e, _⟩
      · omega
      · exact e
      · omega
    · rcases hs with e | ⟨e, _⟩ | ⟨_, e⟩
      · omega
      · omega
      · exact e
  · rw [if_neg h1]
    by_cases h2 : passI J.wi J.sh T.p1 T.p2 = 2 ∨ spoilI J.le T = 1
    · rw [if_pos h2]
      refine .inr (.inr ⟨rfl, fun hx => ?_⟩)
      rcases h2 with h2 | h2
      · rcases hp with e | ⟨e, _⟩ | ⟨_, e⟩
        · omega
        · omega
        · exact e hx.1
      · rcases hs with e | ⟨_, e⟩ | ⟨e, _⟩
        · omega
        · exact hx.2 e
        · omega
    · rw [if_neg h2]; exact .inl rfl
/-- What a tongue truly is lies in bounds, if the tongue does. -/
theorem Tg.has.bnd {T : Tg} {x : Fd} {n : Int} (h : T.has x) (hT : T.In n) : (-n ≤ x.p ∧ x.p ≤ n) ∧ (-n ≤ x.t ∧ x.t ≤ n) ∧ (-n ≤ x.r ∧ x.r ≤ n) := by
  have h1 := h.p
  have h2 := h.t
  have h3 := h.r
  simp only [Tg.In] at hT
  omega
end Go.Proofs.Ytggokdmlijipjaa
/- Contracts of the law's small helpers: right, Wider, far. -/
namespace Go.Proofs.Ytggokdmlijipjaa
set_option linter.all false
open Go.RowKit

theorem right_any (v : Int) (is : Bool) (w : World) (h : RightI v is) : Calls Try.prog 12 #[.int .i64 v, .bool is] w fun e w' => e = .returned (.bool true) ∧ Below w.heap.size w w' := by
  rcases h with rfl | ⟨rfl, rfl⟩ | ⟨rfl, rfl⟩
  · go_enter Try.func12, Try.ntmps12
    go_wp2
    go_ret
    exact ⟨rfl, Below.refl _ _⟩
  · go_enter Try.func12, Try.ntmps12
    go_wp2
    go_ret
    exact ⟨rfl, Below.refl _ _⟩
  · go_enter Try.func12, Try.ntmps12
    go_wp2
    go_ret
    exact ⟨rfl, Below.refl _ _⟩
theorem wider_any (a b c d : Int) (w : World) (h1 : a ≤ c) (h2 : d ≤ b) :
    Calls Try.prog 15 #[.agg #[.int .i64 a, .int .i64 b], .agg #[.int .i64 c, .int .i64 d]] w fun e w' => e = .returned (.bool true) ∧ Below w.heap.size w w' := by
  go_enter Try.func15, Try.ntmps15
  go_wp2
  go_ret
  exact ⟨rfl, ((Below.refl _ _).alloc (Nat.le_refl _) _).alloc (by simp) _⟩
theorem far_take (p : Int) (hp : -500 ≤ p ∧ p ≤ 500) (l : List Int) (hl : ∀ s ∈ l, -100 ≤ s ∧ s ≤ 100) (k : Nat) : 0 ≤ (l.take k).foldl (farStep p) 0 ∧ (l.take k).foldl (farStep p) 0 ≤ 1000 :=
  far_bnd p hp _ 0 (fun s hs => hl s (List.mem_of_mem_take hs)) (by decide)
set_option maxHeartbeats 1000000 in
set_option maxRecDepth 100000 in
theorem far_any (p : Int) (hp : -500 ≤ p ∧ p ≤ 500) (a : Option Addr) (n c : Nat) (l : List Int) (w : World) (hn : n = l.length) (hm : n ≤ 4) (hl : ∀ s ∈ l, -100 ≤ s ∧ s ≤ 100) (h : Is w w.heap.size a l) :
    Calls Try.prog 13 #[.int .i64 p, .slice a n c] w fun e w' => e = .returned (.int .i64 (farI p l)) ∧ Below w.heap.size w w' := by
  have Hl := hidMk hl
  have Hn := hidMk hn
  have Hh := hidMk h
  obtain ⟨hp1, hp2⟩ := hp
  clear hl hn h
  go_enter Try.func13, Try.ntmps13
  go_wp2_with fail
  go_loopw [5, 6] (fun v i wr => ∃ k : Nat, k ≤ n ∧ i = .int .i64 k ∧ v = .int .i64 ((l.take k).foldl (farStep p) 0) ∧ Below w.heap.size w wr) (fun _ i _ => n - (intOf i).toNat)
  case atStart => exact ⟨0, Nat.zero_le _, rfl, rfl, Below.refl _ _⟩
  case round =>
    obtain ⟨k, hk, rfl, rfl, hB⟩ := hrel
    have hs := hB.size
    obtain ⟨hv1, hv2⟩ := far_take p ⟨hp1, hp2⟩ l Hl.out k
    by_cases hlt : k < n
    · have hkl : k < l.length := by rw [← Hn.out]; exact hlt
      obtain ⟨b, off, rfl, hbl, e0⟩ := Hh.out k l[k] (List.getElem?_eq_getElem hkl)
      replace e0 := (hB.cell (p := ⟨b, off + k, none⟩) hbl).trans e0
      have hbl' : b < wr.heap.size := by omega
      obtain ⟨s1, s2⟩ := Hl.out _ (List.getElem_mem hkl)
      have htk := hidMk (take_snoc l k hkl)
      obtain ⟨s, Hs⟩ : ∃ s, Hid (s = l[k]) := ⟨_, hidMk rfl⟩
      rw [← Hs.out] at e0 s1 s2
      obtain ⟨v, Hv⟩ : ∃ v, Hid (v = (l.take k).foldl (farStep p) 0) := ⟨_, hidMk rfl⟩
      rw [← Hv.out] at hv1 hv2 ⊢
      go_wp2_with fail
      go_region
      go_wp2_with fail
      go_roundw
      case rel => exact ⟨k + 1, by omega, by go_num, by rw [htk.out, far_snoc, ← Hv.out, ← Hs.out]; unfold farStep mx; go_num, by first | exact hB | exact hB.drew⟩
      case measure => simp [intOf]; omega
    · obtain rfl : k = n := by omega
      go_wp2_with fail
      go_ret
      refine ⟨?_, hB⟩
      unfold farI
      rw [show l.take k = l by rw [Hn.out]; exact List.take_length]
      rfl
end Go.Proofs.Ytggokdmlijipjaa
/- Contracts of FiledOf and Strike. -/
namespace Go.Proofs.Ytggokdmlijipjaa
set_option linter.all false
open Go.RowKit

theorem szFiled : (Try.prog.info? 37).map (·.size) = some 3 := by kernel_rfl
abbrev fdV (x : Fd) : Value := .agg #[.int .i64 x.p, .int .i64 x.t, .int .i64 x.r]
set_option maxHeartbeats 2000000 in
set_option maxRecDepth 100000 in
theorem filedOf_any (b : Nat) (J : Jb) (s : Value) (w : World) (hp : Pt w b) (hJ : J.In 200) (h1 : J.p1 ≤ J.p2) (h2 : J.t1 ≤ J.t2) (h3 : J.r1 ≤ J.r2) :
    Calls Try.prog 7 #[.pointer (some ⟨b, 0, none⟩), .agg (jobC J s)] w fun e w' => ∃ x : Fd, e = .returned (fdV x) ∧ J.tg.has x ∧ PB b w.heap.size w w' ∧ Pt w' b := by
  have hlt := hp.lt
  have P1 := hJ.p1
  have P2 := hJ.p2
  have T1 := hJ.t1
  have T2 := hJ.t2
  have R1 := hJ.r1
  have R2 := hJ.r2
  clear hJ
  have b0 : Bk ((w.alloc (.cells (jobC J s) 33)).alloc (.cells #[.int .i64 0, .int .i64 0, .int .i64 0] 37)) w.heap.size 33 (jobC J s) := (Bk.new w _ _).alloc _
  have r0 : Bk ((w.alloc (.cells (jobC J s) 33)).alloc (.cells #[.int .i64 0, .int .i64 0, .int .i64 0] 37)) (w.heap.size + 1) 37 #[.int .i64 0, .int .i64 0, .int .i64 0] := Bk.newAt _ _ _ _ (by simp)
  have p0 := (hp.alloc (.cells (jobC J s) 33)).alloc (.cells #[.int .i64 0, .int .i64 0, .int .i64 0] 37)
  have k0 : PB b w.heap.size w ((w.alloc (.cells (jobC J s) 33)).alloc (.cells #[.int .i64 0, .int .i64 0, .int .i64 0] 37)) := ((PB.refl _ _ _).alloc (Nat.le_refl _) _).alloc (by simp) _
  have hne : w.heap.size ≠ b := by omega
  have hne2 : w.heap.size + 1 ≠ b := by omega
  go_enter Try.func7, Try.ntmps7
  go_wp2_with fail
  go_region_held3 (fun w' => w'.cell? ⟨w.heap.size, 0, none⟩ = some (.int .i64 J.p1) ∧ w'.cell? ⟨w.heap.size, 1, none⟩ = some (.int .i64 J.p2) ∧ w'.cell? ⟨w.heap.size, 2, none⟩ = some (.int .i64 J.t1) ∧ w'.cell? ⟨w.heap.size, 3, none⟩ = some (.int .i64 J.t2) ∧ w'.cell? ⟨w.heap.size, 4, none⟩ = some (.int .i64 J.r1) ∧ w'.cell? ⟨w.heap.size, 5, none⟩ = some (.int .i64 J.r2)) (first | exact ⟨b3.at_ 0 _ rfl, b3.at_ 1 _ rfl, b3.at_ 2 _ rfl, b3.at_ 3 _ rfl, b3.at_ 4 _ rfl, b3.at_ 5 _ rfl⟩ | exact ⟨b2.at_ 0 _ rfl, b2.at_ 1 _ rfl, b2.at_ 2 _ rfl, b2.at_ 3 _ rfl, b2.at_ 4 _ rfl, b2.at_ 5 _ rfl⟩ | exact ⟨b1.at_ 0 _ rfl, b1.at_ 1 _ rfl, b1.at_ 2 _ rfl, b1.at_ 3 _ rfl, b1.at_ 4 _ rfl, b1.at_ 5 _ rfl⟩ | exact ⟨b0.at_ 0 _ rfl, b0.at_ 1 _ rfl, b0.at_ 2 _ rfl, b0.at_ 3 _ rfl, b0.at_ 4 _ rfl, b0.at_ 5 _ rfl⟩ | go_keep)
    (first
    | (have q2 := p2; go_at_call 25; refine (innerP _ J.r1 J.r2 _ p2 (by omega)).mono ?_; rintro e w3 ⟨x3, rfl, hx3, hk3, p3⟩; have hz3 := hk3.size; (try simp at hz3); have b3 := (b2.pb hk3 (by omega) hne : Bk w3 w.heap.size 33 (jobC J s)); have r3 := (r2.pb hk3 (by omega) hne2 : Bk w3 (w.heap.size + 1) 37 #[.int .i64 0, .int .i64 0, .int .i64 0]); have k3 := (k2.trans hk3 (by omega) : PB b w.heap.size w w3); have d0 := r3.at_ 0 _ rfl; have d1 := r3.at_ 1 _ rfl; have d2 := r3.at_ 2 _ rfl; have f0 := r3.free 0; have f1 := r3.free 1; have f2 := r3.free 2)
    | ((fail_if_success have q1 := p1); go_at_call 25; refine (innerP _ J.p1 J.p2 _ p0.drew (by omega)).mono ?_; rintro e w1 ⟨x1, rfl, hx1, hk1, p1⟩; have hz1 := hk1.size; (try simp at hz1); have b1 := (b0.drew.pb hk1 (by simp <;> omega) hne : Bk w1 w.heap.size 33 (jobC J s)); have r1 := (r0.drew.pb hk1 (by simp <;> omega) hne2 : Bk w1 (w.heap.size + 1) 37 #[.int .i64 0, .int .i64 0, .int .i64 0]); have k1 := (PB.trans (PB.below k0 (Below.refl _ _).drew (Nat.le_refl _)) hk1 (by simp <;> omega) : PB b w.heap.size w w1))
    | (have q1 := p1; (fail_if_success have q1 := p2); go_at_call 25; refine (innerP _ J.t1 J.t2 _ p1 (by omega)).mono ?_; rintro e w2 ⟨x2, rfl, hx2, hk2, p2⟩; have hz2 := hk2.size; (try simp at hz2); have b2 := (b1.pb hk2 (by omega) hne : Bk w2 w.heap.size 33 (jobC J s)); have r2 := (r1.pb hk2 (by omega) hne2 : Bk w2 (w.heap.size + 1) 37 #[.int .i64 0, .int .i64 0, .int .i64 0]); have k2 := (k1.trans hk2 (by omega) : PB b w.heap.size w w2)))
  go_wp2_with fail
  have hr := ((r3.put 0 (.int .i64 x1)).put 1 (.int .i64 x2)).put 2 (.int .i64 x3)
  refine bodyPost_ret (v := fdV ⟨x1, x2, x3⟩) (results_cell_row Try.results7 _ _ _ _ _ _ _ rfl hr Try.underlying37 rfl szFiled) rfl ⟨⟨x1, x2, x3⟩, rfl, ⟨hx1, hx2, hx3⟩, ?_, ?_⟩
  · exact ((k3.setCell (p := ⟨w.heap.size + 1, 0, none⟩) (by simp) _).setCell (p := ⟨w.heap.size + 1, 1, none⟩) (by simp) _).setCell (p := ⟨w.heap.size + 1, 2, none⟩) (by simp) _
  · exact ((p3.other (p := ⟨w.heap.size + 1, 0, none⟩) hne2.symm _).other (p := ⟨w.heap.size + 1, 1, none⟩) hne2.symm _).other (p := ⟨w.heap.size + 1, 2, none⟩) hne2.symm _
set_option maxHeartbeats 2000000 in
set_option maxRecDepth 100000 in
theorem strikeTip_any (b : Nat) (J : Jb) (s : Value) (T : Tg) (x : Fd) (w : World) (hp : Pt w b) (hJ : J.In 200) (h1 : J.u1 ≤ J.u2) (h2 : J.x1 ≤ J.x2) (hT : T.has x) (hbx : (-300 ≤ x.p ∧ x.p ≤ 300) ∧ (-300 ≤ x.t ∧ x.t ≤ 300) ∧ (-300 ≤ x.r ∧ x.r ≤ 300)) :
    Calls Try.prog 16 #[.pointer (some ⟨b, 0, none⟩), .agg (jobC J s), fdV x, .int .i64 1] w fun e w' => ∃ y : Fd, e = .returned (fdV y) ∧ (strk J T 1).has y ∧ PB b w.heap.size w w' ∧ Pt w' b := by
  have hlt := hp.lt
  obtain ⟨⟨xp1, xp2⟩, ⟨xt1, xt2⟩, xr1, xr2⟩ := hbx
  have A1 := hJ.u1
  have A2 := hJ.u2
  have B1 := hJ.x1
  have B2 := hJ.x2
  clear hJ
  have b0 : Bk (((w.alloc (.cells (jobC J s) 33)).alloc (.cells #[.int .i64 x.p, .int .i64 x.t, .int .i64 x.r] 37)).alloc (.cells #[.int .i64 0, .int .i64 0, .int .i64 0] 37)) w.heap.size 33 (jobC J s) := ((Bk.new w _ _).alloc _).alloc _
  have t0 : Bk (((w.alloc (.cells (jobC J s) 33)).alloc (.cells #[.int .i64 x.p, .int .i64 x.t, .int .i64 x.r] 37)).alloc (.cells #[.int .i64 0, .int .i64 0, .int .i64 0] 37)) (w.heap.size + 1) 37 #[.int .i64 x.p, .int .i64 x.t, .int .i64 x.r] := (Bk.newAt _ _ _ _ (by simp)).alloc _
  have r0 : Bk (((w.alloc (.cells (jobC J s) 33)).alloc (.cells #[.int .i64 x.p, .int .i64 x.t, .int .i64 x.r] 37)).alloc (.cells #[.int .i64 0, .int .i64 0, .int .i64 0] 37)) (w.heap.size + 1 + 1) 37 #[.int .i64 0, .int .i64 0, .int .i64 0] := Bk.newAt _ _ _ _ (by simp)
  have p0 := ((hp.alloc (.cells (jobC J s) 33)).alloc (.cells #[.int .i64 x.p, .int .i64 x.t, .int .i64 x.r] 37)).alloc (.cells #[.int .i64 0, .int .i64 0, .int .i64 0] 37)
  have k0 : PB b w.heap.size w (((w.alloc (.cells (jobC J s) 33)).alloc (.cells #[.int .i64 x.p, .int .i64 x.t, .int .i64 x.r] 37)).alloc (.cells #[.int .i64 0, .int .i64 0, .int .i64 0] 37)) := (((PB.refl _ _ _).alloc (Nat.le_refl _) _).alloc (by simp) _).alloc (by simp; omega) _
  have hne : w.heap.size ≠ b := by omega
  have hne1 : w.heap.size + 1 ≠ b := by omega
  have hne2 : w.heap.size + 1 + 1 ≠ b := by omega
  go_enter Try.func16, Try.ntmps16
  go_wp2_with fail
  go_region_held3 (fun w' => w'.cell? ⟨w.heap.size, 6, none⟩ = some (.int .i64 J.u1) ∧ w'.cell? ⟨w.heap.size, 7, none⟩ = some (.int .i64 J.u2) ∧ w'.cell? ⟨w.heap.size, 10, none⟩ = some (.int .i64 J.x1) ∧ w'.cell? ⟨w.heap.size, 11, none⟩ = some (.int .i64 J.x2) ∧ w'.cell? ⟨w.heap.size + 1, 0, none⟩ = some (.int .i64 x.p) ∧ w'.cell? ⟨w.heap.size + 1, 1, none⟩ = some (.int .i64 x.t) ∧ w'.cell? ⟨w.heap.size + 1, 2, none⟩ = some (.int .i64 x.r)) (first | exact ⟨b2.at_ 6 _ rfl, b2.at_ 7 _ rfl, b2.at_ 10 _ rfl, b2.at_ 11 _ rfl, t2.at_ 0 _ rfl, t2.at_ 1 _ rfl, t2.at_ 2 _ rfl⟩ | exact ⟨b1.at_ 6 _ rfl, b1.at_ 7 _ rfl, b1.at_ 10 _ rfl, b1.at_ 11 _ rfl, t1.at_ 0 _ rfl, t1.at_ 1 _ rfl, t1.at_ 2 _ rfl⟩ | exact ⟨b0.at_ 6 _ rfl, b0.at_ 7 _ rfl, b0.at_ 10 _ rfl, b0.at_ 11 _ rfl, t0.at_ 0 _ rfl, t0.at_ 1 _ rfl, t0.at_ 2 _ rfl⟩ | (simp (disch := omega) only [cell_other]; exact ⟨b2.at_ 6 _ rfl, b2.at_ 7 _ rfl, b2.at_ 10 _ rfl, b2.at_ 11 _ rfl, t2.at_ 0 _ rfl, t2.at_ 1 _ rfl, t2.at_ 2 _ rfl⟩) | go_keep)
    (first
    | ((fail_if_success have q9 := p1); go_at_call 25; refine (innerP _ J.u1 J.u2 _ p0.drew (by omega)).mono ?_; rintro e w1 ⟨x1, rfl, hx1, hk1, p1⟩; have hz1 := hk1.size; (try simp at hz1); have b1 := (b0.drew.pb hk1 (by simp <;> omega) hne : Bk w1 w.heap.size 33 (jobC J s)); have t1 := (t0.drew.pb hk1 (by simp <;> omega) hne1 : Bk w1 (w.heap.size + 1) 37 #[.int .i64 x.p, .int .i64 x.t, .int .i64 x.r]); have r1 := (r0.drew.pb hk1 (by simp <;> omega) hne2 : Bk w1 (w.heap.size + 1 + 1) 37 #[.int .i64 0, .int .i64 0, .int .i64 0]); have k1 := (PB.trans (PB.below k0 (Below.refl _ _).drew (Nat.le_refl _)) hk1 (by simp <;> omega) : PB b w.heap.size w w1))
    | (have q1 := p1; (fail_if_success have q9 := p2); go_at_call 25; refine (innerP _ J.x1 J.x2 _ p1 (by omega)).mono ?_; rintro e w2 ⟨x2, rfl, hx2, hk2, p2⟩; have hz2 := hk2.size; (try simp at hz2); have b2 := (b1.pb hk2 (by omega) hne : Bk w2 w.heap.size 33 (jobC J s)); have t2 := (t1.pb hk2 (by omega) hne1 : Bk w2 (w.heap.size + 1) 37 #[.int .i64 x.p, .int .i64 x.t, .int .i64 x.r]); have r2 := (r1.pb hk2 (by omega) hne2 : Bk w2 (w.heap.size + 1 + 1) 37 #[.int .i64 0, .int .i64 0, .int .i64 0]); have k2 := (k1.trans hk2 (by omega) : PB b w.heap.size w w2); have d0 := r2.at_ 0 _ rfl; have d1 := r2.at_ 1 _ rfl; have d2 := r2.at_ 2 _ rfl; have f0 := r2.free 0; have f1 := r2.free 1; have f2 := r2.free 2))
  go_wp2_with fail
  have e1 : IntKind.i64.wrap (x.p + x1) = x.p + x1 := IntWalk.i64_in _ (by omega)
  have e2 : IntKind.i64.wrap (x.t - x2) = x.t - x2 := IntWalk.i64_in _ (by omega)
  rw [e1, e2]
  have hr := ((r2.put 0 (.int .i64 (x.p + x1))).put 1 (.int .i64 (x.t - x2))).put 2 (.int .i64 (x.r))
  refine bodyPost_ret (v := fdV ⟨x.p + x1, x.t - x2, x.r⟩) (results_cell_row Try.results16 _ _ _ _ _ _ _ rfl hr Try.underlying37 rfl szFiled) rfl ⟨⟨x.p + x1, x.t - x2, x.r⟩, rfl, strk_tip hT hx1 hx2, ?_, ?_⟩
  · exact ((k2.setCell (p := ⟨w.heap.size + 1 + 1, 0, none⟩) (by simp; omega) _).setCell (p := ⟨w.heap.size + 1 + 1, 1, none⟩) (by simp; omega) _).setCell (p := ⟨w.heap.size + 1 + 1, 2, none⟩) (by simp; omega) _
  · exact ((p2.other (p := ⟨w.heap.size + 1 + 1, 0, none⟩) hne2.symm _).other (p := ⟨w.heap.size + 1 + 1, 1, none⟩) hne2.symm _).other (p := ⟨w.heap.size + 1 + 1, 2, none⟩) hne2.symm _
set_option maxHeartbeats 2000000 in
set_option maxRecDepth 100000 in
theorem strikeRoot_any (b : Nat) (J : Jb) (s : Value) (T : Tg) (x : Fd) (w : World) (hp : Pt w b) (hJ : J.In 200) (h1 : J.d1 ≤ J.d2) (h2 : J.y1 ≤ J.y2) (hT : T.has x) (hbx : (-300 ≤ x.p ∧ x.p ≤ 300) ∧ (-300 ≤ x.t ∧ x.t ≤ 300) ∧ (-300 ≤ x.r ∧ x.r ≤ 300)) :
    Calls Try.prog 16 #[.pointer (some ⟨b, 0, none⟩), .agg (jobC J s), fdV x, .int .i64 2] w fun e w' => ∃ y : Fd, e = .returned (fdV y) ∧ (strk J T 2).has y ∧ PB b w.heap.size w w' ∧ Pt w' b := by
  have hlt := hp.lt
  obtain ⟨⟨xp1, xp2⟩, ⟨xt1, xt2⟩, xr1, xr2⟩ := hbx
  have A1 := hJ.d1
  have A2 := hJ.d2
  have B1 := hJ.y1
  have B2 := hJ.y2
  clear hJ
  have b0 : Bk (((w.alloc (.cells (jobC J s) 33)).alloc (.cells #[.int .i64 x.p, .int .i64 x.t, .int .i64 x.r] 37)).alloc (.cells #[.int .i64 0, .int .i64 0, .int .i64 0] 37)) w.heap.size 33 (jobC J s) := ((Bk.new w _ _).alloc _).alloc _
  have t0 : Bk (((w.alloc (.cells (jobC J s) 33)).alloc (.cells #[.int .i64 x.p, .int .i64 x.t, .int .i64 x.r] 37)).alloc (.cells #[.int .i64 0, .int .i64 0, .int .i64 0] 37)) (w.heap.size + 1) 37 #[.int .i64 x.p, .int .i64 x.t, .int .i64 x.r] := (Bk.newAt _ _ _ _ (by simp)).alloc _
  have r0 : Bk (((w.alloc (.cells (jobC J s) 33)).alloc (.cells #[.int .i64 x.p, .int .i64 x.t, .int .i64 x.r] 37)).alloc (.cells #[.int .i64 0, .int .i64 0, .int .i64 0] 37)) (w.heap.size + 1 + 1) 37 #[.int .i64 0, .int .i64 0, .int .i64 0] := Bk.newAt _ _ _ _ (by simp)
  have p0 := ((hp.alloc (.cells (jobC J s) 33)).alloc (.cells #[.int .i64 x.p, .int .i64 x.t, .int .i64 x.r] 37)).alloc (.cells #[.int .i64 0, .int .i64 0, .int .i64 0] 37)
  have k0 : PB b w.heap.size w (((w.alloc (.cells (jobC J s) 33)).alloc (.cells #[.int .i64 x.p, .int .i64 x.t, .int .i64 x.r] 37)).alloc (.cells #[.int .i64 0, .int .i64 0, .int .i64 0] 37)) := (((PB.refl _ _ _).alloc (Nat.le_refl _) _).alloc (by simp) _).alloc (by simp; omega) _
  have hne : w.heap.size ≠ b := by omega
  have hne1 : w.heap.size + 1 ≠ b := by omega
  have hne2 : w.heap.size + 1 + 1 ≠ b := by omega
  go_enter Try.func16, Try.ntmps16
  go_wp2_with fail
  go_region_held3 (fun w' => w'.cell? ⟨w.heap.size, 8, none⟩ = some (.int .i64 J.d1) ∧ w'.cell? ⟨w.heap.size, 9, none⟩ = some (.int .i64 J.d2) ∧ w'.cell? ⟨w.heap.size, 12, none⟩ = some (.int .i64 J.y1) ∧ w'.cell? ⟨w.heap.size, 13, none⟩ = some (.int .i64 J.y2) ∧ w'.cell? ⟨w.heap.size + 1, 0, none⟩ = some (.int .i64 x.p) ∧ w'.cell? ⟨w.heap.size + 1, 1, none⟩ = some (.int .i64 x.t) ∧ w'.cell? ⟨w.heap.size + 1, 2, none⟩ = some (.int .i64 x.r)) (first | exact ⟨b2.at_ 8 _ rfl, b2.at_ 9 _ rfl, b2.at_ 12 _ rfl, b2.at_ 13 _ rfl, t2.at_ 0 _ rfl, t2.at_ 1 _ rfl, t2.at_ 2 _ rfl⟩ | exact ⟨b1.at_ 8 _ rfl, b1.at_ 9 _ rfl, b1.at_ 12 _ rfl, b1.at_ 13 _ rfl, t1.at_ 0 _ rfl, t1.at_ 1 _ rfl, t1.at_ 2 _ rfl⟩ | exact ⟨b0.at_ 8 _ rfl, b0.at_ 9 _ rfl, b0.at_ 12 _ rfl, b0.at_ 13 _ rfl, t0.at_ 0 _ rfl, t0.at_ 1 _ rfl, t0.at_ 2 _ rfl⟩ | (simp (disch := omega) only [cell_other]; exact ⟨b2.at_ 8 _ rfl, b2.at_ 9 _ rfl, b2.at_ 12 _ rfl, b2.at_ 13 _ rfl, t2.at_ 0 _ rfl, t2.at_ 1 _ rfl, t2.at_ 2 _ rfl⟩) | go_keep)
    (first
    | ((fail_if_success have q9 := p1); go_at_call 25; refine (innerP _ J.d1 J.d2 _ p0.drew (by omega)).mono ?_; rintro e w1 ⟨x1, rfl, hx1, hk1, p1⟩; have hz1 := hk1.size; (try simp at hz1); have b1 := (b0.drew.pb hk1 (by simp <;> omega) hne : Bk w1 w.heap.size 33 (jobC J s)); have t1 := (t0.drew.pb hk1 (by simp <;> omega) hne1 : Bk w1 (w.heap.size + 1) 37 #[.int .i64 x.p, .int .i64 x.t, .int .i64 x.r]); have r1 := (r0.drew.pb hk1 (by simp <;> omega) hne2 : Bk w1 (w.heap.size + 1 + 1) 37 #[.int .i64 0, .int .i64 0, .int .i64 0]); have k1 := (PB.trans (PB.below k0 (Below.refl _ _).drew (Nat.le_refl _)) hk1 (by simp <;> omega) : PB b w.heap.size w w1))
    | (have q1 := p1; (fail_if_success have q9 := p2); go_at_call 25; refine (innerP _ J.y1 J.y2 _ p1 (by omega)).mono ?_; rintro e w2 ⟨x2, rfl, hx2, hk2, p2⟩; have hz2 := hk2.size; (try simp at hz2); have b2 := (b1.pb hk2 (by omega) hne : Bk w2 w.heap.size 33 (jobC J s)); have t2 := (t1.pb hk2 (by omega) hne1 : Bk w2 (w.heap.size + 1) 37 #[.int .i64 x.p, .int .i64 x.t, .int .i64 x.r]); have r2 := (r1.pb hk2 (by omega) hne2 : Bk w2 (w.heap.size + 1 + 1) 37 #[.int .i64 0, .int .i64 0, .int .i64 0]); have k2 := (k1.trans hk2 (by omega) : PB b w.heap.size w w2); have d0 := r2.at_ 0 _ rfl; have d1 := r2.at_ 1 _ rfl; have d2 := r2.at_ 2 _ rfl; have f0 := r2.free 0; have f1 := r2.free 1; have f2 := r2.free 2))
  go_wp2_with fail
  have e1 : IntKind.i64.wrap (x.p - x1) = x.p - x1 := IntWalk.i64_in _ (by omega)
  have e2 : IntKind.i64.wrap (x.r - x2) = x.r - x2 := IntWalk.i64_in _ (by omega)
  rw [e1, e2]
  have hr := ((r2.put 0 (.int .i64 (x.p - x1))).put 1 (.int .i64 (x.t))).put 2 (.int .i64 (x.r - x2))
  refine bodyPost_ret (v := fdV ⟨x.p - x1, x.t, x.r - x2⟩) (results_cell_row Try.results16 _ _ _ _ _ _ _ rfl hr Try.underlying37 rfl szFiled) rfl ⟨⟨x.p - x1, x.t, x.r - x2⟩, rfl, strk_root hT hx1 hx2, ?_, ?_⟩
  · exact ((k2.setCell (p := ⟨w.heap.size + 1 + 1, 0, none⟩) (by simp; omega) _).setCell (p := ⟨w.heap.size + 1 + 1, 1, none⟩) (by simp; omega) _).setCell (p := ⟨w.heap.size + 1 + 1, 2, none⟩) (by simp; omega) _
  · exact ((p2.other (p := ⟨w.heap.size + 1 + 1, 0, none⟩) hne2.symm _).other (p := ⟨w.heap.size + 1 + 1, 1, none⟩) hne2.symm _).other (p := ⟨w.heap.size + 1 + 1, 2, none⟩) hne2.symm _
end Go.Proofs.Ytggokdmlijipjaa
