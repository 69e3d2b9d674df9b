/- Part 7 of the proof: Check, CheckB, Stroke, Window, JobPJF, Memo, Read, Spoil, Pass, After, Best, More, Filed, AfterB, Via. -/
import Derived.Deep.RegionHeld3
import Derived.Deep.DeepCutAuto
import Derived.Laws.ResultCell
import Derived.Maps.Own
import Derived.Maps.AppendAt
import Derived.DeepKeys4
import Derived.RangeFuncNested
import Derived.RangeFuncBound
import Derived.RangeFuncCalls
import Derived.RangeFuncLeaves
import Derived.Shelf.Abstract
import Derived.Shelf.RegionOpen
import Derived.WalkKit
import Derived.OwnWalkIn
import Derived.TacticsInMore
import Derived.LoopNIn
import Derived.LoopIn
import Derived.Deep.WholeRow
import Derived.Test.YtbebofmpimfbgaaB06
/- Contracts of the checks of package reed. -/
namespace Go.Proofs.Ytbebofmpimfbgaa
set_option linter.all false
open Go.RowKit

theorem rng_first (a b lo hi : Int) : firstE [numE a lo hi, numE b lo hi] = (if a < lo ∨ hi < a then 1 else if b < lo ∨ hi < b then 1 else 0) := by
  unfold firstE firstE firstE numE
  by_cases h1 : a < lo ∨ hi < a <;> by_cases h2 : b < lo ∨ hi < b <;> simp [h1, h2]

theorem two_new (w : World) (C D : Array Value) (t u : TypeId) : Bk ((w.alloc (.cells C t)).alloc (.cells D u)) (w.heap.size + 1) u D := by
  have := Bk.new (w.alloc (.cells C t)) u D
  rwa [World.size_alloc] at this

set_option maxHeartbeats 400000 in
theorem checkRange_any (a b lo hi : Int) (w : World) :
    Calls Try.prog 79 #[.agg #[.int .i64 a, .int .i64 b], .int .i64 lo, .int .i64 hi] w fun e w' => e = .returned (.int .i64 (rngE a b lo hi)) ∧ Below w.heap.size w w' := by
  by_cases h0 : firstE [numE a lo hi, numE b lo hi] = 0
  · have hb : (firstE [numE a lo hi, numE b lo hi] == 0) = true := by simp [h0]
    have He : Hid (rngE a b lo hi = if b < a then 5 else 0) := by
      show rngE a b lo hi = if b < a then 5 else 0
      rw [rng_first] at h0
      unfold rngE
      by_cases h1 : a < lo ∨ hi < a <;> by_cases h2 : b < lo ∨ hi < b <;> simp [h1, h2] at h0 ⊢
    have H0 : Hid (firstE [numE a lo hi, numE b lo hi] = 0) := h0
    clear h0
    by_cases hba : b < a
    · go_enter Try.func79, Try.ntmps79
      go_wp2_with fail
      go_region_held3 (fun w' => w'.cell? ⟨w.heap.size, 0, none⟩ = some (.int .i64 a) ∧ w'.cell? ⟨w.heap.size, 1, none⟩ = some (.int .i64 b)) (go_keep)
        (first | (go_at_call 80; refine (checkNumber_any _ _ _ _).mono ?_; rintro e w' ⟨rfl, rfl⟩) | (go_at_call 78; refine (first_any _ _ _ [numE a lo hi, numE b lo hi] _ rfl (by simp) ?_).mono ?_; (exact Is.of_bk (g := w.heap.size + 1) (t := 39) _ (two_new w _ _ _ _) (by simp)); rintro e w' ⟨rfl, rfl⟩))
      go_wp2_with (go_at_call 71; refine (empty_any _ _ _).mono ?_; rintro e w' ⟨rfl, rfl⟩)
      go_ret
      refine ⟨ret_i (by rw [He.out, if_pos hba]), ?_⟩
      exact ((((Below.refl _ _).alloc (Nat.le_refl _) _).alloc (by simp) _).alloc (by simp; omega) _).drew
    · go_enter Try.func79, Try.ntmps79
      go_wp2_with fail
      go_region_held3 (fun w' => w'.cell? ⟨w.heap.size, 0, none⟩ = some (.int .i64 a) ∧ w'.cell? ⟨w.heap.size, 1, none⟩ = some (.int .i64 b)) (go_keep)
        (first | (go_at_call 80; refine (checkNumber_any _ _ _ _).mono ?_; rintro e w' ⟨rfl, rfl⟩) | (go_at_call 78; refine (first_any _ _ _ [numE a lo hi, numE b lo hi] _ rfl (by simp) ?_).mono ?_; (exact Is.of_bk (g := w.heap.size + 1) (t := 39) _ (two_new w _ _ _ _) (by simp)); rintro e w' ⟨rfl, rfl⟩))
      go_wp2_with (go_at_call 71; refine (empty_any _ _ _).mono ?_; rintro e w' ⟨rfl, rfl⟩)
      go_ret
      refine ⟨ret_i (by rw [He.out, H0.out, if_neg (by omega)]), ?_⟩
      exact ((((Below.refl _ _).alloc (Nat.le_refl _) _).alloc (by simp) _).alloc (by simp; omega) _).drew
  · have hb : (firstE [numE a lo hi, numE b lo hi] == 0) = false := by simp [h0]
    have He : Hid (rngE a b lo hi = firstE [numE a lo hi, numE b lo hi]) := by
      show rngE a b lo hi = firstE [numE a lo hi, numE b lo hi]
      rw [rng_first] at h0 ⊢
      unfold rngE
      by_cases h1 : a < lo ∨ hi < a <;> by_cases h2 : b < lo ∨ hi < b <;> simp [h1, h2] at h0 ⊢
    clear h0
    go_enter Try.func79, Try.ntmps79
    go_wp2_with fail
    go_region_held3 (fun w' => w'.cell? ⟨w.heap.size, 0, none⟩ = some (.int .i64 a) ∧ w'.cell? ⟨w.heap.size, 1, none⟩ = some (.int .i64 b)) (go_keep)
      (first | (go_at_call 80; refine (checkNumber_any _ _ _ _).mono ?_; rintro e w' ⟨rfl, rfl⟩) | (go_at_call 78; refine (first_any _ _ _ [numE a lo hi, numE b lo hi] _ rfl (by simp) ?_).mono ?_; (exact Is.of_bk (g := w.heap.size + 1) (t := 39) _ (two_new w _ _ _ _) (by simp)); rintro e w' ⟨rfl, rfl⟩))
    go_wp2_with (go_at_call 71; refine (empty_any _ _ _).mono ?_; rintro e w' ⟨rfl, rfl⟩)
    go_ret
    refine ⟨ret_i (by rw [He.out]), ?_⟩
    exact (((Below.refl _ _).alloc (Nat.le_refl _) _).alloc (by simp) _).drew

theorem head_first (J : Jb) : firstE [rngE J.p1 J.p2 (-60) 60, rngE J.t1 J.t2 0 100, rngE J.r1 J.r2 0 100, rngE J.u1 J.u2 0 12, rngE J.d1 J.d2 0 12, rngE J.x1 J.x2 0 12, rngE J.y1 J.y2 0 12, numE J.le 0 100] = J.head := rfl

set_option maxHeartbeats 1000000 in
set_option maxRecDepth 100000 in
theorem check_bad (J : Jb) (a : Option Addr) (n c : Nat) (w : World) (hj : J.head ≠ 0) :
    Calls Try.prog 52 #[.agg (jobC J (.slice a n c))] w fun e w' => e = .returned (.int .i64 J.head) ∧ Below w.heap.size w w' := by
  have hbad : (firstE [rngE J.p1 J.p2 (-60) 60, rngE J.t1 J.t2 0 100, rngE J.r1 J.r2 0 100, rngE J.u1 J.u2 0 12, rngE J.d1 J.d2 0 12, rngE J.x1 J.x2 0 12, rngE J.y1 J.y2 0 12, numE J.le 0 100] != 0) = true := by rw [head_first]; simpa using hj
  clear hj
  go_enter Try.func52, Try.ntmps52
  go_wp2_with fail
  have hk0 := Bk.new w 30 (jobC J (.slice a n c))
  have hB : Below (w.heap.size + 1) (w.alloc (.cells (jobC J (.slice a n c)) 30)) (w.alloc (.cells (jobC J (.slice a n c)) 30)) := Below.refl _ _
  go_region_held3 (fun w' => w'.cell? ⟨w.heap.size, 0, none⟩ = some (.int .i64 J.p1) ∧ w'.cell? ⟨w.heap.size, 1, none⟩ = some (.int .i64 J.p2) ∧ w'.cell? ⟨w.heap.size, 2, none⟩ = some (.int .i64 J.t1) ∧ w'.cell? ⟨w.heap.size, 3, none⟩ = some (.int .i64 J.t2) ∧ w'.cell? ⟨w.heap.size, 4, none⟩ = some (.int .i64 J.r1) ∧ w'.cell? ⟨w.heap.size, 5, none⟩ = some (.int .i64 J.r2) ∧ w'.cell? ⟨w.heap.size, 6, none⟩ = some (.int .i64 J.u1) ∧ w'.cell? ⟨w.heap.size, 7, none⟩ = some (.int .i64 J.u2) ∧ w'.cell? ⟨w.heap.size, 8, none⟩ = some (.int .i64 J.d1) ∧ w'.cell? ⟨w.heap.size, 9, none⟩ = some (.int .i64 J.d2) ∧ w'.cell? ⟨w.heap.size, 10, none⟩ = some (.int .i64 J.x1) ∧ w'.cell? ⟨w.heap.size, 11, none⟩ = some (.int .i64 J.x2) ∧ w'.cell? ⟨w.heap.size, 12, none⟩ = some (.int .i64 J.y1) ∧ w'.cell? ⟨w.heap.size, 13, none⟩ = some (.int .i64 J.y2) ∧ w'.cell? ⟨w.heap.size, 14, none⟩ = some (.int .i64 J.le)) (go_keep)
    (first | (go_at_call 79; refine (checkRange_any _ _ _ _ _).mono ?_; rintro e w' ⟨rfl, hb⟩; obtain ⟨hc, hf⟩ := bcell hb; (have hB' := (by first | exact chainB hB (by simp) hb | exact chainB hB.drew (by simp) hb : Below (w.heap.size + 1) (w.alloc (.cells (jobC J (.slice a n c)) 30)) w')); clear hB; have hB := hB'; clear hB'; (have hz : w.heap.size < w'.heap.size := by have := hB.size; (try simp at this); omega)) | (go_at_call 80; refine (checkNumber_any _ _ _ _).mono ?_; rintro e w' ⟨rfl, rfl⟩) | (go_at_call 78; refine (first_any _ _ _ [rngE J.p1 J.p2 (-60) 60, rngE J.t1 J.t2 0 100, rngE J.r1 J.r2 0 100, rngE J.u1 J.u2 0 12, rngE J.d1 J.d2 0 12, rngE J.x1 J.x2 0 12, rngE J.y1 J.y2 0 12, numE J.le 0 100] _ rfl (by simp) ?_).mono ?_; (first | exact Is.of_bk _ (Bk.new _ _ _) (by simp) | exact Is.of_bk _ (Bk.new _ _ _).drew (by simp)); rintro e w' ⟨rfl, rfl⟩))
  go_wp2
  go_ret
  exact ⟨ret_i (head_first J), (((Below.refl _ _).alloc (Nat.le_refl _) _).trans (hB.mono (by omega))).alloc (by omega) _⟩

set_option maxHeartbeats 1000000 in
set_option maxRecDepth 100000 in
theorem check_many (J : Jb) (a : Option Addr) (n c : Nat) (w : World) (hj : J.head = 0) (hn : 4 < n) (hm : n ≤ 9223372036854775807) :
    Calls Try.prog 52 #[.agg (jobC J (.slice a n c))] w fun e w' => e = .returned (.int .i64 6) ∧ Below w.heap.size w w' := by
  have hbad : (firstE [rngE J.p1 J.p2 (-60) 60, rngE J.t1 J.t2 0 100, rngE J.r1 J.r2 0 100, rngE J.u1 J.u2 0 12, rngE J.d1 J.d2 0 12, rngE J.x1 J.x2 0 12, rngE J.y1 J.y2 0 12, numE J.le 0 100] != 0) = false := by rw [head_first]; simpa using hj
  clear hj
  go_enter Try.func52, Try.ntmps52
  go_wp2_with fail
  have hk0 := Bk.new w 30 (jobC J (.slice a n c))
  have hB : Below (w.heap.size + 1) (w.alloc (.cells (jobC J (.slice a n c)) 30)) (w.alloc (.cells (jobC J (.slice a n c)) 30)) := Below.refl _ _
  go_region_held3 (fun w' => w'.cell? ⟨w.heap.size, 0, none⟩ = some (.int .i64 J.p1) ∧ w'.cell? ⟨w.heap.size, 1, none⟩ = some (.int .i64 J.p2) ∧ w'.cell? ⟨w.heap.size, 2, none⟩ = some (.int .i64 J.t1) ∧ w'.cell? ⟨w.heap.size, 3, none⟩ = some (.int .i64 J.t2) ∧ w'.cell? ⟨w.heap.size, 4, none⟩ = some (.int .i64 J.r1) ∧ w'.cell? ⟨w.heap.size, 5, none⟩ = some (.int .i64 J.r2) ∧ w'.cell? ⟨w.heap.size, 6, none⟩ = some (.int .i64 J.u1) ∧ w'.cell? ⟨w.heap.size, 7, none⟩ = some (.int .i64 J.u2) ∧ w'.cell? ⟨w.heap.size, 8, none⟩ = some (.int .i64 J.d1) ∧ w'.cell? ⟨w.heap.size, 9, none⟩ = some (.int .i64 J.d2) ∧ w'.cell? ⟨w.heap.size, 10, none⟩ = some (.int .i64 J.x1) ∧ w'.cell? ⟨w.heap.size, 11, none⟩ = some (.int .i64 J.x2) ∧ w'.cell? ⟨w.heap.size, 12, none⟩ = some (.int .i64 J.y1) ∧ w'.cell? ⟨w.heap.size, 13, none⟩ = some (.int .i64 J.y2) ∧ w'.cell? ⟨w.heap.size, 14, none⟩ = some (.int .i64 J.le)) (go_keep)
    (first | (go_at_call 79; refine (checkRange_any _ _ _ _ _).mono ?_; rintro e w' ⟨rfl, hb⟩; obtain ⟨hc, hf⟩ := bcell hb; (have hB' := (by first | exact chainB hB (by simp) hb | exact chainB hB.drew (by simp) hb : Below (w.heap.size + 1) (w.alloc (.cells (jobC J (.slice a n c)) 30)) w')); clear hB; have hB := hB'; clear hB'; (have hz : w.heap.size < w'.heap.size := by have := hB.size; (try simp at this); omega)) | (go_at_call 80; refine (checkNumber_any _ _ _ _).mono ?_; rintro e w' ⟨rfl, rfl⟩) | (go_at_call 78; refine (first_any _ _ _ [rngE J.p1 J.p2 (-60) 60, rngE J.t1 J.t2 0 100, rngE J.r1 J.r2 0 100, rngE J.u1 J.u2 0 12, rngE J.d1 J.d2 0 12, rngE J.x1 J.x2 0 12, rngE J.y1 J.y2 0 12, numE J.le 0 100] _ rfl (by simp) ?_).mono ?_; (first | exact Is.of_bk _ (Bk.new _ _ _) (by simp) | exact Is.of_bk _ (Bk.new _ _ _).drew (by simp)); rintro e w' ⟨rfl, rfl⟩))
  have hk := hk0.below hB (by omega)
  have c15 := hk.at_ 15 _ rfl
  clear hk0 hk
  go_wp2
  go_ret
  exact ⟨rfl, (((Below.refl _ _).alloc (Nat.le_refl _) _).trans (hB.mono (by omega))).alloc (by omega) _⟩

end Go.Proofs.Ytbebofmpimfbgaa
/- The contract of reed.Check. -/
namespace Go.Proofs.Ytbebofmpimfbgaa
set_option linter.all false
open Go.RowKit

set_option maxHeartbeats 2000000 in
set_option maxRecDepth 100000 in
theorem check_few (J : Jb) (a : Option Addr) (n c : Nat) (w : World) (hj : J.head = 0) (hn : n = J.sh.length) (hm : n ≤ 4) (h : Rg w w.heap.size a J.sh) :
    Calls Try.prog 52 #[.agg (jobC J (.slice a n c))] w fun e w' => e = .returned (.int .i64 J.check) ∧ Below w.heap.size w w' := by
  have hbad : (firstE [rngE J.p1 J.p2 (-60) 60, rngE J.t1 J.t2 0 100, rngE J.r1 J.r2 0 100, rngE J.u1 J.u2 0 12, rngE J.d1 J.d2 0 12, rngE J.x1 J.x2 0 12, rngE J.y1 J.y2 0 12, numE J.le 0 100] != 0) = false := by rw [head_first]; simpa using hj
  have Hj : Hid (J.check = if shE J.sh = 0 then firstE [numE J.wi 0 60, numE J.me 0 6] else shE J.sh) := by
    show J.check = if shE J.sh = 0 then firstE [numE J.wi 0 60, numE J.me 0 6] else shE J.sh
    unfold Jb.check
    rw [if_pos hj, if_neg (by omega)]
  clear hj
  have Hn : Hid (n = J.sh.length) := hn
  clear hn
  have Hh : Hid (Rg w w.heap.size a J.sh) := h
  clear h
  go_enter Try.func52, Try.ntmps52
  go_wp2_with fail
  have hk0 := Bk.new w 30 (jobC J (.slice a n c))
  have hB : Below (w.heap.size + 1) (w.alloc (.cells (jobC J (.slice a n c)) 30)) (w.alloc (.cells (jobC J (.slice a n c)) 30)) := Below.refl _ _
  go_region_held3 (fun w' => w'.cell? ⟨w.heap.size, 0, none⟩ = some (.int .i64 J.p1) ∧ w'.cell? ⟨w.heap.size, 1, none⟩ = some (.int .i64 J.p2) ∧ w'.cell? ⟨w.heap.size, 2, none⟩ = some (.int .i64 J.t1) ∧ w'.cell? ⟨w.heap.size, 3, none⟩ = some (.int .i64 J.t2) ∧ w'.cell? ⟨w.heap.size, 4, none⟩ = some (.int .i64 J.r1) ∧ w'.cell? ⟨w.heap.size, 5, none⟩ = some (.int .i64 J.r2) ∧ w'.cell? ⟨w.heap.size, 6, none⟩ = some (.int .i64 J.u1) ∧ w'.cell? ⟨w.heap.size, 7, none⟩ = some (.int .i64 J.u2) ∧ w'.cell? ⟨w.heap.size, 8, none⟩ = some (.int .i64 J.d1) ∧ w'.cell? ⟨w.heap.size, 9, none⟩ = some (.int .i64 J.d2) ∧ w'.cell? ⟨w.heap.size, 10, none⟩ = some (.int .i64 J.x1) ∧ w'.cell? ⟨w.heap.size, 11, none⟩ = some (.int .i64 J.x2) ∧ w'.cell? ⟨w.heap.size, 12, none⟩ = some (.int .i64 J.y1) ∧ w'.cell? ⟨w.heap.size, 13, none⟩ = some (.int .i64 J.y2) ∧ w'.cell? ⟨w.heap.size, 14, none⟩ = some (.int .i64 J.le)) (go_keep)
    (first | (go_at_call 79; refine (checkRange_any _ _ _ _ _).mono ?_; rintro e w' ⟨rfl, hb⟩; obtain ⟨hc, hf⟩ := bcell hb; (have hB' := (by first | exact chainB hB (by simp) hb | exact chainB hB.drew (by simp) hb : Below (w.heap.size + 1) (w.alloc (.cells (jobC J (.slice a n c)) 30)) w')); clear hB; have hB := hB'; clear hB'; (have hz : w.heap.size < w'.heap.size := by have := hB.size; (try simp at this); omega)) | (go_at_call 80; refine (checkNumber_any _ _ _ _).mono ?_; rintro e w' ⟨rfl, rfl⟩) | (go_at_call 78; refine (first_any _ _ _ [rngE J.p1 J.p2 (-60) 60, rngE J.t1 J.t2 0 100, rngE J.r1 J.r2 0 100, rngE J.u1 J.u2 0 12, rngE J.d1 J.d2 0 12, rngE J.x1 J.x2 0 12, rngE J.y1 J.y2 0 12, numE J.le 0 100] _ rfl (by simp) ?_).mono ?_; (first | exact Is.of_bk _ (Bk.new _ _ _) (by simp) | exact Is.of_bk _ (Bk.new _ _ _).drew (by simp)); rintro e w' ⟨rfl, rfl⟩))
  have hk := hk0.below hB (by omega)
  have c15 := hk.at_ 15 _ rfl
  have hB1 : Below w.heap.size w w' := ((Below.refl _ _).alloc (Nat.le_refl _) _).trans (hB.mono (by omega))
  clear hk0 hB
  go_wp2
  go_loopw [51] (fun i wr => ∃ k : Nat, k ≤ n ∧ i = .int .i64 k ∧ shE J.sh = shE (J.sh.drop k) ∧ Bk wr w.heap.size 30 (jobC J (.slice a n c)) ∧ Below w.heap.size w wr) (fun i _ => n - (intOf i).toNat)
  case atStart => exact ⟨0, Nat.zero_le _, rfl, rfl, hk.alloc _, hB1.alloc (by omega) _⟩
  case round =>
    clear hB1 hk c15 hbad
    obtain ⟨k, hk, rfl, hf, hj, hB⟩ := hrel
    have Hf : Hid (shE J.sh = shE (J.sh.drop k)) := hf
    clear hf
    have hz := hB.size
    have hl := hj.lt
    by_cases hlt : k < n
    · have hkl : k < J.sh.length := by rw [← Hn.out]; exact hlt
      obtain ⟨b, off, rfl, hbl, e0, e1⟩ := Hh.out k J.sh[k] (List.getElem?_eq_getElem hkl)
      replace e0 := (hB.cell (p := ⟨b, off + k * 2, none⟩) hbl).trans e0
      replace e1 := (hB.cell (p := ⟨b, off + k * 2 + 1, none⟩) hbl).trans e1
      have hbl' : b < wr.heap.size := by omega
      have Hd : Hid (J.sh.drop k = J.sh[k] :: J.sh.drop (k + 1)) := List.drop_eq_getElem_cons hkl
      by_cases hz0 : rngE J.sh[k].1 J.sh[k].2 (-60) 60 = 0
      · have hz1 : (rngE J.sh[k].1 J.sh[k].2 (-60) 60 != 0) = false := by simp [hz0]
        have Hz : Hid (rngE J.sh[k].1 J.sh[k].2 (-60) 60 = 0) := hz0
        clear hz0
        go_wp2_with (go_at_call 79; refine (checkRange_any _ _ _ _ _).mono ?_; rintro e w2 ⟨rfl, hb⟩)
        go_roundw
        case rel => exact ⟨k + 1, by omega, by go_num, by rw [Hf.out, Hd.out, shE, if_pos Hz.out], (hj.alloc _).below hb (by simp; omega), (hB.alloc (by omega) _).trans (hb.mono (by simp; omega))⟩
        case measure => simp [intOf]; omega
      · have hz1 : (rngE J.sh[k].1 J.sh[k].2 (-60) 60 != 0) = true := by simp [hz0]
        have Hz : Hid (¬ rngE J.sh[k].1 J.sh[k].2 (-60) 60 = 0) := hz0
        clear hz0
        go_wp2_with (go_at_call 79; refine (checkRange_any _ _ _ _ _).mono ?_; rintro e w2 ⟨rfl, hb⟩)
        go_ret
        have e : shE J.sh = rngE J.sh[k].1 J.sh[k].2 (-60) 60 := by rw [Hf.out, Hd.out, shE, if_neg Hz.out]
        exact ⟨ret_i (by rw [Hj.out, e, if_neg Hz.out]), (hB.alloc (by omega) _).trans (hb.mono (by simp; omega))⟩
    · obtain rfl : k = n := by omega
      have c16 := hj.at_ 16 _ rfl
      have c17 := hj.at_ 17 _ rfl
      go_wp2_with fail
      go_region_held3 (fun w' => w'.cell? ⟨w.heap.size, 16, none⟩ = some (.int .i64 J.wi) ∧ w'.cell? ⟨w.heap.size, 17, none⟩ = some (.int .i64 J.me)) (go_keep)
        (first | (go_at_call 80; refine (checkNumber_any _ _ _ _).mono ?_; rintro e w' ⟨rfl, rfl⟩) | (go_at_call 78; refine (first_any _ _ _ [numE J.wi 0 60, numE J.me 0 6] _ rfl (by simp) ?_).mono ?_; (first | exact Is.of_bk _ (Bk.new _ _ _) (by simp) | exact Is.of_bk _ (Bk.new _ _ _).drew (by simp)); rintro e w' ⟨rfl, rfl⟩))
      go_wp2
      go_ret
      have e : shE J.sh = 0 := by rw [Hf.out, List.drop_of_length_le (by rw [← Hn.out]; omega)]; rfl
      exact ⟨ret_i (by rw [Hj.out, if_pos e]), (hB.alloc (by omega) _).drew⟩

theorem check_any (J : Jb) (a : Option Addr) (n c : Nat) (w : World) (hn : n = J.sh.length) (hm : n ≤ 9223372036854775807) (h : Rg w w.heap.size a J.sh) :
    Calls Try.prog 52 #[.agg (jobC J (.slice a n c))] w fun e w' => e = .returned (.int .i64 J.check) ∧ Below w.heap.size w w' := by
  by_cases hj : J.head = 0
  · by_cases h4 : 4 < n
    · have e : J.check = 6 := by unfold Jb.check; rw [if_pos hj, if_pos (by omega)]
      rw [e]
      exact check_many J a n c w hj h4 hm
    · exact check_few J a n c w hj hn (by omega) h
  · have e : J.check = J.head := by unfold Jb.check; rw [if_neg hj]
    rw [e]
    exact check_bad J a n c w hj
end Go.Proofs.Ytbebofmpimfbgaa
/- Contracts of what strokes do (package reed). -/
namespace Go.Proofs.Ytbebofmpimfbgaa
set_option linter.all false
open Go.RowKit

/-- Numbers of a tongue lie within n. -/
def Tg.In (t : Tg) (n : Int) : Prop := -n ≤ t.p1 ∧ t.p1 ≤ n ∧ -n ≤ t.p2 ∧ t.p2 ≤ n ∧ -n ≤ t.t1 ∧ t.t1 ≤ n ∧ -n ≤ t.t2 ∧ t.t2 ≤ n ∧ -n ≤ t.r1 ∧ t.r1 ≤ n ∧ -n ≤ t.r2 ∧ t.r2 ≤ n

theorem three_new (w : World) (A B C : Array Value) (t u v : TypeId) : Bk (((w.alloc (.cells A t)).alloc (.cells B u)).alloc (.cells C v)) w.heap.size t A ∧ Bk (((w.alloc (.cells A t)).alloc (.cells B u)).alloc (.cells C v)) (w.heap.size + 1) u B ∧
    Bk (((w.alloc (.cells A t)).alloc (.cells B u)).alloc (.cells C v)) (w.heap.size + 2) v C := by
  have h1 := Bk.new (w.alloc (.cells A t)) u B
  have h2 := Bk.new ((w.alloc (.cells A t)).alloc (.cells B u)) v C
  simp only [World.size_alloc] at h1 h2
  exact ⟨((Bk.new w t A).alloc _).alloc _, h1.alloc _, h2⟩

set_option maxHeartbeats 1000000 in
set_option maxRecDepth 100000 in
theorem stroked_tip (J : Jb) (s : Value) (w : World) (h : J.In 1000) :
    Calls Try.prog 93 #[.agg (jobC J s), .int .i64 1] w fun e w' => e = .returned (.agg (tonC (strk J J.tg 1))) ∧ Below w.heap.size w w' := by
  obtain ⟨⟨p1, p1'⟩, ⟨p2, p2'⟩, ⟨t1, t1'⟩, ⟨t2, t2'⟩, ⟨r1, r1'⟩, ⟨r2, r2'⟩, ⟨u1, u1'⟩, ⟨u2, u2'⟩, ⟨d1, d1'⟩, ⟨d2, d2'⟩, ⟨x1, x1'⟩, ⟨x2, x2'⟩, ⟨y1, y1'⟩, ⟨y2, y2'⟩, _, _, _, _, _⟩ := h
  obtain ⟨b0, b1, b2⟩ := three_new w (jobC J s) #[.int .i64 0, .int .i64 0, .int .i64 0, .int .i64 0, .int .i64 0, .int .i64 0] #[.int .i64 J.p1, .int .i64 J.p2, .int .i64 J.t1, .int .i64 J.t2, .int .i64 J.r1, .int .i64 J.r2] 106 25 25
  go_enter Try.func93, Try.ntmps93
  go_wp2_with fail
  refine (sum_any _ _ _ _ _ (by omega)).mono ?_
  rintro e w1 ⟨rfl, hb⟩
  have hz := hb.size
  simp only [World.size_alloc] at hz
  have k0 := b0.below hb (by simp; omega)
  have k1 := b1.below hb (by simp)
  have k2 := b2.below hb (by simp)
  have hB1 : Below w.heap.size w w1 := ((((Below.refl _ _).alloc (Nat.le_refl _) _).alloc (by simp) _).alloc (by simp; omega) _).trans (hb.mono (by simp; omega))
  clear b0 b1 b2 hb
  have l0 := k2.at_ 0 _ rfl
  have l1 := k2.at_ 1 _ rfl
  have l2 := k2.at_ 2 _ rfl
  have l3 := k2.at_ 3 _ rfl
  have m0 := k2.free 0
  have m1 := k2.free 1
  have j10 := k0.at_ 10 _ rfl
  have j11 := k0.at_ 11 _ rfl
  go_wp2_with fail
  refine (difference_any _ _ _ _ _ (by omega)).mono ?_
  rintro e w2 ⟨rfl, hb⟩
  have hz2 := hb.size
  simp only [World.size_setCell] at hz2
  have q1 := ((k1.other (p := ⟨w.heap.size + 2, 0, none⟩) (by simp) _).other (p := ⟨w.heap.size + 2, 1, none⟩) (by simp) _).below hb (by simp; omega)
  have q2 := ((k2.put 0 _).put 1 _).below hb (by simp; omega)
  have hB2 : Below w.heap.size w w2 := ((hB1.setCell (p := ⟨w.heap.size + 2, 0, none⟩) (by simp) _).setCell (p := ⟨w.heap.size + 2, 1, none⟩) (by simp) _).trans (hb.mono (by simp; omega))
  clear k0 k1 k2 l0 l1 l2 l3 m0 m1 j10 j11 hb hB1
  have l0 := q2.at_ 0 _ rfl
  have l1 := q2.at_ 1 _ rfl
  have l2 := q2.at_ 2 _ rfl
  have l3 := q2.at_ 3 _ rfl
  have l4 := q2.at_ 4 _ rfl
  have l5 := q2.at_ 5 _ rfl
  have m2 := q2.free 2
  have m3 := q2.free 3
  have n0 := q1.at_ 0 _ rfl
  have n1 := q1.at_ 1 _ rfl
  have n2 := q1.at_ 2 _ rfl
  have n3 := q1.at_ 3 _ rfl
  have n4 := q1.at_ 4 _ rfl
  have n5 := q1.at_ 5 _ rfl
  have f0 := q1.free 0
  have f1 := q1.free 1
  have f2 := q1.free 2
  have f3 := q1.free 3
  have f4 := q1.free 4
  have f5 := q1.free 5
  go_wp2
  refine bodyPost_ret (v := .agg #[.int .i64 (J.p1 + J.u1), .int .i64 (J.p2 + J.u2), .int .i64 (J.t1 - J.x2), .int .i64 (J.t2 - J.x1), .int .i64 J.r1, .int .i64 J.r2]) (by simp [results, Try.results93, go_sem, n0, n1, n2, n3, n4, n5]) rfl ⟨by simp [strk, Jb.tg], ?_⟩
  iterate 8 (refine Below.setCell ?_ (by first | (simp; done) | (simp; omega)) _)
  exact hB2

set_option maxHeartbeats 1000000 in
set_option maxRecDepth 100000 in
theorem stroked_root (J : Jb) (s : Value) (w : World) (h : J.In 1000) :
    Calls Try.prog 93 #[.agg (jobC J s), .int .i64 2] w fun e w' => e = .returned (.agg (tonC (strk J J.tg 2))) ∧ Below w.heap.size w w' := by
  obtain ⟨⟨p1, p1'⟩, ⟨p2, p2'⟩, ⟨t1, t1'⟩, ⟨t2, t2'⟩, ⟨r1, r1'⟩, ⟨r2, r2'⟩, ⟨u1, u1'⟩, ⟨u2, u2'⟩, ⟨d1, d1'⟩, ⟨d2, d2'⟩, ⟨x1, x1'⟩, ⟨x2, x2'⟩, ⟨y1, y1'⟩, ⟨y2, y2'⟩, _, _, _, _, _⟩ := h
  obtain ⟨b0, b1, b2⟩ := three_new w (jobC J s) #[.int .i64 0, .int .i64 0, .int .i64 0, .int .i64 0, .int .i64 0, .int .i64 0] #[.int .i64 J.p1, .int .i64 J.p2, .int .i64 J.t1, .int .i64 J.t2, .int .i64 J.r1, .int .i64 J.r2] 106 25 25
  go_enter Try.func93, Try.ntmps93
  go_wp2_with fail
  refine (difference_any _ _ _ _ _ (by omega)).mono ?_
  rintro e w1 ⟨rfl, hb⟩
  have hz := hb.size
  simp only [World.size_alloc] at hz
  have k0 := b0.below hb (by simp; omega)
  have k1 := b1.below hb (by simp)
  have k2 := b2.below hb (by simp)
  have hB1 : Below w.heap.size w w1 := ((((Below.refl _ _).alloc (Nat.le_refl _) _).alloc (by simp) _).alloc (by simp; omega) _).trans (hb.mono (by simp; omega))
  clear b0 b1 b2 hb
  have l0 := k2.at_ 0 _ rfl
  have l1 := k2.at_ 1 _ rfl
  have l2 := k2.at_ 4 _ rfl
  have l3 := k2.at_ 5 _ rfl
  have m0 := k2.free 0
  have m1 := k2.free 1
  have j10 := k0.at_ 12 _ rfl
  have j11 := k0.at_ 13 _ rfl
  go_wp2_with fail
  refine (difference_any _ _ _ _ _ (by omega)).mono ?_
  rintro e w2 ⟨rfl, hb⟩
  have hz2 := hb.size
  simp only [World.size_setCell] at hz2
  have q1 := ((k1.other (p := ⟨w.heap.size + 2, 0, none⟩) (by simp) _).other (p := ⟨w.heap.size + 2, 1, none⟩) (by simp) _).below hb (by simp; omega)
  have q2 := ((k2.put 0 _).put 1 _).below hb (by simp; omega)
  have hB2 : Below w.heap.size w w2 := ((hB1.setCell (p := ⟨w.heap.size + 2, 0, none⟩) (by simp) _).setCell (p := ⟨w.heap.size + 2, 1, none⟩) (by simp) _).trans (hb.mono (by simp; omega))
  clear k0 k1 k2 l0 l1 l2 l3 m0 m1 j10 j11 hb hB1
  have l0 := q2.at_ 0 _ rfl
  have l1 := q2.at_ 1 _ rfl
  have l2 := q2.at_ 2 _ rfl
  have l3 := q2.at_ 3 _ rfl
  have l4 := q2.at_ 4 _ rfl
  have l5 := q2.at_ 5 _ rfl
  have m2 := q2.free 4
  have m3 := q2.free 5
  have n0 := q1.at_ 0 _ rfl
  have n1 := q1.at_ 1 _ rfl
  have n2 := q1.at_ 2 _ rfl
  have n3 := q1.at_ 3 _ rfl
  have n4 := q1.at_ 4 _ rfl
  have n5 := q1.at_ 5 _ rfl
  have f0 := q1.free 0
  have f1 := q1.free 1
  have f2 := q1.free 2
  have f3 := q1.free 3
  have f4 := q1.free 4
  have f5 := q1.free 5
  go_wp2
  refine bodyPost_ret (v := .agg #[.int .i64 (J.p1 - J.d2), .int .i64 (J.p2 - J.d1), .int .i64 J.t1, .int .i64 J.t2, .int .i64 (J.r1 - J.y2), .int .i64 (J.r2 - J.y1)]) (by simp [results, Try.results93, go_sem, n0, n1, n2, n3, n4, n5]) rfl ⟨by simp [strk, Jb.tg], ?_⟩
  iterate 8 (refine Below.setCell ?_ (by first | (simp; done) | (simp; omega)) _)
  exact hB2

theorem strk_in (J : Jb) (t : Tg) (s n : Int) (h : t.In n) (hJ : J.In 1000) : (strk J t s).In (n + 12) := by
  obtain ⟨h1, h2, h3, h4, h5, h6, h7, h8, h9, h10, h11, h12⟩ := h
  have := hJ.u1; have := hJ.u2; have := hJ.d1; have := hJ.d2; have := hJ.x1; have := hJ.x2; have := hJ.y1; have := hJ.y2
  unfold strk
  by_cases e1 : s = 1
  · rw [if_pos e1]; simp only [Tg.In]; omega
  · rw [if_neg e1]
    by_cases e2 : s = 2
    · rw [if_pos e2]; simp only [Tg.In]; omega
    · rw [if_neg e2]; simp only [Tg.In]; omega
theorem Jb.In.tg {J : Jb} {n : Int} (h : J.In n) : J.tg.In n := by
  have := h.p1; have := h.p2; have := h.t1; have := h.t2; have := h.r1; have := h.r2
  simp only [Tg.In, Jb.tg]; omega
theorem Jb.In.setTg {J : Jb} {n m : Int} {t : Tg} (h : J.In n) (ht : t.In m) : (J.setTg t).In m := by
  obtain ⟨h1, h2, h3, h4, h5, h6, h7, h8, h9, h10, h11, h12⟩ := ht
  exact ⟨⟨h1, h2⟩, ⟨h3, h4⟩, ⟨h5, h6⟩, ⟨h7, h8⟩, ⟨h9, h10⟩, ⟨h11, h12⟩, h.u1, h.u2, h.d1, h.d2, h.x1, h.x2, h.y1, h.y2, h.le, h.wi, h.me, h.sh, h.len⟩
theorem Tg.In.mono {t : Tg} {n m : Int} (h : t.In n) (hm : n ≤ m) : t.In m := by
  simp only [Tg.In] at h ⊢; omega
theorem Jb.In.mono {J : Jb} {n m : Int} (h : J.In n) (hm : n ≤ m) : J.In m := h.setTg (h.tg.mono hm)

/-- Each stroke. -/
theorem stroked_any (J : Jb) (s : Value) (k : Int) (hk : k = 1 ∨ k = 2) (w : World) (h : J.In 1000) :
    Calls Try.prog 93 #[.agg (jobC J s), .int .i64 k] w fun e w' => e = .returned (.agg (tonC (strk J J.tg k))) ∧ Below w.heap.size w w' := by
  rcases hk with rfl | rfl
  · exact stroked_tip J s w h
  · exact stroked_root J s w h

/-- What 'after' hands back. -/
def AfterEnd (J : Jb) (l : List Int) (s : Value) (w : World) (e : Ending) (w' : World) : Prop :=
  e = .returned (.agg (jobC (J.setTg (afterS J J.tg l)) s)) ∧ Below w.heap.size w w'
end Go.Proofs.Ytbebofmpimfbgaa
/- The contract of reed.Window. -/
namespace Go.Proofs.Ytbebofmpimfbgaa
set_option linter.all false
open Go.RowKit

/-- All that Check looks at lies within its bounds. -/
theorem rngE_ok {a b lo hi : Int} (h : rngE a b lo hi = 0) : lo ≤ a ∧ a ≤ hi ∧ lo ≤ b ∧ b ≤ hi ∧ a ≤ b := by
  unfold rngE at h
  by_cases h1 : a < lo ∨ hi < a
  · rw [if_pos h1] at h; omega
  · rw [if_neg h1] at h
    by_cases h2 : b < lo ∨ hi < b
    · rw [if_pos h2] at h; omega
    · rw [if_neg h2] at h
      by_cases h3 : b < a
      · rw [if_pos h3] at h; omega
      · omega
theorem numE_ok {a lo hi : Int} (h : numE a lo hi = 0) : lo ≤ a ∧ a ≤ hi := by
  unfold numE at h
  by_cases h1 : a < lo ∨ hi < a
  · rw [if_pos h1] at h; omega
  · omega
theorem firstE_ok : ∀ (l : List Int), firstE l = 0 → ∀ x ∈ l, x = 0
  | [], _, x, h => by simp at h
  | e :: l, h, x, hx => by
    unfold firstE at h
    by_cases h0 : e = 0
    · rw [if_pos h0] at h
      rcases List.mem_cons.1 hx with rfl | hx
      · exact h0
      · exact firstE_ok l h x hx
    · rw [if_neg h0] at h; exact absurd h h0
theorem shE_ok : ∀ (l : List R2), shE l = 0 → ∀ s ∈ l, rngE s.1 s.2 (-60) 60 = 0
  | [], _, s, h => by simp at h
  | e :: l, h, s, hs => by
    unfold shE at h
    by_cases h0 : rngE e.1 e.2 (-60) 60 = 0
    · rw [if_pos h0] at h
      rcases List.mem_cons.1 hs with rfl | hs
      · exact h0
      · exact shE_ok l h s hs
    · rw [if_neg h0] at h; exact absurd h h0

/-- A valid job's numbers, and that its ranges are none upside down. -/
structure Jb.Ok (J : Jb) : Prop where
  inn : J.In 100
  p : J.p1 ≤ J.p2
  t : J.t1 ≤ J.t2
  r : J.r1 ≤ J.r2
  u : J.u1 ≤ J.u2
  d : J.d1 ≤ J.d2
  x : J.x1 ≤ J.x2
  y : J.y1 ≤ J.y2
  s : ∀ s ∈ J.sh, s.1 ≤ s.2
theorem check_ok {J : Jb} (h : J.check = 0) : J.Ok := by
  unfold Jb.check at h
  by_cases h0 : J.head = 0
  · rw [if_pos h0] at h
    by_cases h1 : 4 < J.sh.length
    · rw [if_pos h1] at h; omega
    · rw [if_neg h1] at h
      by_cases h2 : shE J.sh = 0
      · rw [if_pos h2] at h
        have a := firstE_ok _ h0
        have b := firstE_ok _ h
        have s := shE_ok _ h2
        have a1 := rngE_ok (a _ (by simp : rngE J.p1 J.p2 (-60) 60 ∈ _))
        have a2 := rngE_ok (a _ (by simp : rngE J.t1 J.t2 0 100 ∈ _))
        have a3 := rngE_ok (a _ (by simp : rngE J.r1 J.r2 0 100 ∈ _))
        have a4 := rngE_ok (a _ (by simp : rngE J.u1 J.u2 0 12 ∈ _))
        have a5 := rngE_ok (a _ (by simp : rngE J.d1 J.d2 0 12 ∈ _))
        have a6 := rngE_ok (a _ (by simp : rngE J.x1 J.x2 0 12 ∈ _))
        have a7 := rngE_ok (a _ (by simp : rngE J.y1 J.y2 0 12 ∈ _))
        have a8 := numE_ok (a _ (by simp : numE J.le 0 100 ∈ _))
        have b1 := numE_ok (b _ (by simp : numE J.wi 0 60 ∈ _))
        have b2 := numE_ok (b _ (by simp : numE J.me 0 6 ∈ _))
        refine ⟨⟨by omega, by omega, by omega, by omega, by omega, by omega, by omega, by omega, by omega, by omega, by omega, by omega, by omega, by omega, by omega, by omega, by omega, fun q hq => ?_, by omega⟩, by omega, by omega, by omega, by omega, by omega, by omega, by omega, fun q hq => (rngE_ok (s q hq)).2.2.2.2⟩
        have := rngE_ok (s q hq)
        omega
      · rw [if_neg h2] at h; exact absurd h h2
  · rw [if_neg h0] at h; exact absurd h h0

theorem results_row_tmp {P : Program} {fn : Func} {p u : Tmp} {ty : TypeId} {fs : Array Field} (h : fn.results = #[.cell p ty, .tmp u]) (tmps : Array Value) (w : World) (g : Nat) (t : TypeId) (cs : Array Value) (v : Value)
    (hp : tmps.getD p undef = .pointer (some ⟨g, 0, none⟩)) (hv : tmps.getD u undef = v) (hg : Bk w g t cs)
    (hu : P.underlying ty = some (.struct fs)) (hi : (P.info? ty).map (·.size) = some cs.size) :
    (results fn tmps).run P w = .ok (.tuple #[.agg cs, v]) w := by
  have hp' : tmps[p]?.getD undef = .pointer (some ⟨g, 0, none⟩) := by simpa using hp
  have hv' : tmps[u]?.getD undef = v := by simpa using hv
  simp [results, h, hp', hv', asAddr, run_loadVar_row w g t ty cs (0, 0) _ hg hu rfl hi]

end Go.Proofs.Ytbebofmpimfbgaa
/- What a pot makes a job of: plain facts. -/
namespace Go.Sim.JF
set_option linter.all false
open Go Go.RowKit Go.Proofs Go.Proofs.Ytbebofmpimfbgaa
set_option maxRecDepth 1000000
noncomputable section
def seedAt (s : Int) : Nat → Int
  | 0 => s
  | i + 1 => stepS (seedAt s i)
def res0 (s : Int) : Int := uptoF (seedAt s 0) 5
def res1 (s : Int) : Int := uptoF (seedAt s 1) 3
def res2 (s : Int) : Int := pick3 0 1 (uptoF (seedAt s 1) 3) (uptoF (seedAt s 2) 2)
def res3 (s : Int) : Int := uptoF (seedAt s 3) 32
def res4 (s : Int) : Int := uptoF (seedAt s 4) 2
def res5 (s : Int) : Int := pick3 0 0 (uptoF (seedAt s 4) 2) (uptoF (seedAt s 5) 2)
def res6 (s : Int) : Int := uptoF (seedAt s 6) 2
def res7 (s : Int) : Int := pick3 0 0 (uptoF (seedAt s 6) 2) (uptoF (seedAt s 7) 2)
def res8 (s : Int) : Int := uptoF (seedAt s 8) 20
def res9 (s : Int) : Int := uptoF (seedAt s 9) 2
def res10 (s : Int) : Int := pick3 0 0 (uptoF (seedAt s 9) 2) (uptoF (seedAt s 10) 2)
def res11 (s : Int) : Int := uptoF (seedAt s 11) 2
def res12 (s : Int) : Int := pick3 0 0 (uptoF (seedAt s 11) 2) (uptoF (seedAt s 12) 2)
def res13 (s : Int) : Int := uptoF (seedAt s 13) 20
def res14 (s : Int) : Int := uptoF (seedAt s 14) 2
def res15 (s : Int) : Int := pick3 0 0 (uptoF (seedAt s 14) 2) (uptoF (seedAt s 15) 2)
def res16 (s : Int) : Int := uptoF (seedAt s 16) 2
def res17 (s : Int) : Int := pick3 0 0 (uptoF (seedAt s 16) 2) (uptoF (seedAt s 17) 2)
def res18 (s : Int) : Int := uptoF (seedAt s 18) 5
def res19 (s : Int) : Int := uptoF (seedAt s 19) 1
def res20 (s : Int) : Int := pick3 0 0 (uptoF (seedAt s 19) 1) (uptoF (seedAt s 20) 2)
def res21 (s : Int) : Int := uptoF (seedAt s 21) 1
def res22 (s : Int) : Int := pick3 0 0 (uptoF (seedAt s 21) 1) (uptoF (seedAt s 22) 2)
def res23 (s : Int) : Int := uptoF (seedAt s 23) 5
def res24 (s : Int) : Int := uptoF (seedAt s 24) 1
def res25 (s : Int) : Int := pick3 0 0 (uptoF (seedAt s 24) 1) (uptoF (seedAt s 25) 2)
def res26 (s : Int) : Int := uptoF (seedAt s 26) 1
def res27 (s : Int) : Int := pick3 0 0 (uptoF (seedAt s 26) 1) (uptoF (seedAt s 27) 2)
def res28 (s : Int) : Int := uptoF (seedAt s 28) 4
def res29 (s : Int) : Int := uptoF (seedAt s 29) 1
def res30 (s : Int) : Int := pick3 0 0 (uptoF (seedAt s 29) 1) (uptoF (seedAt s 30) 2)
def res31 (s : Int) : Int := uptoF (seedAt s 31) 1
def res32 (s : Int) : Int := pick3 0 0 (uptoF (seedAt s 31) 1) (uptoF (seedAt s 32) 2)
def res33 (s : Int) : Int := uptoF (seedAt s 33) 4
def res34 (s : Int) : Int := uptoF (seedAt s 34) 1
def res35 (s : Int) : Int := pick3 0 0 (uptoF (seedAt s 34) 1) (uptoF (seedAt s 35) 2)
def res36 (s : Int) : Int := uptoF (seedAt s 36) 1
def res37 (s : Int) : Int := pick3 0 0 (uptoF (seedAt s 36) 1) (uptoF (seedAt s 37) 2)
def res38 (s : Int) : Int := uptoF (seedAt s 38) 20
def res39 (s : Int) : Int := uptoF (seedAt s 39) 3
def res40 (s : Int) : Int := uptoF (seedAt s 40) 6
def res41 (s : Int) : Int := uptoF (seedAt s 41) 2
def res42 (s : Int) : Int := pick3 0 0 (uptoF (seedAt s 41) 2) (uptoF (seedAt s 42) 2)
def res43 (s : Int) : Int := uptoF (seedAt s 43) 2
def res44 (s : Int) : Int := pick3 0 0 (uptoF (seedAt s 43) 2) (uptoF (seedAt s 44) 2)
def res45 (s : Int) : Int := uptoF (seedAt s 45) 6
def res46 (s : Int) : Int := uptoF (seedAt s 46) 2
def res47 (s : Int) : Int := pick3 0 0 (uptoF (seedAt s 46) 2) (uptoF (seedAt s 47) 2)
def res48 (s : Int) : Int := uptoF (seedAt s 48) 2
def res49 (s : Int) : Int := pick3 0 0 (uptoF (seedAt s 48) 2) (uptoF (seedAt s 49) 2)
def res50 (s : Int) : Int := uptoF (seedAt s 50) 6
def res51 (s : Int) : Int := uptoF (seedAt s 51) 2
def res52 (s : Int) : Int := pick3 0 0 (uptoF (seedAt s 51) 2) (uptoF (seedAt s 52) 2)
def res53 (s : Int) : Int := uptoF (seedAt s 53) 2
def res54 (s : Int) : Int := pick3 0 0 (uptoF (seedAt s 53) 2) (uptoF (seedAt s 54) 2)
def resL (s : Int) : List Int := [res0 s, res1 s, res2 s, res3 s, res4 s, res5 s, res6 s, res7 s, res8 s, res9 s, res10 s, res11 s, res12 s, res13 s, res14 s, res15 s, res16 s, res17 s, res18 s, res19 s, res20 s, res21 s, res22 s, res23 s, res24 s, res25 s, res26 s, res27 s, res28 s, res29 s, res30 s, res31 s, res32 s, res33 s, res34 s, res35 s, res36 s, res37 s, res38 s, res39 s, res40 s, res41 s, res42 s, res43 s, res44 s, res45 s, res46 s, res47 s, res48 s, res49 s, res50 s, res51 s, res52 s, res53 s, res54 s]
def nthZ : List Int → Nat → Option Int
  | [], _ => none
  | x :: _, 0 => some x
  | _ :: l, i + 1 => nthZ l i
def resAt (s : Int) (i : Nat) : Int := match nthZ (resL s) i with
  | some x => x
  | none => 0
@[instance_reducible] def jobRho (s : Int) : Rho := ⟨fun k => match Nat.blt k 100 with
  | true => seedAt s k
  | false => resAt s (k - 100), fun _ => .nilFunc, 0, fun _ => none⟩
theorem upB (x m : Int) (h : 0 ≤ m ∧ m ≤ 1000) : 0 ≤ uptoF x m ∧ uptoF x m ≤ m := by
  have := uptoF_in x m h.2
  omega
theorem pkB (a b c u m : Int) (ha : 0 ≤ a ∧ a ≤ m) (hb : 0 ≤ b ∧ b ≤ m) (hc : 0 ≤ c ∧ c ≤ m) : 0 ≤ pick3 a b c u ∧ pick3 a b c u ≤ m := by
  unfold pick3
  by_cases h0 : u = 0
  · rw [if_pos h0]; exact ha
  · rw [if_neg h0]
    by_cases h1 : u = 1
    · rw [if_pos h1]; exact hb
    · rw [if_neg h1]; exact hc
theorem rb0 (s : Int) : 0 ≤ res0 s ∧ res0 s ≤ 5 := upB _ _ (by decide)
theorem rb2 (s : Int) : 0 ≤ res2 s ∧ res2 s ≤ 3 := pkB _ _ _ _ _ (by decide) (by decide) (upB _ _ (by decide))
theorem rb3 (s : Int) : 0 ≤ res3 s ∧ res3 s ≤ 32 := upB _ _ (by decide)
theorem rb5 (s : Int) : 0 ≤ res5 s ∧ res5 s ≤ 2 := pkB _ _ _ _ _ (by decide) (by decide) (upB _ _ (by decide))
theorem rb7 (s : Int) : 0 ≤ res7 s ∧ res7 s ≤ 2 := pkB _ _ _ _ _ (by decide) (by decide) (upB _ _ (by decide))
theorem rb8 (s : Int) : 0 ≤ res8 s ∧ res8 s ≤ 20 := upB _ _ (by decide)
theorem rb10 (s : Int) : 0 ≤ res10 s ∧ res10 s ≤ 2 := pkB _ _ _ _ _ (by decide) (by decide) (upB _ _ (by decide))
theorem rb12 (s : Int) : 0 ≤ res12 s ∧ res12 s ≤ 2 := pkB _ _ _ _ _ (by decide) (by decide) (upB _ _ (by decide))
theorem rb13 (s : Int) : 0 ≤ res13 s ∧ res13 s ≤ 20 := upB _ _ (by decide)
theorem rb15 (s : Int) : 0 ≤ res15 s ∧ res15 s ≤ 2 := pkB _ _ _ _ _ (by decide) (by decide) (upB _ _ (by decide))
theorem rb17 (s : Int) : 0 ≤ res17 s ∧ res17 s ≤ 2 := pkB _ _ _ _ _ (by decide) (by decide) (upB _ _ (by decide))
theorem rb18 (s : Int) : 0 ≤ res18 s ∧ res18 s ≤ 5 := upB _ _ (by decide)
theorem rb20 (s : Int) : 0 ≤ res20 s ∧ res20 s ≤ 1 := pkB _ _ _ _ _ (by decide) (by decide) (upB _ _ (by decide))
theorem rb22 (s : Int) : 0 ≤ res22 s ∧ res22 s ≤ 1 := pkB _ _ _ _ _ (by decide) (by decide) (upB _ _ (by decide))
theorem rb23 (s : Int) : 0 ≤ res23 s ∧ res23 s ≤ 5 := upB _ _ (by decide)
theorem rb25 (s : Int) : 0 ≤ res25 s ∧ res25 s ≤ 1 := pkB _ _ _ _ _ (by decide) (by decide) (upB _ _ (by decide))
theorem rb27 (s : Int) : 0 ≤ res27 s ∧ res27 s ≤ 1 := pkB _ _ _ _ _ (by decide) (by decide) (upB _ _ (by decide))
theorem rb28 (s : Int) : 0 ≤ res28 s ∧ res28 s ≤ 4 := upB _ _ (by decide)
theorem rb30 (s : Int) : 0 ≤ res30 s ∧ res30 s ≤ 1 := pkB _ _ _ _ _ (by decide) (by decide) (upB _ _ (by decide))
theorem rb32 (s : Int) : 0 ≤ res32 s ∧ res32 s ≤ 1 := pkB _ _ _ _ _ (by decide) (by decide) (upB _ _ (by decide))
theorem rb33 (s : Int) : 0 ≤ res33 s ∧ res33 s ≤ 4 := upB _ _ (by decide)
theorem rb35 (s : Int) : 0 ≤ res35 s ∧ res35 s ≤ 1 := pkB _ _ _ _ _ (by decide) (by decide) (upB _ _ (by decide))
theorem rb37 (s : Int) : 0 ≤ res37 s ∧ res37 s ≤ 1 := pkB _ _ _ _ _ (by decide) (by decide) (upB _ _ (by decide))
theorem rb38 (s : Int) : 0 ≤ res38 s ∧ res38 s ≤ 20 := upB _ _ (by decide)
theorem rb39 (s : Int) : 0 ≤ res39 s ∧ res39 s ≤ 3 := upB _ _ (by decide)
theorem rb40 (s : Int) : 0 ≤ res40 s ∧ res40 s ≤ 6 := upB _ _ (by decide)
theorem rb42 (s : Int) : 0 ≤ res42 s ∧ res42 s ≤ 2 := pkB _ _ _ _ _ (by decide) (by decide) (upB _ _ (by decide))
theorem rb44 (s : Int) : 0 ≤ res44 s ∧ res44 s ≤ 2 := pkB _ _ _ _ _ (by decide) (by decide) (upB _ _ (by decide))
theorem rb45 (s : Int) : 0 ≤ res45 s ∧ res45 s ≤ 6 := upB _ _ (by decide)
theorem rb47 (s : Int) : 0 ≤ res47 s ∧ res47 s ≤ 2 := pkB _ _ _ _ _ (by decide) (by decide) (upB _ _ (by decide))
theorem rb49 (s : Int) : 0 ≤ res49 s ∧ res49 s ≤ 2 := pkB _ _ _ _ _ (by decide) (by decide) (upB _ _ (by decide))
theorem rb50 (s : Int) : 0 ≤ res50 s ∧ res50 s ≤ 6 := upB _ _ (by decide)
theorem rb52 (s : Int) : 0 ≤ res52 s ∧ res52 s ≤ 2 := pkB _ _ _ _ _ (by decide) (by decide) (upB _ _ (by decide))
theorem rb54 (s : Int) : 0 ≤ res54 s ∧ res54 s ≤ 2 := pkB _ _ _ _ _ (by decide) (by decide) (upB _ _ (by decide))
abbrev wr (x : Int) : Int := IntKind.i64.wrap x
theorem wr_in {x : Int} (h : -1000 ≤ x ∧ x ≤ 1000) : wr x = x := IntWalk.i64_in x (by omega)
def nlo (least n a : Int) : Int := if least < wr (n - a) then wr (n - a) else least
def nhi (most n b : Int) : Int := if wr (n + b) < most then wr (n + b) else most
theorem near_ok {least n most a b : Int} (h1 : -100 ≤ least ∧ least ≤ n ∧ n ≤ most ∧ most ≤ 100) (ha : 0 ≤ a ∧ a ≤ 100) (hb : 0 ≤ b ∧ b ≤ 100) : least ≤ nlo least n a ∧ nlo least n a ≤ n ∧ n ≤ nhi most n b ∧ nhi most n b ≤ most := by
  unfold nlo nhi
  rw [wr_in (by omega), wr_in (by omega)]
  refine ⟨?_, ?_, ?_, ?_⟩ <;> split <;> omega
theorem rngE_0 {a b lo hi : Int} (h : lo ≤ a ∧ a ≤ b ∧ b ≤ hi) : rngE a b lo hi = 0 := by
  unfold rngE
  rw [if_neg (by omega), if_neg (by omega), if_neg (by omega)]
theorem numE_0 {a lo hi : Int} (h : lo ≤ a ∧ a ≤ hi) : numE a lo hi = 0 := by
  unfold numE
  rw [if_neg (by omega)]
theorem check_0 {J : Jb} (p : -60 ≤ J.p1 ∧ J.p1 ≤ J.p2 ∧ J.p2 ≤ 60) (t : 0 ≤ J.t1 ∧ J.t1 ≤ J.t2 ∧ J.t2 ≤ 100) (r : 0 ≤ J.r1 ∧ J.r1 ≤ J.r2 ∧ J.r2 ≤ 100) (u : 0 ≤ J.u1 ∧ J.u1 ≤ J.u2 ∧ J.u2 ≤ 12) (d : 0 ≤ J.d1 ∧ J.d1 ≤ J.d2 ∧ J.d2 ≤ 12) (x : 0 ≤ J.x1 ∧ J.x1 ≤ J.x2 ∧ J.x2 ≤ 12) (y : 0 ≤ J.y1 ∧ J.y1 ≤ J.y2 ∧ J.y2 ≤ 12)
    (l : 0 ≤ J.le ∧ J.le ≤ 100) (n : J.sh.length ≤ 4) (sh : ∀ q ∈ J.sh, -60 ≤ q.1 ∧ q.1 ≤ q.2 ∧ q.2 ≤ 60) (wi : 0 ≤ J.wi ∧ J.wi ≤ 60) (me : 0 ≤ J.me ∧ J.me ≤ 6) : J.check = 0 := by
  have hh : J.head = 0 := by
    unfold Jb.head
    rw [rngE_0 p, rngE_0 t, rngE_0 r, rngE_0 u, rngE_0 d, rngE_0 x, rngE_0 y, numE_0 l]
    rfl
  have hs : ∀ q : List R2, (∀ z ∈ q, -60 ≤ z.1 ∧ z.1 ≤ z.2 ∧ z.2 ≤ 60) → shE q = 0 := by
    intro q
    induction q with
    | nil => intro _; rfl
    | cons z q ih =>
      intro h
      unfold shE
      rw [if_pos (rngE_0 (h z List.mem_cons_self))]
      exact ih fun z hz => h z (List.mem_cons_of_mem _ hz)
  unfold Jb.check
  rw [if_pos hh, if_neg (by omega), if_pos (hs _ sh), numE_0 wi, numE_0 me]
  rfl
def jobS (s : Int) : List R2 := [(nlo (-60) (wr (-3 + res40 s)) (res42 s), nhi 60 (wr (-3 + res40 s)) (res44 s)), (nlo (-60) (wr (-3 + res45 s)) (res47 s), nhi 60 (wr (-3 + res45 s)) (res49 s)), (nlo (-60) (wr (-3 + res50 s)) (res52 s), nhi 60 (wr (-3 + res50 s)) (res54 s))]
def jobJ (s : Int) (n : Nat) : Jb := ⟨nlo (-60) (wr (-16 + res3 s)) (res5 s), nhi 60 (wr (-16 + res3 s)) (res7 s), nlo (0) (wr (20 + res8 s)) (res10 s), nhi 100 (wr (20 + res8 s)) (res12 s), nlo (0) (wr (20 + res13 s)) (res15 s), nhi 100 (wr (20 + res13 s)) (res17 s), nlo (0) (wr (1 + res18 s)) (res20 s), nhi 12 (wr (1 + res18 s)) (res22 s), nlo (0) (wr (1 + res23 s)) (res25 s), nhi 12 (wr (1 + res23 s)) (res27 s), nlo (0) (res28 s) (res30 s), nhi 12 (res28 s) (res32 s), nlo (0) (res33 s) (res35 s), nhi 12 (res33 s) (res37 s), wr (10 + res38 s), wr (1 + res0 s), res2 s, (jobS s).take n⟩
theorem nrA {lo hi k m a c M A C : Int} (hk : (-100 ≤ lo ∧ hi ≤ 100) ∧ (lo ≤ k ∧ k + M ≤ hi) ∧ (0 ≤ M ∧ M ≤ 50) ∧ (A ≤ 100 ∧ C ≤ 100)) (hm : 0 ≤ m ∧ m ≤ M) (ha : 0 ≤ a ∧ a ≤ A) (hc : 0 ≤ c ∧ c ≤ C) : lo ≤ nlo lo (wr (k + m)) a ∧ nlo lo (wr (k + m)) a ≤ nhi hi (wr (k + m)) c ∧ nhi hi (wr (k + m)) c ≤ hi := by
  rw [wr_in (by omega)]
  have := near_ok (least := lo) (n := k + m) (most := hi) (a := a) (b := c) (by omega) (by omega) (by omega)
  omega
theorem nrB {lo hi m a c M A C : Int} (hk : (-100 ≤ lo ∧ hi ≤ 100) ∧ (lo ≤ 0 ∧ M ≤ hi) ∧ (A ≤ 100 ∧ C ≤ 100)) (hm : 0 ≤ m ∧ m ≤ M) (ha : 0 ≤ a ∧ a ≤ A) (hc : 0 ≤ c ∧ c ≤ C) : lo ≤ nlo lo m a ∧ nlo lo m a ≤ nhi hi m c ∧ nhi hi m c ≤ hi := by
  have := near_ok (least := lo) (n := m) (most := hi) (a := a) (b := c) (by omega) (by omega) (by omega)
  omega
theorem wrA {k m M lo hi : Int} (hk : (lo ≤ k ∧ k + M ≤ hi) ∧ (-100 ≤ lo ∧ hi ≤ 100)) (hm : 0 ≤ m ∧ m ≤ M) : lo ≤ wr (k + m) ∧ wr (k + m) ≤ hi := by
  rw [wr_in (by omega)]; omega
theorem job_sh (s : Int) : ∀ z ∈ jobS s, -60 ≤ z.1 ∧ z.1 ≤ z.2 ∧ z.2 ≤ 60 := by
  intro z hz
  simp only [jobS, List.mem_cons, List.not_mem_nil, or_false] at hz
  rcases hz with rfl | rfl | rfl
  · exact (nrA (by decide) (rb40 s) (rb42 s) (rb44 s))
  · exact (nrA (by decide) (rb45 s) (rb47 s) (rb49 s))
  · exact (nrA (by decide) (rb50 s) (rb52 s) (rb54 s))
theorem job_check (s : Int) (n : Nat) : (jobJ s n).check = 0 :=
  check_0 (nrA (by decide) (rb3 s) (rb5 s) (rb7 s)) (nrA (by decide) (rb8 s) (rb10 s) (rb12 s)) (nrA (by decide) (rb13 s) (rb15 s) (rb17 s)) (nrA (by decide) (rb18 s) (rb20 s) (rb22 s)) (nrA (by decide) (rb23 s) (rb25 s) (rb27 s)) (nrB (by decide) (rb28 s) (rb30 s) (rb32 s)) (nrB (by decide) (rb33 s) (rb35 s) (rb37 s)) (wrA (by decide) (rb38 s)) (by show ((jobS s).take n).length ≤ 4; have : (jobS s).length = 3 := rfl; rw [List.length_take]; omega) (fun z hz => job_sh s z (List.mem_of_mem_take hz)) (wrA (by decide) (rb0 s)) (by have := rb2 s; show 0 ≤ res2 s ∧ res2 s ≤ 6; omega)
end
end Go.Sim.JF
/- What the tuner's memory is good for: a map from what is known to the best move. -/
namespace Go.Proofs.Ytbebofmpimfbgaa
set_option linter.all false
open Go.RowKit Go.ChangeShapes Go.WideShapes Go.MapKept
open Go.WideElems (Fit rd rg pl rd_key rd_val rg_of)

def knownC (t : Tg) (k : Nat) : Array Value := #[.int .i64 t.p1, .int .i64 t.p2, .int .i64 t.t1, .int .i64 t.t2, .int .i64 t.r1, .int .i64 t.r2, .int .i64 (k : Int)]
theorem knownC_inj {t u : Tg} {k m : Nat} (h : Value.agg (knownC t k) = .agg (knownC u m)) : t = u ∧ k = m := by
  unfold knownC at h
  simp only [Value.agg.injEq, Array.mk.injEq, List.cons.injEq, Value.int.injEq, true_and, and_true] at h
  obtain ⟨h1, h2, h3, h4, h5, h6, h7⟩ := h
  refine ⟨?_, by omega⟩
  cases t; cases u
  simp_all

theorem laidOut : laidOutB Try.prog = true := by kernel_rfl
set_option maxRecDepth 100000 in
theorem rowK : (93 : TypeId) < Try.prog.types.size := of_decide_eq_true (by kernel_rfl)
set_option maxRecDepth 100000 in
theorem wideK : (match Try.prog.underlying 93 with | some (.array _ _) | some (.struct _) => true | _ => false) = true := by rw [Try.underlying93]
set_option maxRecDepth 100000 in
theorem keyedK : Maps.Keyed Try.prog 93 := Maps.Keyed.of_law (deep_law_laid laidOut (m := 5) (by omega) rowK (by kernel_rfl) wideK)
set_option maxRecDepth 100000 in
theorem keyTypeK : Try.prog.keyType 93 = true := by kernel_rfl
theorem cellsK : Try.prog.cellsOf 93 = 7 := by kernel_rfl
theorem cellsT : Try.prog.cellsOf 25 = 6 := by kernel_rfl
theorem cellsR : Try.prog.cellsOf 23 = 2 := by kernel_rfl
theorem cellsI : Try.prog.cellsOf 3 = 1 := by kernel_rfl
set_option maxRecDepth 100000 in
theorem typesK : ∃ m, Try.prog.types.size + 1 = m + 4 := ⟨Try.prog.types.size - 3, by have : 4 ≤ Try.prog.types.size := of_decide_eq_true (by kernel_rfl); omega⟩

theorem wf64 {n : Int} (h : -100000 ≤ n ∧ n ≤ 100000) : (Lit.int .i64 n).wf = true := WalkArith.wf_i64 (by omega)

theorem lits_int (m : Nat) {a : Int} (ha : (Lit.int .i64 a).wf = true) : Try.prog.keyLits (m + 1) 3 [.int .i64 a] = some [.int .i64 a] := by
  unfold Program.keyLits
  simp only [Try.underlying3]
  rw [if_pos ⟨trivial, ha⟩]
theorem lits_range (m : Nat) {a b : Int} (ha : (Lit.int .i64 a).wf = true) (hb : (Lit.int .i64 b).wf = true) : Try.prog.keyLits (m + 1 + 1) 23 [.int .i64 a, .int .i64 b] = some [.int .i64 a, .int .i64 b] := by
  unfold Program.keyLits
  simp only [Try.underlying23]
  rw [if_pos ⟨by rw [cellsR]; rfl, by kernel_rfl⟩]
  simp [cellsI, lits_int, ha, hb]
theorem lits_tongue (m : Nat) {a b c d e f : Int} (ha : (Lit.int .i64 a).wf = true) (hb : (Lit.int .i64 b).wf = true) (hc : (Lit.int .i64 c).wf = true) (hd : (Lit.int .i64 d).wf = true) (he : (Lit.int .i64 e).wf = true) (hf : (Lit.int .i64 f).wf = true) :
    Try.prog.keyLits (m + 1 + 1 + 1) 25 [.int .i64 a, .int .i64 b, .int .i64 c, .int .i64 d, .int .i64 e, .int .i64 f] = some [.int .i64 a, .int .i64 b, .int .i64 c, .int .i64 d, .int .i64 e, .int .i64 f] := by
  unfold Program.keyLits
  simp only [Try.underlying25]
  rw [if_pos ⟨by rw [cellsT]; rfl, by kernel_rfl⟩]
  simp [cellsR, lits_range, ha, hb, hc, hd, he, hf]

set_option maxRecDepth 100000 in
theorem key_ok (t : Tg) (k : Nat) (ht : t.p1.natAbs ≤ 100000 ∧ t.p2.natAbs ≤ 100000 ∧ t.t1.natAbs ≤ 100000 ∧ t.t2.natAbs ≤ 100000 ∧ t.r1.natAbs ≤ 100000 ∧ t.r2.natAbs ≤ 100000) (hk : k ≤ 100) : ∃ kl, keyOf Try.prog 93 (.agg (knownC t k)) = some kl := by
  obtain ⟨h1, h2, h3, h4, h5, h6⟩ := ht
  obtain ⟨m, hm⟩ := typesK
  have w1 := wf64 (n := t.p1) (by omega)
  have w2 := wf64 (n := t.p2) (by omega)
  have w3 := wf64 (n := t.t1) (by omega)
  have w4 := wf64 (n := t.t2) (by omega)
  have w5 := wf64 (n := t.r1) (by omega)
  have w6 := wf64 (n := t.r2) (by omega)
  have w7 := wf64 (n := (k : Int)) (by omega)
  have hf : (Value.agg (knownC t k)).formed Try.prog 93 = true := by simp [Value.formed, Try.underlying93, cellsK, knownC]
  unfold keyOf
  rw [hm, keyTypeK, hf]
  simp only [Try.underlying93, Bool.and_self, if_true]
  have hl : Try.prog.keyLits (m + 4) 93 (Value.agg (knownC t k)).cells.toList = some [.int .i64 t.p1, .int .i64 t.p2, .int .i64 t.t1, .int .i64 t.t2, .int .i64 t.r1, .int .i64 t.r2, .int .i64 (k : Int)] := by
    unfold Program.keyLits
    simp only [Try.underlying93]
    rw [if_pos ⟨by rw [cellsK]; rfl, by kernel_rfl⟩]
    simp [knownC, Value.cells, cellsT, cellsI, lits_tongue, lits_int, w1, w2, w3, w4, w5, w6, w7]
  rw [hl]
  exact ⟨_, rfl⟩

def moveD (m : Int × Int) : DataW Unit := .agg [.lit (.int .i64 m.1), .lit (.int .i64 m.2)]
def moveL : List Value → Option (DataW Unit × List MemPlace)
  | [.int .i64 a, .int .i64 b] => some (moveD (a, b), [])
  | _ => none
def moveR : Value → Option (DataW Unit × List MemPlace)
  | .agg cs => moveL cs.toList
  | _ => none
theorem moveR_inv {v : Value} {m : Int × Int} {ps : List MemPlace} (h : moveR v = some (moveD m, ps)) : v = .agg #[.int .i64 m.1, .int .i64 m.2] := by
  cases v with
  | agg cs =>
    obtain ⟨l⟩ := cs
    have h' : moveL l = some (moveD m, ps) := h
    unfold moveL at h'
    split at h'
    · simp only [Option.some.injEq, Prod.mk.injEq, moveD, DataW.agg.injEq, List.cons.injEq, DataW.lit.injEq, Lit.int.injEq, true_and, and_true] at h'
      obtain ⟨⟨rfl, rfl⟩, _⟩ := h'
      rfl
    · cases h'
  | _ => cases h

/-- Block bm is a memory of at most cnt moves, each of them the best one. -/
def Memo (J : Jb) (W : World) (bm cnt : Nat) : Prop :=
  ∃ es : List (Lit × DataW Unit), W.ownsMap Try.prog 93 moveR bm cnt (.map es) ∧ ∀ p ∈ es, ∃ t k, keyOf Try.prog 93 (.agg (knownC t k)) = some p.1 ∧ p.2 = moveD (bestM J k t)

theorem Memo.kept {J : Jb} {W W' : World} {bm cnt : Nat} {row : Option Nat} (h : Memo J W bm cnt) (hg : W.grownBy W' row) (hne : some bm ≠ row) : Memo J W' bm cnt := by
  obtain ⟨es, ho, hg'⟩ := h
  exact ⟨es, ho.kept hg hne, hg'⟩
theorem Memo.lt {J : Jb} {W : World} {bm cnt : Nat} (h : Memo J W bm cnt) : bm < W.heap.size := by
  obtain ⟨es, ho, _⟩ := h
  exact ho.lt
theorem Memo.mono {J : Jb} {W : World} {bm cnt cnt' : Nat} (h : Memo J W bm cnt) (hn : cnt ≤ cnt') : Memo J W bm cnt' := by
  obtain ⟨es, ho, hg⟩ := h
  exact ⟨es, ho.mono hn, hg⟩
theorem Memo.made (J : Jb) (w : World) : Memo J (w.alloc (.map #[] 0)) w.heap.size 0 := ⟨[], World.ownsMap_made w _ _ _, by simp⟩

theorem zeroMove (w : World) : (zeroValue 91).run Try.prog w = .ok (.agg #[.int .i64 0, .int .i64 0]) w := by kernel_rfl

theorem Memo.look {J : Jb} {W : World} {bm cnt : Nat} (h : Memo J W bm cnt) {t : Tg} {k : Nat} {kl : Lit} (hkey : keyOf Try.prog 93 (.agg (knownC t k)) = some kl) :
    ((Instr.lookup 123 (.map (some bm)) (.agg (knownC t k)) true).run Try.prog W = .ok (.tuple #[.agg #[.int .i64 0, .int .i64 0], .bool false]) W) ∨
    ((Instr.lookup 123 (.map (some bm)) (.agg (knownC t k)) true).run Try.prog W = .ok (.tuple #[.agg #[.int .i64 (bestM J k t).1, .int .i64 (bestM J k t).2], .bool true]) W) := by
  obtain ⟨es, ⟨ents, clock, hb, F, _, hD⟩, hgood⟩ := h
  rcases Maps.fit_look true keyedK Try.underlying123 (zeroMove W) hb F hkey with ⟨hrun, _, _⟩ | ⟨e0, y, hm, hk0, hrun, hRv, _, _⟩
  · exact .inl hrun
  · refine .inr ?_
    obtain ⟨y0, hy0⟩ := F.reads e0 hm
    obtain ⟨z, hz, hz2⟩ := rd_val hy0
    have hmem : y0 ∈ es := by
      injection hD with hD
      rw [hD, (sorted_perm _).mem_iff]
      exact List.mem_map.2 ⟨e0, hm, rg_of hy0⟩
    obtain ⟨t', k', hk', hd'⟩ := hgood y0 hmem
    have e1 := keyedK.inj (rd_key hy0) hk'
    obtain ⟨rfl, rfl⟩ := knownC_inj (hk0.symm.trans e1)
    have hv : moveR e0.val = some (moveD (bestM J k t), z.2) := by rw [hz, ← hd', hz2]
    rw [moveR_inv hv] at hrun
    exact hrun

theorem Memo.store {J : Jb} {W : World} {bm cnt : Nat} (h : Memo J W bm cnt) (hc : cnt < maxLen) {t : Tg} {k : Nat} {kl : Lit} (hkey : keyOf Try.prog 93 (.agg (knownC t k)) = some kl) :
    ∃ W', (Instr.mapUpdate 123 (.map (some bm)) (.agg (knownC t k)) (.agg #[.int .i64 (bestM J k t).1, .int .i64 (bestM J k t).2])).run Try.prog W = .ok () W' ∧ Memo J W' bm (cnt + 1) ∧ W.grownBy W' (some bm) := by
  obtain ⟨es, ho, hgood⟩ := h
  obtain ⟨W', hrun, ho', hg⟩ := ho.update (val := .agg #[.int .i64 (bestM J k t).1, .int .i64 (bestM J k t).2]) (d := moveD (bestM J k t)) (ps := []) keyedK Try.underlying123 hc hkey rfl
  refine ⟨W', hrun, ⟨_, ho', fun p hp => ?_⟩, hg⟩
  rcases ChangeMaps.mem_insert_iff.1 hp with rfl | hp
  · exact ⟨t, k, hkey, rfl⟩
  · exact hgood p ((List.mem_filter.1 hp).1)
end Go.Proofs.Ytbebofmpimfbgaa
/- The iterator of reed.readings. -/
namespace Go.Proofs.Ytbebofmpimfbgaa
set_option linter.all false
open Go.RowKit Go.Shelf

attribute [local go_sem] Oper.semAt_some

/-- What a round leaves alone for the iterator: its two boxes. -/
def KpB (Bp Bm : Nat) (W W' : World) : Prop := W'.heap[Bp]? = W.heap[Bp]? ∧ W'.heap[Bm]? = W.heap[Bm]?

def upto (a b m : Int) (k : Nat) : List R2 := (List.range k).map fun (i : Nat) => heardR a b (a - m + (i : Int)) m
theorem upto_succ (a b m : Int) (k : Nat) : upto a b m (k + 1) = upto a b m k ++ [heardR a b (a - m + (k : Int)) m] := by simp [upto, List.range_succ]
theorem upto_len (a b m : Int) (k : Nat) : (upto a b m k).length = k := by simp [upto]
theorem upto_all (a b m : Int) : readsL a b m = upto a b m (b + m - (a - m) + 1).toNat := rfl
theorem upto_pre (a b m : Int) (k n : Nat) (h : k ≤ n) : upto a b m k <+: upto a b m n := by
  obtain ⟨d, rfl⟩ := Nat.exists_eq_add_of_le h
  refine ⟨(List.range' k d).map fun (i : Nat) => heardR a b (a - m + (i : Int)) m, ?_⟩
  simp only [upto, ← List.map_append]
  rw [List.range_eq_range', List.range_eq_range']
  congr 1
  have := List.range'_append_1 (s := 0) (m := k) (n := d)
  simpa using this

theorem abides_of_below {β : Type} {B : Nat} {J : β → World → Prop} (h : AbidesFrom B J) {s : β} {W W' : World} (hs : J s W) (hb : Below W.heap.size W W') : J s W' :=
  h s W W' none hs ⟨hb.os, hb.tape, hb.output, hb.size, fun k hk _ => hb.block k hk⟩ (fun r e => by cases e)

theorem readings_any (a b m : Int) (w : World) :
    Calls Try.prog 54 #[.agg #[.int .i64 a, .int .i64 b], .int .i64 m] w fun e w' =>
      e = .returned (.func (.func 83) #[] #[.pointer (some ⟨w.heap.size, 0, none⟩), .pointer (some ⟨w.heap.size + 1, 0, none⟩)]) ∧
      w' = (w.alloc (.cells #[.int .i64 a, .int .i64 b] 23)).alloc (.cells #[.int .i64 m] 3) := by
  go_enter Try.func54, Try.ntmps54
  go_wp2
  go_ret
  exact ⟨rfl, rfl⟩
end Go.Proofs.Ytbebofmpimfbgaa
/- The contract of work.spoiled (package reed). -/
namespace Go.Proofs.Ytbebofmpimfbgaa
set_option linter.all false
open Go.RowKit

set_option maxHeartbeats 1000000 in
theorem spoiled_any (J : Jb) (s : Value) (w : World) :
    Calls Try.prog 67 #[.agg (jobC J s)] w fun e w' => e = .returned (.int .i64 (spoilI J.le J.tg)) ∧ w.alloc (.cells (jobC J s) 106) = w' := by
  by_cases h1 : J.t2 < J.le
  · have H : Hid (spoilI J.le J.tg = 1) := by show spoilI J.le J.tg = 1; simp [spoilI, Jb.tg, h1]
    go_enter Try.func67, Try.ntmps67
    go_wp2
    go_ret
    exact ⟨by rw [H.out]; rfl, rfl⟩
  · by_cases h2 : J.r2 < J.le
    · have H : Hid (spoilI J.le J.tg = 1) := by show spoilI J.le J.tg = 1; simp [spoilI, Jb.tg, h2]
      go_enter Try.func67, Try.ntmps67
      go_wp2
      go_ret
      exact ⟨by rw [H.out]; rfl, rfl⟩
    · by_cases h3 : J.le ≤ J.t1
      · by_cases h4 : J.le ≤ J.r1
        · have H : Hid (spoilI J.le J.tg = 2) := by show spoilI J.le J.tg = 2; simp [spoilI, Jb.tg, h1, h2, h3, h4]
          go_enter Try.func67, Try.ntmps67
          go_wp2
          go_ret
          exact ⟨by rw [H.out]; rfl, rfl⟩
        · have H : Hid (spoilI J.le J.tg = 3) := by show spoilI J.le J.tg = 3; simp [spoilI, Jb.tg, h1, h2, h4]
          go_enter Try.func67, Try.ntmps67
          go_wp2
          go_ret
          exact ⟨by rw [H.out]; rfl, rfl⟩
      · have H : Hid (spoilI J.le J.tg = 3) := by show spoilI J.le J.tg = 3; simp [spoilI, Jb.tg, h1, h2, h3]
        go_enter Try.func67, Try.ntmps67
        go_wp2
        go_ret
        exact ⟨by rw [H.out]; rfl, rfl⟩
end Go.Proofs.Ytbebofmpimfbgaa
/- Contracts of reed.passes and work.fine. -/
namespace Go.Proofs.Ytbebofmpimfbgaa
set_option linter.all false
open Go.RowKit

theorem holds_any (a b c d : Int) (w : World) :
    Calls Try.prog 82 #[.agg #[.int .i64 a, .int .i64 b], .agg #[.int .i64 c, .int .i64 d]] w fun e w' => e = .returned (.bool (decide (a ≤ c ∧ d ≤ b))) ∧ (w.alloc (.cells #[.int .i64 a, .int .i64 b] 23)).alloc (.cells #[.int .i64 c, .int .i64 d] 23) = w' := by
  by_cases h : a ≤ c ∧ d ≤ b
  · rw [decide_eq_true h]; exact holds_yes a b c d h w
  · rw [decide_eq_false h]; exact holds_no a b c d h w

set_option maxHeartbeats 1000000 in
set_option maxRecDepth 100000 in
theorem passes_any (J : Jb) (a : Option Addr) (n c : Nat) (w : World) (hJ : J.In 1000) (hn : n = J.sh.length) (h : Rg w w.heap.size a J.sh) :
    Calls Try.prog 69 #[.agg (jobC J (.slice a n c))] w fun e w' => e = .returned (.int .i64 (passI J.wi J.sh J.p1 J.p2)) ∧ Below w.heap.size w w' := by
  have HJ : Hid (J.In 1000) := hJ
  have Hn : Hid (n = J.sh.length) := hn
  have Hh : Hid (Rg w w.heap.size a J.sh) := h
  clear hJ hn h
  have b0 : Bk (w.alloc (.cells (jobC J (.slice a n c)) 30)) w.heap.size 30 (jobC J (.slice a n c)) := Bk.new w _ _
  by_cases h1 : (win J.wi J.sh).1 ≤ J.p1 ∧ J.p2 ≤ (win J.wi J.sh).2
  · have He : Hid (passI J.wi J.sh J.p1 J.p2 = 1) := by show passI J.wi J.sh J.p1 J.p2 = 1; unfold passI; rw [if_pos h1]
    have hd : decide ((win J.wi J.sh).1 ≤ J.p1 ∧ J.p2 ≤ (win J.wi J.sh).2) = true := decide_eq_true h1
    clear h1
    go_enter Try.func69, Try.ntmps69
    go_wp2_with (refine wpList_load_row rfl 30 _ rfl w.heap.size rfl _ (jobC J (.slice a n c)) _ _ b0 Try.underlying30 rfl szJob ?_)
    refine (windows_any J a n c _ HJ.out Hn.out (Hh.out.up ((Below.refl _ _).alloc (Nat.le_refl _) _))).mono ?_
    rintro e w1 ⟨rfl, hb⟩
    have hz := hb.size
    simp only [World.size_alloc] at hz
    have hz' : w.heap.size < w1.heap.size := by omega
    have hz1 : w.heap.size < w1.heap.size + 1 := by omega
    have hz2 : w.heap.size < w1.heap.size + 1 + 1 := by omega
    have hz3 : w.heap.size < w1.heap.size + 1 + 1 + 1 := by omega
    have hz4 : w.heap.size < w1.heap.size + 1 + 1 + 1 + 1 := by omega
    have k0 := b0.below hb (by simp)
    have hB1 : Below w.heap.size w w1 := ((Below.refl _ _).alloc (Nat.le_refl _) _).trans (hb.mono (by simp))
    clear hb b0
    have c0 := k0.at_ 0 _ rfl
    have c1 := k0.at_ 1 _ rfl
    go_wp2_with (go_at_call 82; refine (holds_any _ _ _ _ _).mono ?_; rintro e w2 ⟨rfl, rfl⟩)
    go_ret
    exact ⟨by rw [He.out]; rfl, (((hB1.alloc (by omega) _).alloc (by simp; omega) _).alloc (by simp; omega) _).alloc (by simp; omega) _⟩
  · have hd : decide ((win J.wi J.sh).1 ≤ J.p1 ∧ J.p2 ≤ (win J.wi J.sh).2) = false := decide_eq_false h1
    rcases Bool.eq_false_or_eq_true (decide ((meetL ((pos J.wi J.sh).1, (pos J.wi J.sh).2) [(J.p1, J.p2)]).2 < (meetL ((pos J.wi J.sh).1, (pos J.wi J.sh).2) [(J.p1, J.p2)]).1)) with hv | hv
    · have He : Hid (passI J.wi J.sh J.p1 J.p2 = 2) := by
        show passI J.wi J.sh J.p1 J.p2 = 2
        unfold passI
        rw [if_neg h1]
        have hv' := hv
        simp only [decide_eq_true_eq] at hv'
        have h2 : (meet2 (pos J.wi J.sh) (J.p1, J.p2)).2 < (meet2 (pos J.wi J.sh) (J.p1, J.p2)).1 := hv'
        rw [if_pos h2]
      clear h1
      go_enter Try.func69, Try.ntmps69
      go_wp2_with (refine wpList_load_row rfl 30 _ rfl w.heap.size rfl _ (jobC J (.slice a n c)) _ _ b0 Try.underlying30 rfl szJob ?_)
      refine (windows_any J a n c _ HJ.out Hn.out (Hh.out.up ((Below.refl _ _).alloc (Nat.le_refl _) _))).mono ?_
      rintro e w1 ⟨rfl, hb⟩
      have hz := hb.size
      simp only [World.size_alloc] at hz
      have hz' : w.heap.size < w1.heap.size := by omega
      have hz1 : w.heap.size < w1.heap.size + 1 := by omega
      have hz2 : w.heap.size < w1.heap.size + 1 + 1 := by omega
      have hz3 : w.heap.size < w1.heap.size + 1 + 1 + 1 := by omega
      have hz4 : w.heap.size < w1.heap.size + 1 + 1 + 1 + 1 := by omega
      have k0 := b0.below hb (by simp)
      have hB1 : Below w.heap.size w w1 := ((Below.refl _ _).alloc (Nat.le_refl _) _).trans (hb.mono (by simp))
      clear hb b0
      have c0 := k0.at_ 0 _ rfl
      have c1 := k0.at_ 1 _ rfl
      go_wp2_with (first | (go_at_call 82; refine (holds_any _ _ _ _ _).mono ?_; rintro e w2 ⟨rfl, rfl⟩))
      refine (meet_any _ _ _ _ _ [(J.p1, J.p2)] _ rfl (by simp) ?hrg).mono ?_
      case hrg => exact Rg.of_bk [(J.p1, J.p2)] (Bk.newAt _ _ _ _ (by simp)) (by simp)
      rintro e w3 ⟨rfl, hb3⟩
      go_wp2_with (go_at_call 71; refine (empty_any _ _ _).mono ?_; rintro e w4 ⟨rfl, rfl⟩)
      go_ret
      refine ⟨by rw [He.out]; rfl, ?_⟩
      exact ((((((hB1.alloc (by omega) _).alloc (by simp; omega) _).alloc (by simp; omega) _).alloc (by simp; omega) _).alloc (by simp; omega) _).trans (hb3.mono (by simp; omega))).alloc (by have := hb3.size; simp at this; omega) _
    · have He : Hid (passI J.wi J.sh J.p1 J.p2 = 3) := by
        show passI J.wi J.sh J.p1 J.p2 = 3
        unfold passI
        rw [if_neg h1]
        have hv' := hv
        simp only [decide_eq_false_iff_not] at hv'
        have h2 : ¬ (meet2 (pos J.wi J.sh) (J.p1, J.p2)).2 < (meet2 (pos J.wi J.sh) (J.p1, J.p2)).1 := hv'
        rw [if_neg h2]
      clear h1
      go_enter Try.func69, Try.ntmps69
      go_wp2_with (refine wpList_load_row rfl 30 _ rfl w.heap.size rfl _ (jobC J (.slice a n c)) _ _ b0 Try.underlying30 rfl szJob ?_)
      refine (windows_any J a n c _ HJ.out Hn.out (Hh.out.up ((Below.refl _ _).alloc (Nat.le_refl _) _))).mono ?_
      rintro e w1 ⟨rfl, hb⟩
      have hz := hb.size
      simp only [World.size_alloc] at hz
      have hz' : w.heap.size < w1.heap.size := by omega
      have hz1 : w.heap.size < w1.heap.size + 1 := by omega
      have hz2 : w.heap.size < w1.heap.size + 1 + 1 := by omega
      have hz3 : w.heap.size < w1.heap.size + 1 + 1 + 1 := by omega
      have hz4 : w.heap.size < w1.heap.size + 1 + 1 + 1 + 1 := by omega
      have k0 := b0.below hb (by simp)
      have hB1 : Below w.heap.size w w1 := ((Below.refl _ _).alloc (Nat.le_refl _) _).trans (hb.mono (by simp))
      clear hb b0
      have c0 := k0.at_ 0 _ rfl
      have c1 := k0.at_ 1 _ rfl
      go_wp2_with (first | (go_at_call 82; refine (holds_any _ _ _ _ _).mono ?_; rintro e w2 ⟨rfl, rfl⟩))
      refine (meet_any _ _ _ _ _ [(J.p1, J.p2)] _ rfl (by simp) ?hrg).mono ?_
      case hrg => exact Rg.of_bk [(J.p1, J.p2)] (Bk.newAt _ _ _ _ (by simp)) (by simp)
      rintro e w3 ⟨rfl, hb3⟩
      go_wp2_with (go_at_call 71; refine (empty_any _ _ _).mono ?_; rintro e w4 ⟨rfl, rfl⟩)
      go_ret
      refine ⟨by rw [He.out]; rfl, ?_⟩
      exact ((((((hB1.alloc (by omega) _).alloc (by simp; omega) _).alloc (by simp; omega) _).alloc (by simp; omega) _).alloc (by simp; omega) _).trans (hb3.mono (by simp; omega))).alloc (by have := hb3.size; simp at this; omega) _
end Go.Proofs.Ytbebofmpimfbgaa
/- The contract of work.after (package reed). -/
namespace Go.Proofs.Ytbebofmpimfbgaa
set_option linter.all false
open Go.RowKit

theorem afterS_snoc (J : Jb) (t : Tg) (l : List Int) (x : Int) : afterS J t (l ++ [x]) = strk J (afterS J t l) x := by simp [afterS]
theorem afterS_in (J : Jb) (hJ : J.In 1000) : ∀ (l : List Int) (t : Tg) (n : Int), t.In n → (afterS J t l).In (n + 12 * l.length)
  | [], t, n, h => by simpa [afterS] using h
  | x :: l, t, n, h => by
    have h1 := afterS_in J hJ l (strk J t x) (n + 12) (strk_in J t x n h hJ)
    have e : afterS J t (x :: l) = afterS J (strk J t x) l := rfl
    rw [e]
    refine h1.mono ?_
    simp only [List.length_cons]
    omega

set_option maxHeartbeats 1000000 in
set_option maxRecDepth 100000 in
theorem after_any (J : Jb) (sa : Option Addr) (sn sc : Nat) (a : Option Addr) (n c : Nat) (l : List Int) (w : World) (h : J.In 200) (hn : n = l.length) (hm : n ≤ 6) (hl : ∀ x ∈ l, x = 1 ∨ x = 2) (hr : Is w w.heap.size a l) :
    Calls Try.prog 73 #[.agg (jobC J (.slice sa sn sc)), .slice a n c] w (AfterEnd J l (.slice sa sn sc) w) := by
  have Hn : Hid (n = l.length) := hn
  clear hn
  have Hh : Hid (Is w w.heap.size a l) := hr
  clear hr
  have HJ : Hid (J.In 200) := h
  clear h
  have Hl : Hid (∀ x ∈ l, x = 1 ∨ x = 2) := hl
  clear hl
  go_enter Try.func73, Try.ntmps73
  go_wp2_with fail
  go_loopw [9] (fun i wr => ∃ (k : Nat) (K : Jb), k ≤ n ∧ i = .int .i64 k ∧ K = J.setTg (afterS J J.tg (l.take k)) ∧ Bk wr w.heap.size 106 (jobC K (.slice sa sn sc)) ∧ Bk wr (w.heap.size + 1) 106 #[.int .i64 0, .int .i64 0, .int .i64 0, .int .i64 0, .int .i64 0, .int .i64 0, .int .i64 0, .int .i64 0, .int .i64 0, .int .i64 0, .int .i64 0, .int .i64 0, .int .i64 0, .int .i64 0, .int .i64 0, .slice none 0 0, .int .i64 0, .int .i64 0] ∧ Below w.heap.size w wr) (fun i _ => n - (intOf i).toNat)
  case atStart =>
    refine ⟨0, J, Nat.zero_le _, rfl, rfl, (Bk.new w _ _).alloc _, ?_, ((Below.refl _ _).alloc (Nat.le_refl _) _).alloc (by simp) _⟩
    have h1 := Bk.new (w.alloc (.cells (jobC J (.slice sa sn sc)) 106)) 106 #[.int .i64 0, .int .i64 0, .int .i64 0, .int .i64 0, .int .i64 0, .int .i64 0, .int .i64 0, .int .i64 0, .int .i64 0, .int .i64 0, .int .i64 0, .int .i64 0, .int .i64 0, .int .i64 0, .int .i64 0, .slice none 0 0, .int .i64 0, .int .i64 0]
    rw [World.size_alloc] at h1
    exact h1
  case round =>
    obtain ⟨k, K, hk, rfl, hK, hj, ho, hB⟩ := hrel
    have HK : Hid (K = J.setTg (afterS J J.tg (l.take k))) := hK
    clear hK
    have hz := hB.size
    have hl1 := hj.lt
    have hl2 := ho.lt
    by_cases hlt : k < n
    · have hkl : k < l.length := by rw [← Hn.out]; exact hlt
      obtain ⟨b, off, rfl, hbl, e0⟩ := Hh.out k l[k] (List.getElem?_eq_getElem hkl)
      replace e0 := (hB.cell (p := ⟨b, off + k, none⟩) hbl).trans e0
      have hbl' : b < wr.heap.size := by omega
      have HKin : Hid (K.In 1000) := by
        show K.In 1000
        have h1 := afterS_in J (HJ.out.mono (by decide)) (l.take k) J.tg 200 HJ.out.tg
        rw [HK.out]
        refine HJ.out.setTg (h1.mono ?_)
        have := List.length_take_le k l
        omega
      go_wp2_with (refine wpList_load_row rfl 106 _ rfl w.heap.size rfl _ (jobC K (.slice sa sn sc)) _ _ hj Try.underlying106 rfl szWork ?_)
      refine (stroked_any K (.slice sa sn sc) _ (Hl.out _ (List.getElem_mem hkl)) _ HKin.out).mono ?_
      rintro e w1 ⟨rfl, hb⟩
      have hz1 := hb.size
      have hj1 := hj.below hb hl1
      have ho1 := ho.below hb hl2
      clear e0
      have d0 := hj1.at_ 0 _ rfl
      have d1 := hj1.at_ 1 _ rfl
      have d2 := hj1.at_ 2 _ rfl
      have d3 := hj1.at_ 3 _ rfl
      have d4 := hj1.at_ 4 _ rfl
      have d5 := hj1.at_ 5 _ rfl
      have f0 := hj1.free 0
      have f1 := hj1.free 1
      have f2 := hj1.free 2
      have f3 := hj1.free 3
      have f4 := hj1.free 4
      have f5 := hj1.free 5
      go_wp2
      go_roundw
      case rel =>
        refine ⟨k + 1, K.setTg (strk K K.tg l[k]), by omega, by go_num, ?_, ((((((hj1.put 0 _).put 1 _).put 2 _).put 3 _).put 4 _).put 5 _), ?_, ?_⟩
        · rw [take_snoc l k hkl, afterS_snoc, HK.out]; rfl
        · iterate 6 (refine Bk.other ?_ (by simp) _)
          exact ho1
        · iterate 6 (refine Below.setCell ?_ (by simp) _)
          exact hB.trans (hb.mono hz)
      case measure => simp [intOf]; omega
    · obtain rfl : k = n := by omega
      go_wp2_with (first | (refine wpList_load_row rfl 106 _ rfl w.heap.size rfl _ (jobC K (.slice sa sn sc)) _ _ hj Try.underlying106 rfl szWork ?_) | (refine wpList_store_row rfl 106 _ _ rfl (w.heap.size + 1) (jobC K (.slice sa sn sc)) rfl rfl _ _ ho szWork rfl (oneJob _ _ _ _) ?_))
      have e : l.take k = l := by rw [Hn.out]; exact List.take_length
      refine bodyPost_ret (v := .agg (jobC K (.slice sa sn sc))) (results_cell_row Try.results73 _ _ _ _ _ _ _ rfl (ho.row _) Try.underlying106 rfl szWork) rfl ⟨by rw [HK.out, e], ?_⟩
      exact below_setRow hB (by simp) _
end Go.Proofs.Ytbebofmpimfbgaa
/- The tuner's best move: the closure of reed.player. -/
namespace Go.Proofs.Ytbebofmpimfbgaa
set_option linter.all false
open Go.RowKit Go.Shelf

attribute [local go_sem] Oper.semAt_some

theorem wpIn_scope {n : Nat} {P : Program} {c : Code} {Q : Exit → Act → World → Prop} {a : Act} {w : World} (h : c.wpIn Fence.wide n P (Exit.noGoto Q) a w) : (Code.scope c).wpIn Fence.wide n P Q a w :=
  wpIn_wide.2 (wp_scope_straight ((wpIn_wide (n := n)).1 h))

/-- What the closure has captured. -/
structure Env (J : Jb) (s : Value) (Bw Bf Bj Bb bm : Nat) (W : World) : Prop where
  win : Bk W Bw 23 #[.int .i64 (win J.wi J.sh).1, .int .i64 (win J.wi J.sh).2]
  found : Bk W Bf 123 #[.map (some bm)]
  job : Bk W Bj 30 (jobC J s)
  best : Bk W Bb 85 #[.func (.func 81) #[] #[.pointer (some ⟨Bw, 0, none⟩), .pointer (some ⟨Bf, 0, none⟩), .pointer (some ⟨Bj, 0, none⟩), .pointer (some ⟨Bb, 0, none⟩)]]

theorem bk_ne_memo {J : Jb} {W : World} {g bm cnt : Nat} {t : TypeId} {cs : Array Value} (h : Bk W g t cs) (hm : Memo J W bm cnt) : g ≠ bm := by
  rintro rfl
  obtain ⟨_, ⟨_, _, hb, _⟩, _⟩ := hm
  unfold Bk at h
  rw [h] at hb
  cases hb
theorem Env.grown {J : Jb} {s : Value} {Bw Bf Bj Bb bm cnt : Nat} {W W' : World} (h : Env J s Bw Bf Bj Bb bm W) (hm : Memo J W bm cnt) (hg : W.grownBy W' (some bm)) : Env J s Bw Bf Bj Bb bm W' :=
  ⟨h.win.grown hg (fun e => bk_ne_memo h.win hm (by injection e)), h.found.grown hg (fun e => bk_ne_memo h.found hm (by injection e)), h.job.grown hg (fun e => bk_ne_memo h.job hm (by injection e)), h.best.grown hg (fun e => bk_ne_memo h.best hm (by injection e))⟩
theorem Env.below {J : Jb} {s : Value} {Bw Bf Bj Bb bm : Nat} {W W' : World} (h : Env J s Bw Bf Bj Bb bm W) (hb : Below W.heap.size W W') : Env J s Bw Bf Bj Bb bm W' :=
  ⟨h.win.below hb h.win.lt, h.found.below hb h.found.lt, h.job.below hb h.job.lt, h.best.below hb h.best.lt⟩

theorem grown_of_below {W W' : World} (h : Below W.heap.size W W') (row : Option Nat) : W.grownBy W' row := ⟨h.os, h.tape, h.output, h.size, fun k hk _ => h.block k hk⟩

theorem below4 (W : World) (o1 o2 o3 o4 : Obj) : Below W.heap.size W ((((W.alloc o1).alloc o2).alloc o3).alloc o4) :=
  ((((Below.refl _ _).alloc (Nat.le_refl _) _).alloc (by simp) _).alloc (by simp; omega) _).alloc (by simp; omega) _

/-- How many moves a call may lay down. -/
def cost : Nat → Nat
  | 0 => 0
  | k + 1 => 1 + 4000 * cost k

/-- What the closure hands back, and what it leaves. -/
def BestEnd (J : Jb) (k : Nat) (t : Tg) (bm cnt : Nat) (W : World) (e : Ending) (W' : World) : Prop :=
  e = .returned (.agg #[.int .i64 (bestM J k t).1, .int .i64 (bestM J k t).2]) ∧ (∃ cnt', cnt' ≤ cnt + cost k ∧ Memo J W' bm cnt') ∧ W.grownBy W' (some bm)

set_option maxHeartbeats 1000000 in
set_option maxRecDepth 100000 in
/-- Where the tuner stops at once. -/
theorem best_stop (J : Jb) (s : Value) (Bw Bf Bj Bb bm cnt k : Nat) (t : Tg) (W : World) (hE : Env J s Bw Bf Bj Bb bm W) (hM : Memo J W bm cnt) (h : (win J.wi J.sh).1 ≤ t.p1 ∧ t.p2 ≤ (win J.wi J.sh).2) :
    Calls Try.prog 81 #[.agg #[.int .i64 t.p1, .int .i64 t.p2, .int .i64 t.t1, .int .i64 t.t2, .int .i64 t.r1, .int .i64 t.r2, .int .i64 (k : Int)], .pointer (some ⟨Bw, 0, none⟩), .pointer (some ⟨Bf, 0, none⟩), .pointer (some ⟨Bj, 0, none⟩), .pointer (some ⟨Bb, 0, none⟩)] W (BestEnd J k t bm cnt W) := by
  have He : Hid (bestM J k t = (0, 0)) := by
    show bestM J k t = (0, 0)
    cases k <;> (unfold bestM; rw [if_pos h])
  have hd : decide ((win J.wi J.sh).1 ≤ t.p1 ∧ t.p2 ≤ (win J.wi J.sh).2) = true := decide_eq_true h
  have HM := hidMk hM
  have l1 := hE.win.lt
  have l2 : Bw < W.heap.size + 1 := by omega
  have w0 := hE.win.at_ 0 _ rfl
  have w1 := hE.win.at_ 1 _ rfl
  clear h hM hE
  refine (callsIn_wide (n := 3)).1 (callsIn_of_wp_marks Try.func81 rfl trivial ?_ rfl)
  simp only [Try.ntmps81, List.size_toArray, List.length_cons, List.length_nil, Nat.reduceAdd, Nat.reduceSub, Array.replicate_succ, Array.replicate_zero, List.push_toArray, List.append_toArray, List.nil_append, List.cons_append]
  gi_wp2_with fail
  refine wpIn_scope ?_
  gi_wp2_with (refine ⟨trivial, ?_⟩; gi_at_call 82; refine (callsIn_wide.2 (holds_any _ _ _ _ _)).mono ?_; rintro e w2 ⟨rfl, rfl⟩)
  rw [Exit.noGoto_ret]
  have r0 : Bk (W.alloc (.cells #[.int .i64 t.p1, .int .i64 t.p2, .int .i64 t.t1, .int .i64 t.t2, .int .i64 t.r1, .int .i64 t.r2, .int .i64 (k : Int)] 93)) W.heap.size 93 #[.int .i64 t.p1, .int .i64 t.p2, .int .i64 t.t1, .int .i64 t.t2, .int .i64 t.r1, .int .i64 t.r2, .int .i64 (k : Int)] := Bk.new _ _ _
  have r1 : Bk ((W.alloc (.cells #[.int .i64 t.p1, .int .i64 t.p2, .int .i64 t.t1, .int .i64 t.t2, .int .i64 t.r1, .int .i64 t.r2, .int .i64 (k : Int)] 93)).alloc (.cells #[.int .i64 0, .int .i64 0] 91)) (W.heap.size + 1) 91 #[.int .i64 0, .int .i64 0] := Bk.newAt _ _ _ _ (by simp)
  exact ⟨_, results_cell_row Try.results81 _ _ _ _ _ _ _ rfl ((r1.alloc _).alloc _) Try.underlying91 rfl szMove, by rw [He.out], ⟨cnt, by omega, HM.out.kept (grown_of_below (below4 W _ _ _ _) none) (by simp)⟩, grown_of_below (below4 W _ _ _ _) _⟩

set_option maxHeartbeats 1000000 in
set_option maxRecDepth 100000 in
/-- Where no stroke is left. -/
theorem best_none (J : Jb) (s : Value) (Bw Bf Bj Bb bm cnt : Nat) (t : Tg) (W : World) (hE : Env J s Bw Bf Bj Bb bm W) (hM : Memo J W bm cnt) (h : ¬ ((win J.wi J.sh).1 ≤ t.p1 ∧ t.p2 ≤ (win J.wi J.sh).2)) :
    Calls Try.prog 81 #[.agg #[.int .i64 t.p1, .int .i64 t.p2, .int .i64 t.t1, .int .i64 t.t2, .int .i64 t.r1, .int .i64 t.r2, .int .i64 0], .pointer (some ⟨Bw, 0, none⟩), .pointer (some ⟨Bf, 0, none⟩), .pointer (some ⟨Bj, 0, none⟩), .pointer (some ⟨Bb, 0, none⟩)] W (BestEnd J 0 t bm cnt W) := by
  have He : Hid (bestM J 0 t = (0, 5)) := by
    show bestM J 0 t = (0, 5)
    unfold bestM; rw [if_neg h]
  have hd : decide ((win J.wi J.sh).1 ≤ t.p1 ∧ t.p2 ≤ (win J.wi J.sh).2) = false := decide_eq_false h
  have HM := hidMk hM
  have l1 := hE.win.lt
  have l2 : Bw < W.heap.size + 1 := by omega
  have w0 := hE.win.at_ 0 _ rfl
  have w1 := hE.win.at_ 1 _ rfl
  clear h hM hE
  refine (callsIn_wide (n := 3)).1 (callsIn_of_wp_marks Try.func81 rfl trivial ?_ rfl)
  simp only [Try.ntmps81, List.size_toArray, List.length_cons, List.length_nil, Nat.reduceAdd, Nat.reduceSub, Array.replicate_succ, Array.replicate_zero, List.push_toArray, List.append_toArray, List.nil_append, List.cons_append]
  gi_wp2_with fail
  refine wpIn_scope ?_
  gi_wp2_with (refine ⟨trivial, ?_⟩; gi_at_call 82; refine (callsIn_wide.2 (holds_any _ _ _ _ _)).mono ?_; rintro e w2 ⟨rfl, rfl⟩)
  rw [Exit.noGoto_ret]
  have r1 : Bk ((W.alloc (.cells #[.int .i64 t.p1, .int .i64 t.p2, .int .i64 t.t1, .int .i64 t.t2, .int .i64 t.r1, .int .i64 t.r2, .int .i64 0] 93)).alloc (.cells #[.int .i64 0, .int .i64 5] 91)) (W.heap.size + 1) 91 #[.int .i64 0, .int .i64 5] := Bk.newAt _ _ _ _ (by simp)
  exact ⟨_, results_cell_row Try.results81 _ _ _ _ _ _ _ rfl ((r1.alloc _).alloc _) Try.underlying91 rfl szMove, by rw [He.out], ⟨cnt, by omega, HM.out.kept (grown_of_below (below4 W _ _ _ _) none) (by simp)⟩, grown_of_below (below4 W _ _ _ _) _⟩
end Go.Proofs.Ytbebofmpimfbgaa
/- The tuner's best move, where a stroke is left: what is remembered, and what is reckoned. -/
namespace Go.Proofs.Ytbebofmpimfbgaa
set_option linter.all false
open Go.RowKit Go.Shelf

attribute [local go_sem] Oper.semAt_some

theorem knownC_succ (t : Tg) (k : Nat) : knownC t (k + 1) = #[.int .i64 t.p1, .int .i64 t.p2, .int .i64 t.t1, .int .i64 t.t2, .int .i64 t.r1, .int .i64 t.r2, .int .i64 ((k : Int) + 1)] := by simp [knownC]

end Go.Proofs.Ytbebofmpimfbgaa
/- Contracts of reed.checkStrokes, reed.filed and reed.After. -/
namespace Go.Proofs.Ytbebofmpimfbgaa
set_option linter.all false
open Go.RowKit

def kindE : List Int → Int
  | [] => 0
  | x :: l => if x = 1 ∨ x = 2 then kindE l else 8
def strokesE (l : List Int) : Int := if 6 < l.length then 6 else kindE l
theorem kindE_ok : ∀ (l : List Int), kindE l = 0 → ∀ x ∈ l, x = 1 ∨ x = 2
  | [], _, x, h => by simp at h
  | y :: l, h, x, hx => by
    unfold kindE at h
    by_cases h0 : y = 1 ∨ y = 2
    · rw [if_pos h0] at h
      rcases List.mem_cons.1 hx with rfl | hx
      · exact h0
      · exact kindE_ok l h x hx
    · rw [if_neg h0] at h; omega

set_option maxHeartbeats 1000000 in
theorem checkStrokes_any (a : Option Addr) (n c : Nat) (l : List Int) (w : World) (hn : n = l.length) (hm : n ≤ 9223372036854775807) (h : Is w w.heap.size a l) :
    Calls Try.prog 89 #[.slice a n c] w fun e w' => e = .returned (.int .i64 (strokesE l)) ∧ w = w' := by
  have Hn : Hid (n = l.length) := hn
  have Hh : Hid (Is w w.heap.size a l) := h
  clear hn h
  by_cases h6 : 6 < n
  · have He : Hid (strokesE l = 6) := by show strokesE l = 6; unfold strokesE; rw [if_pos (by rw [← Hn.out]; exact h6)]
    go_enter Try.func89, Try.ntmps89
    go_wp2
    go_ret
    exact ⟨ret_i (by rw [He.out]), rfl⟩
  · have He : Hid (strokesE l = kindE l) := by show strokesE l = kindE l; unfold strokesE; rw [if_neg (by rw [← Hn.out]; exact h6)]
    go_enter Try.func89, Try.ntmps89
    go_wp2
    go_loop [10] (fun i => ∃ k : Nat, k ≤ n ∧ i = .int .i64 k ∧ Hid (kindE l = kindE (l.drop k))) (fun i => n - (intOf i).toNat)
    case atStart => exact ⟨0, Nat.zero_le _, rfl, hidMk rfl⟩
    case round =>
      obtain ⟨k, hk, rfl, Hf⟩ := hrel
      by_cases hlt : k < n
      · have hkl : k < l.length := by rw [← Hn.out]; exact hlt
        obtain ⟨b, off, rfl, hbl, e0⟩ := Hh.out k l[k] (List.getElem?_eq_getElem hkl)
        obtain ⟨x, Hx⟩ : ∃ x, Hid (x = l[k]) := ⟨_, hidMk rfl⟩
        rw [← Hx.out] at e0
        have Hd : Hid (l.drop k = x :: l.drop (k + 1)) := by show _ = _; rw [Hx.out]; exact List.drop_eq_getElem_cons hkl
        by_cases h1 : x = 1
        · have h1b : (x == 1) = true := by simp [h1]
          have Hi : Hid (x = 1 ∨ x = 2) := .inl h1
          clear h1
          go_wp2
          go_round
          case rel => exact ⟨k + 1, by omega, by go_num, hidMk (by rw [Hf.out, Hd.out, kindE, if_pos Hi.out])⟩
          case measure => simp [intOf]; omega
        · have h1b : (x == 1) = false := by simp [h1]
          by_cases h2 : x = 2
          · have h2b : (x == 2) = true := by simp [h2]
            have Hi : Hid (x = 1 ∨ x = 2) := .inr h2
            clear h1 h2
            go_wp2
            go_round
            case rel => exact ⟨k + 1, by omega, by go_num, hidMk (by rw [Hf.out, Hd.out, kindE, if_pos Hi.out])⟩
            case measure => simp [intOf]; omega
          · have h2b : (x == 2) = false := by simp [h2]
            have Hi : Hid (¬ (x = 1 ∨ x = 2)) := by show ¬ _; omega
            clear h1 h2
            go_wp2
            go_ret
            exact ⟨ret_i (by rw [He.out, Hf.out, Hd.out, kindE, if_neg Hi.out]), rfl⟩
      · obtain rfl : k = n := by omega
        go_wp2
        go_ret
        exact ⟨ret_i (by rw [He.out, Hf.out, List.drop_of_length_le (by rw [← Hn.out]; omega)]; rfl), rfl⟩

/-- The error of a job and strokes. -/
def filedE (J : Jb) (l : List Int) : Int := if J.check = 0 then strokesE l else J.check
def zeroJ : Jb := ⟨0, 0, 0, 0, 0, 0, 0, 0, 0, 0, 0, 0, 0, 0, 0, 0, 0, []⟩
/-- What 'filed' hands back: the work after the strokes, or none. -/
def FiledEnd (J : Jb) (l : List Int) (a : Option Addr) (n c : Nat) (w : World) (e : Ending) (w' : World) : Prop :=
  (if filedE J l = 0 then e = .returned (.tuple #[.agg (jobC (J.setTg (afterS J J.tg l)) (.slice a n c)), .int .i64 0])
    else e = .returned (.tuple #[.agg (jobC zeroJ (.slice none 0 0)), .int .i64 (filedE J l)])) ∧ Below w.heap.size w w'

theorem filed_first (J : Jb) (l : List Int) : firstE [J.check, strokesE l] = filedE J l := by
  unfold filedE firstE firstE firstE
  by_cases h : J.check = 0
  · rw [if_pos h, if_pos h]
    by_cases h2 : strokesE l = 0
    · rw [if_pos h2, h2]
    · rw [if_neg h2]
  · rw [if_neg h, if_neg h]

set_option maxHeartbeats 1000000 in
set_option maxRecDepth 100000 in
theorem filed_any (J : Jb) (a : Option Addr) (n c : Nat) (b : Option Addr) (m d : Nat) (l : List Int) (w : World) (hn : n = J.sh.length) (hm : n ≤ 9223372036854775807) (h : Rg w w.heap.size a J.sh)
    (hmn : m = l.length) (hmm : m ≤ 9223372036854775807) (hl : Is w w.heap.size b l) :
    Calls Try.prog 65 #[.agg (jobC J (.slice a n c)), .slice b m d] w (FiledEnd J l a n c w) := by
  have Hn : Hid (n = J.sh.length) := hn
  have Hh : Hid (Rg w w.heap.size a J.sh) := h
  have Hm : Hid (m = l.length) := hmn
  have Hl : Hid (Is w w.heap.size b l) := hl
  clear hn h hmn hl
  have b0 : Bk ((w.alloc (.cells (jobC J (.slice a n c)) 30)).alloc (.cells #[.int .i64 0, .int .i64 0, .int .i64 0, .int .i64 0, .int .i64 0, .int .i64 0, .int .i64 0, .int .i64 0, .int .i64 0, .int .i64 0, .int .i64 0, .int .i64 0, .int .i64 0, .int .i64 0, .int .i64 0, .slice none 0 0, .int .i64 0, .int .i64 0] 106)) w.heap.size 30 (jobC J (.slice a n c)) := (Bk.new w _ _).alloc _
  have b1 : Bk ((w.alloc (.cells (jobC J (.slice a n c)) 30)).alloc (.cells #[.int .i64 0, .int .i64 0, .int .i64 0, .int .i64 0, .int .i64 0, .int .i64 0, .int .i64 0, .int .i64 0, .int .i64 0, .int .i64 0, .int .i64 0, .int .i64 0, .int .i64 0, .int .i64 0, .int .i64 0, .slice none 0 0, .int .i64 0, .int .i64 0] 106)) (w.heap.size + 1) 106 #[.int .i64 0, .int .i64 0, .int .i64 0, .int .i64 0, .int .i64 0, .int .i64 0, .int .i64 0, .int .i64 0, .int .i64 0, .int .i64 0, .int .i64 0, .int .i64 0, .int .i64 0, .int .i64 0, .int .i64 0, .slice none 0 0, .int .i64 0, .int .i64 0] := Bk.newAt _ _ _ _ (by simp)
  have hW : Below w.heap.size w ((w.alloc (.cells (jobC J (.slice a n c)) 30)).alloc (.cells #[.int .i64 0, .int .i64 0, .int .i64 0, .int .i64 0, .int .i64 0, .int .i64 0, .int .i64 0, .int .i64 0, .int .i64 0, .int .i64 0, .int .i64 0, .int .i64 0, .int .i64 0, .int .i64 0, .int .i64 0, .slice none 0 0, .int .i64 0, .int .i64 0] 106)) := ((Below.refl _ _).alloc (Nat.le_refl _) _).alloc (by simp) _
  by_cases hc : filedE J l = 0
  · have hcb : (firstE [J.check, strokesE l] != 0) = false := by rw [filed_first]; simp [hc]
    have Hc := hidMk hc
    have hc0 : J.check = 0 := by
      by_cases h0 : J.check = 0
      · exact h0
      · unfold filedE at hc; rw [if_neg h0] at hc; exact absurd hc h0
    have hs0 : strokesE l = 0 := by unfold filedE at hc; rw [if_pos hc0] at hc; exact hc
    have HJ := hidMk ((check_ok hc0).inn.mono (by decide : (100 : Int) ≤ 200))
    have Hs := hidMk hs0
    have h6 : m ≤ 6 := by
      unfold strokesE at hs0
      rw [Hm.out]
      by_cases h6 : 6 < l.length
      · rw [if_pos h6] at hs0; omega
      · omega
    have Hk : Hid (∀ x ∈ l, x = 1 ∨ x = 2) := by
      show ∀ x ∈ l, x = 1 ∨ x = 2
      unfold strokesE at hs0
      by_cases h6 : 6 < l.length
      · rw [if_pos h6] at hs0; omega
      · rw [if_neg h6] at hs0; exact kindE_ok l hs0
    clear hc hc0 hs0
    go_enter Try.func65, Try.ntmps65
    go_wp2_with (refine wpList_load_row rfl 30 _ rfl w.heap.size rfl _ (jobC J (.slice a n c)) _ _ b0 Try.underlying30 rfl szJob ?_)
    refine (check_any J a n c _ Hn.out hm (Hh.out.up hW)).mono ?_
    rintro e w1 ⟨rfl, hb1⟩
    have hz1 := hb1.size
    simp only [World.size_alloc] at hz1
    have k0 := b0.below hb1 (by simp; omega)
    have k1 := b1.below hb1 (by simp)
    have hB1 : Below w.heap.size w w1 := hW.trans (hb1.mono (by simp; omega))
    clear hb1 b0 b1 hW
    go_wp2_with (first | (go_at_call 89; refine (checkStrokes_any _ _ _ l _ Hm.out hmm (Hl.out.up hB1)).mono ?_; rintro e w2 ⟨rfl, rfl⟩) | (go_at_call 78; refine (first_any _ _ _ [J.check, strokesE l] _ rfl (by simp) (Is.of_bk _ (Bk.new _ _ _) (by simp))).mono ?_; rintro e w2 ⟨rfl, rfl⟩) | (refine wpList_load_row rfl 30 _ rfl w.heap.size rfl _ (jobC J (.slice a n c)) _ _ (k0.alloc _) Try.underlying30 rfl szJob ?_))
    refine (after_any J a n c b m d l _ HJ.out Hm.out h6 Hk.out (Hl.out.up (hB1.alloc (by omega) _))).mono ?_
    rintro e w3 ⟨rfl, hb3⟩
    have hz3 := hb3.size
    simp only [World.size_alloc] at hz3
    have q1 := (k1.alloc _).below hb3 (by simp; omega)
    have hB3 : Below w.heap.size w w3 := (hB1.alloc (by omega) _).trans (hb3.mono (by simp; omega))
    clear hb3 k0 k1 hB1
    go_wp2_with (refine wpList_store_row rfl 106 _ _ rfl (w.heap.size + 1) (jobC (J.setTg (afterS J J.tg l)) (.slice a n c)) rfl rfl _ _ q1 szWork rfl (oneJob _ _ _ _) ?_)
    refine bodyPost_ret (results_row_tmp Try.results65 _ _ _ _ _ _ rfl rfl (q1.row _) Try.underlying106 szWork) rfl ⟨?_, below_setRow hB3 (by simp) _⟩
    rw [if_pos Hc.out]
    rfl
  · have hcb : (firstE [J.check, strokesE l] != 0) = true := by rw [filed_first]; simpa using hc
    have Hc := hidMk hc
    clear hc
    go_enter Try.func65, Try.ntmps65
    go_wp2_with (refine wpList_load_row rfl 30 _ rfl w.heap.size rfl _ (jobC J (.slice a n c)) _ _ b0 Try.underlying30 rfl szJob ?_)
    refine (check_any J a n c _ Hn.out hm (Hh.out.up hW)).mono ?_
    rintro e w1 ⟨rfl, hb1⟩
    have hz1 := hb1.size
    simp only [World.size_alloc] at hz1
    have k0 := b0.below hb1 (by simp; omega)
    have k1 := b1.below hb1 (by simp)
    have hB1 : Below w.heap.size w w1 := hW.trans (hb1.mono (by simp; omega))
    clear hb1 b0 b1 hW
    have q1 := k1.alloc (.cells #[.int .i64 J.check, .int .i64 (strokesE l)] 39)
    go_wp2_with (first | (go_at_call 89; refine (checkStrokes_any _ _ _ l _ Hm.out hmm (Hl.out.up hB1)).mono ?_; rintro e w2 ⟨rfl, rfl⟩) | (go_at_call 78; refine (first_any _ _ _ [J.check, strokesE l] _ rfl (by simp) (Is.of_bk _ (Bk.new _ _ _) (by simp))).mono ?_; rintro e w2 ⟨rfl, rfl⟩) | (refine wpList_store_row rfl 106 _ _ rfl (w.heap.size + 1) (jobC zeroJ (.slice none 0 0)) rfl rfl _ _ q1 szWork rfl (oneJob _ _ _ _) ?_))
    refine bodyPost_ret (results_row_tmp Try.results65 _ _ _ _ _ _ rfl rfl (q1.row _) Try.underlying106 szWork) rfl ⟨?_, below_setRow (hB1.alloc (by omega) _) (by simp) _⟩
    rw [if_neg Hc.out, ← filed_first]
    rfl

end Go.Proofs.Ytbebofmpimfbgaa
/- The contract of reed.After. -/
namespace Go.Proofs.Ytbebofmpimfbgaa
set_option linter.all false
open Go.RowKit

end Go.Proofs.Ytbebofmpimfbgaa
/- Drawn regions gone through by hand. -/
namespace Go.Proofs.Ytbebofmpimfbgaa
set_option linter.all false
open Go.RowKit

theorem region_via {P : Program} {id : Nat} {ops : Array Oper} {b : Bool} {Q : Exit → Act → World → Prop} {a : Act} {w : World} (R : Act → Exit → Act → World → Prop) (h : (Code.region id ops b).wp P (R a) a w) (hR : ∀ e a' w', R a e a' w' → Q e a' w') : (Code.region id ops b).wp P Q a w :=
  Code.wp_mono hR h
theorem yields_row {P : Program} {ops : Array Oper} {S : World → Prop} {op : Oper} {a : Act} (hw : Region.wanted op (yielded ops a.tmps) = true) (ty : TypeId) (x : Operand) (ho : op.op = .load ty x)
    (g : Nat) (cs : Array Value) (hx : a.eval x = .pointer (some ⟨g, 0, none⟩)) (t : TypeId) (hS : ∀ w, S w → Bk w g t cs) {fs : Array Field} (hu : P.underlying ty = some (.struct fs)) (hi : (P.info? ty).map (·.size) = some cs.size) : YieldsIf P ops S op (.agg cs) a :=
  .inl ⟨hw, fun w hw' => by
    have hg := hS w hw'
    unfold execOp
    simp only [ho, hx, Instr.loadAt, Instr.sureAddr, Sem.run_bind, Sem.run_pure, Result.andThen_ok, run_loadVar_row w g _ ty cs _ _ hg hu rfl hi]⟩
end Go.Proofs.Ytbebofmpimfbgaa
