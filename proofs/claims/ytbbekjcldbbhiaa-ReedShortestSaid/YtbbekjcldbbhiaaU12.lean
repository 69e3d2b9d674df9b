/- Part 12 of the proof: Check, CheckB. -/
import Derived.Deep.RegionHeld3
import Derived.Deep.DeepCutAuto
import Derived.Test.YtbbekjcldbbhiaaU11
/- Contracts of the checks of package reed. -/
namespace Go.Proofs.Ytbbekjcldbbhiaa
set_option linter.all false
open Go.RowKit

theorem rng_first (a b lo hi : Int) : firstE [numE a lo hi, numE b lo hi] = (if a < lo ∨ hi < a then 1 else if b < lo ∨ hi < b then 1 else 0) := by
  unfold firstE firstE firstE numE
  by_cases h1 : a < lo ∨ hi < a <;> by_cases h2 : b < lo ∨ hi < b <;> simp [h1, h2]

theorem two_new (w : World) (C D : Array Value) (t u : TypeId) : Bk ((w.alloc (.cells C t)).alloc (.cells D u)) (w.heap.size + 1) u D := by
  have := Bk.new (w.alloc (.cells C t)) u D
  rwa [World.size_alloc] at this

set_option maxHeartbeats 400000 in
theorem checkRange_any (a b lo hi : Int) (w : World) :
    Calls Try.prog 42 #[.agg #[.int .i64 a, .int .i64 b], .int .i64 lo, .int .i64 hi] w fun e w' => e = .returned (.int .i64 (rngE a b lo hi)) ∧ Below w.heap.size w w' := by
  by_cases h0 : firstE [numE a lo hi, numE b lo hi] = 0
  · have hb : (firstE [numE a lo hi, numE b lo hi] == 0) = true := by simp [h0]
    have He : Hid (rngE a b lo hi = if b < a then 5 else 0) := by
      show rngE a b lo hi = if b < a then 5 else 0
      rw [rng_first] at h0
      unfold rngE
      by_cases h1 : a < lo ∨ hi < a <;> by_cases h2 : b < lo ∨ hi < b <;> simp [h1, h2] at h0 ⊢
    have H0 : Hid (firstE [numE a lo hi, numE b lo hi] = 0) := h0
    clear h0
    by_cases hba : b < a
    · go_enter Try.func42, Try.ntmps42
      go_wp2_with fail
      go_region_held3 (fun w' => w'.cell? ⟨w.heap.size, 0, none⟩ = some (.int .i64 a) ∧ w'.cell? ⟨w.heap.size, 1, none⟩ = some (.int .i64 b)) (go_keep)
        (first | (go_at_call 43; refine (checkNumber_any _ _ _ _).mono ?_; rintro e w' ⟨rfl, rfl⟩) | (go_at_call 41; refine (first_any _ _ _ [numE a lo hi, numE b lo hi] _ rfl (by simp) ?_).mono ?_; (exact Is.of_bk (g := w.heap.size + 1) (t := 38) _ (two_new w _ _ _ _) (by simp)); rintro e w' ⟨rfl, rfl⟩))
      go_wp2_with (go_at_call 38; refine (empty_any _ _ _).mono ?_; rintro e w' ⟨rfl, rfl⟩)
      go_ret
      refine ⟨ret_i (by rw [He.out, if_pos hba]), ?_⟩
      exact ((((Below.refl _ _).alloc (Nat.le_refl _) _).alloc (by simp) _).alloc (by simp; omega) _).drew
    · go_enter Try.func42, Try.ntmps42
      go_wp2_with fail
      go_region_held3 (fun w' => w'.cell? ⟨w.heap.size, 0, none⟩ = some (.int .i64 a) ∧ w'.cell? ⟨w.heap.size, 1, none⟩ = some (.int .i64 b)) (go_keep)
        (first | (go_at_call 43; refine (checkNumber_any _ _ _ _).mono ?_; rintro e w' ⟨rfl, rfl⟩) | (go_at_call 41; refine (first_any _ _ _ [numE a lo hi, numE b lo hi] _ rfl (by simp) ?_).mono ?_; (exact Is.of_bk (g := w.heap.size + 1) (t := 38) _ (two_new w _ _ _ _) (by simp)); rintro e w' ⟨rfl, rfl⟩))
      go_wp2_with (go_at_call 38; refine (empty_any _ _ _).mono ?_; rintro e w' ⟨rfl, rfl⟩)
      go_ret
      refine ⟨ret_i (by rw [He.out, H0.out, if_neg (by omega)]), ?_⟩
      exact ((((Below.refl _ _).alloc (Nat.le_refl _) _).alloc (by simp) _).alloc (by simp; omega) _).drew
  · have hb : (firstE [numE a lo hi, numE b lo hi] == 0) = false := by simp [h0]
    have He : Hid (rngE a b lo hi = firstE [numE a lo hi, numE b lo hi]) := by
      show rngE a b lo hi = firstE [numE a lo hi, numE b lo hi]
      rw [rng_first] at h0 ⊢
      unfold rngE
      by_cases h1 : a < lo ∨ hi < a <;> by_cases h2 : b < lo ∨ hi < b <;> simp [h1, h2] at h0 ⊢
    clear h0
    go_enter Try.func42, Try.ntmps42
    go_wp2_with fail
    go_region_held3 (fun w' => w'.cell? ⟨w.heap.size, 0, none⟩ = some (.int .i64 a) ∧ w'.cell? ⟨w.heap.size, 1, none⟩ = some (.int .i64 b)) (go_keep)
      (first | (go_at_call 43; refine (checkNumber_any _ _ _ _).mono ?_; rintro e w' ⟨rfl, rfl⟩) | (go_at_call 41; refine (first_any _ _ _ [numE a lo hi, numE b lo hi] _ rfl (by simp) ?_).mono ?_; (exact Is.of_bk (g := w.heap.size + 1) (t := 38) _ (two_new w _ _ _ _) (by simp)); rintro e w' ⟨rfl, rfl⟩))
    go_wp2_with (go_at_call 38; refine (empty_any _ _ _).mono ?_; rintro e w' ⟨rfl, rfl⟩)
    go_ret
    refine ⟨ret_i (by rw [He.out]), ?_⟩
    exact (((Below.refl _ _).alloc (Nat.le_refl _) _).alloc (by simp) _).drew

theorem head_first (J : Jb) : firstE [rngE J.p1 J.p2 (-60) 60, rngE J.t1 J.t2 0 100, rngE J.r1 J.r2 0 100, rngE J.u1 J.u2 0 12, rngE J.d1 J.d2 0 12, rngE J.x1 J.x2 0 12, rngE J.y1 J.y2 0 12, numE J.le 0 100] = J.head := rfl

set_option maxHeartbeats 1000000 in
set_option maxRecDepth 100000 in
theorem check_bad (J : Jb) (a : Option Addr) (n c : Nat) (w : World) (hj : J.head ≠ 0) :
    Calls Try.prog 28 #[.agg (jobC J (.slice a n c))] w fun e w' => e = .returned (.int .i64 J.head) ∧ Below w.heap.size w w' := by
  have hbad : (firstE [rngE J.p1 J.p2 (-60) 60, rngE J.t1 J.t2 0 100, rngE J.r1 J.r2 0 100, rngE J.u1 J.u2 0 12, rngE J.d1 J.d2 0 12, rngE J.x1 J.x2 0 12, rngE J.y1 J.y2 0 12, numE J.le 0 100] != 0) = true := by rw [head_first]; simpa using hj
  clear hj
  go_enter Try.func28, Try.ntmps28
  go_wp2_with fail
  have hk0 := Bk.new w 30 (jobC J (.slice a n c))
  have hB : Below (w.heap.size + 1) (w.alloc (.cells (jobC J (.slice a n c)) 30)) (w.alloc (.cells (jobC J (.slice a n c)) 30)) := Below.refl _ _
  go_region_held3 (fun w' => w'.cell? ⟨w.heap.size, 0, none⟩ = some (.int .i64 J.p1) ∧ w'.cell? ⟨w.heap.size, 1, none⟩ = some (.int .i64 J.p2) ∧ w'.cell? ⟨w.heap.size, 2, none⟩ = some (.int .i64 J.t1) ∧ w'.cell? ⟨w.heap.size, 3, none⟩ = some (.int .i64 J.t2) ∧ w'.cell? ⟨w.heap.size, 4, none⟩ = some (.int .i64 J.r1) ∧ w'.cell? ⟨w.heap.size, 5, none⟩ = some (.int .i64 J.r2) ∧ w'.cell? ⟨w.heap.size, 6, none⟩ = some (.int .i64 J.u1) ∧ w'.cell? ⟨w.heap.size, 7, none⟩ = some (.int .i64 J.u2) ∧ w'.cell? ⟨w.heap.size, 8, none⟩ = some (.int .i64 J.d1) ∧ w'.cell? ⟨w.heap.size, 9, none⟩ = some (.int .i64 J.d2) ∧ w'.cell? ⟨w.heap.size, 10, none⟩ = some (.int .i64 J.x1) ∧ w'.cell? ⟨w.heap.size, 11, none⟩ = some (.int .i64 J.x2) ∧ w'.cell? ⟨w.heap.size, 12, none⟩ = some (.int .i64 J.y1) ∧ w'.cell? ⟨w.heap.size, 13, none⟩ = some (.int .i64 J.y2) ∧ w'.cell? ⟨w.heap.size, 14, none⟩ = some (.int .i64 J.le)) (go_keep)
    (first | (go_at_call 42; refine (checkRange_any _ _ _ _ _).mono ?_; rintro e w' ⟨rfl, hb⟩; obtain ⟨hc, hf⟩ := bcell hb; (have hB' := (by first | exact chainB hB (by simp) hb | exact chainB hB.drew (by simp) hb : Below (w.heap.size + 1) (w.alloc (.cells (jobC J (.slice a n c)) 30)) w')); clear hB; have hB := hB'; clear hB'; (have hz : w.heap.size < w'.heap.size := by have := hB.size; (try simp at this); omega)) | (go_at_call 43; refine (checkNumber_any _ _ _ _).mono ?_; rintro e w' ⟨rfl, rfl⟩) | (go_at_call 41; refine (first_any _ _ _ [rngE J.p1 J.p2 (-60) 60, rngE J.t1 J.t2 0 100, rngE J.r1 J.r2 0 100, rngE J.u1 J.u2 0 12, rngE J.d1 J.d2 0 12, rngE J.x1 J.x2 0 12, rngE J.y1 J.y2 0 12, numE J.le 0 100] _ rfl (by simp) ?_).mono ?_; (first | exact Is.of_bk _ (Bk.new _ _ _) (by simp) | exact Is.of_bk _ (Bk.new _ _ _).drew (by simp)); rintro e w' ⟨rfl, rfl⟩))
  go_wp2
  go_ret
  exact ⟨ret_i (head_first J), (((Below.refl _ _).alloc (Nat.le_refl _) _).trans (hB.mono (by omega))).alloc (by omega) _⟩

set_option maxHeartbeats 1000000 in
set_option maxRecDepth 100000 in
theorem check_many (J : Jb) (a : Option Addr) (n c : Nat) (w : World) (hj : J.head = 0) (hn : 4 < n) (hm : n ≤ 9223372036854775807) :
    Calls Try.prog 28 #[.agg (jobC J (.slice a n c))] w fun e w' => e = .returned (.int .i64 6) ∧ Below w.heap.size w w' := by
  have hbad : (firstE [rngE J.p1 J.p2 (-60) 60, rngE J.t1 J.t2 0 100, rngE J.r1 J.r2 0 100, rngE J.u1 J.u2 0 12, rngE J.d1 J.d2 0 12, rngE J.x1 J.x2 0 12, rngE J.y1 J.y2 0 12, numE J.le 0 100] != 0) = false := by rw [head_first]; simpa using hj
  clear hj
  go_enter Try.func28, Try.ntmps28
  go_wp2_with fail
  have hk0 := Bk.new w 30 (jobC J (.slice a n c))
  have hB : Below (w.heap.size + 1) (w.alloc (.cells (jobC J (.slice a n c)) 30)) (w.alloc (.cells (jobC J (.slice a n c)) 30)) := Below.refl _ _
  go_region_held3 (fun w' => w'.cell? ⟨w.heap.size, 0, none⟩ = some (.int .i64 J.p1) ∧ w'.cell? ⟨w.heap.size, 1, none⟩ = some (.int .i64 J.p2) ∧ w'.cell? ⟨w.heap.size, 2, none⟩ = some (.int .i64 J.t1) ∧ w'.cell? ⟨w.heap.size, 3, none⟩ = some (.int .i64 J.t2) ∧ w'.cell? ⟨w.heap.size, 4, none⟩ = some (.int .i64 J.r1) ∧ w'.cell? ⟨w.heap.size, 5, none⟩ = some (.int .i64 J.r2) ∧ w'.cell? ⟨w.heap.size, 6, none⟩ = some (.int .i64 J.u1) ∧ w'.cell? ⟨w.heap.size, 7, none⟩ = some (.int .i64 J.u2) ∧ w'.cell? ⟨w.heap.size, 8, none⟩ = some (.int .i64 J.d1) ∧ w'.cell? ⟨w.heap.size, 9, none⟩ = some (.int .i64 J.d2) ∧ w'.cell? ⟨w.heap.size, 10, none⟩ = some (.int .i64 J.x1) ∧ w'.cell? ⟨w.heap.size, 11, none⟩ = some (.int .i64 J.x2) ∧ w'.cell? ⟨w.heap.size, 12, none⟩ = some (.int .i64 J.y1) ∧ w'.cell? ⟨w.heap.size, 13, none⟩ = some (.int .i64 J.y2) ∧ w'.cell? ⟨w.heap.size, 14, none⟩ = some (.int .i64 J.le)) (go_keep)
    (first | (go_at_call 42; refine (checkRange_any _ _ _ _ _).mono ?_; rintro e w' ⟨rfl, hb⟩; obtain ⟨hc, hf⟩ := bcell hb; (have hB' := (by first | exact chainB hB (by simp) hb | exact chainB hB.drew (by simp) hb : Below (w.heap.size + 1) (w.alloc (.cells (jobC J (.slice a n c)) 30)) w')); clear hB; have hB := hB'; clear hB'; (have hz : w.heap.size < w'.heap.size := by have := hB.size; (try simp at this); omega)) | (go_at_call 43; refine (checkNumber_any _ _ _ _).mono ?_; rintro e w' ⟨rfl, rfl⟩) | (go_at_call 41; refine (first_any _ _ _ [rngE J.p1 J.p2 (-60) 60, rngE J.t1 J.t2 0 100, rngE J.r1 J.r2 0 100, rngE J.u1 J.u2 0 12, rngE J.d1 J.d2 0 12, rngE J.x1 J.x2 0 12, rngE J.y1 J.y2 0 12, numE J.le 0 100] _ rfl (by simp) ?_).mono ?_; (first | exact Is.of_bk _ (Bk.new _ _ _) (by simp) | exact Is.of_bk _ (Bk.new _ _ _).drew (by simp)); rintro e w' ⟨rfl, rfl⟩))
  have hk := hk0.below hB (by omega)
  have c15 := hk.at_ 15 _ rfl
  clear hk0 hk
  go_wp2
  go_ret
  exact ⟨rfl, (((Below.refl _ _).alloc (Nat.le_refl _) _).trans (hB.mono (by omega))).alloc (by omega) _⟩

end Go.Proofs.Ytbbekjcldbbhiaa
/- The contract of reed.Check. -/
namespace Go.Proofs.Ytbbekjcldbbhiaa
set_option linter.all false
open Go.RowKit

set_option maxHeartbeats 2000000 in
set_option maxRecDepth 100000 in
theorem check_few (J : Jb) (a : Option Addr) (n c : Nat) (w : World) (hj : J.head = 0) (hn : n = J.sh.length) (hm : n ≤ 4) (h : Rg w w.heap.size a J.sh) :
    Calls Try.prog 28 #[.agg (jobC J (.slice a n c))] w fun e w' => e = .returned (.int .i64 J.check) ∧ Below w.heap.size w w' := by
  have hbad : (firstE [rngE J.p1 J.p2 (-60) 60, rngE J.t1 J.t2 0 100, rngE J.r1 J.r2 0 100, rngE J.u1 J.u2 0 12, rngE J.d1 J.d2 0 12, rngE J.x1 J.x2 0 12, rngE J.y1 J.y2 0 12, numE J.le 0 100] != 0) = false := by rw [head_first]; simpa using hj
  have Hj : Hid (J.check = if shE J.sh = 0 then firstE [numE J.wi 0 60, numE J.me 0 6] else shE J.sh) := by
    show J.check = if shE J.sh = 0 then firstE [numE J.wi 0 60, numE J.me 0 6] else shE J.sh
    unfold Jb.check
    rw [if_pos hj, if_neg (by omega)]
  clear hj
  have Hn : Hid (n = J.sh.length) := hn
  clear hn
  have Hh : Hid (Rg w w.heap.size a J.sh) := h
  clear h
  go_enter Try.func28, Try.ntmps28
  go_wp2_with fail
  have hk0 := Bk.new w 30 (jobC J (.slice a n c))
  have hB : Below (w.heap.size + 1) (w.alloc (.cells (jobC J (.slice a n c)) 30)) (w.alloc (.cells (jobC J (.slice a n c)) 30)) := Below.refl _ _
  go_region_held3 (fun w' => w'.cell? ⟨w.heap.size, 0, none⟩ = some (.int .i64 J.p1) ∧ w'.cell? ⟨w.heap.size, 1, none⟩ = some (.int .i64 J.p2) ∧ w'.cell? ⟨w.heap.size, 2, none⟩ = some (.int .i64 J.t1) ∧ w'.cell? ⟨w.heap.size, 3, none⟩ = some (.int .i64 J.t2) ∧ w'.cell? ⟨w.heap.size, 4, none⟩ = some (.int .i64 J.r1) ∧ w'.cell? ⟨w.heap.size, 5, none⟩ = some (.int .i64 J.r2) ∧ w'.cell? ⟨w.heap.size, 6, none⟩ = some (.int .i64 J.u1) ∧ w'.cell? ⟨w.heap.size, 7, none⟩ = some (.int .i64 J.u2) ∧ w'.cell? ⟨w.heap.size, 8, none⟩ = some (.int .i64 J.d1) ∧ w'.cell? ⟨w.heap.size, 9, none⟩ = some (.int .i64 J.d2) ∧ w'.cell? ⟨w.heap.size, 10, none⟩ = some (.int .i64 J.x1) ∧ w'.cell? ⟨w.heap.size, 11, none⟩ = some (.int .i64 J.x2) ∧ w'.cell? ⟨w.heap.size, 12, none⟩ = some (.int .i64 J.y1) ∧ w'.cell? ⟨w.heap.size, 13, none⟩ = some (.int .i64 J.y2) ∧ w'.cell? ⟨w.heap.size, 14, none⟩ = some (.int .i64 J.le)) (go_keep)
    (first | (go_at_call 42; refine (checkRange_any _ _ _ _ _).mono ?_; rintro e w' ⟨rfl, hb⟩; obtain ⟨hc, hf⟩ := bcell hb; (have hB' := (by first | exact chainB hB (by simp) hb | exact chainB hB.drew (by simp) hb : Below (w.heap.size + 1) (w.alloc (.cells (jobC J (.slice a n c)) 30)) w')); clear hB; have hB := hB'; clear hB'; (have hz : w.heap.size < w'.heap.size := by have := hB.size; (try simp at this); omega)) | (go_at_call 43; refine (checkNumber_any _ _ _ _).mono ?_; rintro e w' ⟨rfl, rfl⟩) | (go_at_call 41; refine (first_any _ _ _ [rngE J.p1 J.p2 (-60) 60, rngE J.t1 J.t2 0 100, rngE J.r1 J.r2 0 100, rngE J.u1 J.u2 0 12, rngE J.d1 J.d2 0 12, rngE J.x1 J.x2 0 12, rngE J.y1 J.y2 0 12, numE J.le 0 100] _ rfl (by simp) ?_).mono ?_; (first | exact Is.of_bk _ (Bk.new _ _ _) (by simp) | exact Is.of_bk _ (Bk.new _ _ _).drew (by simp)); rintro e w' ⟨rfl, rfl⟩))
  have hk := hk0.below hB (by omega)
  have c15 := hk.at_ 15 _ rfl
  have hB1 : Below w.heap.size w w' := ((Below.refl _ _).alloc (Nat.le_refl _) _).trans (hB.mono (by omega))
  clear hk0 hB
  go_wp2
  go_loopw [51] (fun i wr => ∃ k : Nat, k ≤ n ∧ i = .int .i64 k ∧ shE J.sh = shE (J.sh.drop k) ∧ Bk wr w.heap.size 30 (jobC J (.slice a n c)) ∧ Below w.heap.size w wr) (fun i _ => n - (intOf i).toNat)
  case atStart => exact ⟨0, Nat.zero_le _, rfl, rfl, hk.alloc _, hB1.alloc (by omega) _⟩
  case round =>
    clear hB1 hk c15 hbad
    obtain ⟨k, hk, rfl, hf, hj, hB⟩ := hrel
    have Hf : Hid (shE J.sh = shE (J.sh.drop k)) := hf
    clear hf
    have hz := hB.size
    have hl := hj.lt
    by_cases hlt : k < n
    · have hkl : k < J.sh.length := by rw [← Hn.out]; exact hlt
      obtain ⟨b, off, rfl, hbl, e0, e1⟩ := Hh.out k J.sh[k] (List.getElem?_eq_getElem hkl)
      replace e0 := (hB.cell (p := ⟨b, off + k * 2, none⟩) hbl).trans e0
      replace e1 := (hB.cell (p := ⟨b, off + k * 2 + 1, none⟩) hbl).trans e1
      have hbl' : b < wr.heap.size := by omega
      have Hd : Hid (J.sh.drop k = J.sh[k] :: J.sh.drop (k + 1)) := List.drop_eq_getElem_cons hkl
      by_cases hz0 : rngE J.sh[k].1 J.sh[k].2 (-60) 60 = 0
      · have hz1 : (rngE J.sh[k].1 J.sh[k].2 (-60) 60 != 0) = false := by simp [hz0]
        have Hz : Hid (rngE J.sh[k].1 J.sh[k].2 (-60) 60 = 0) := hz0
        clear hz0
        go_wp2_with (go_at_call 42; refine (checkRange_any _ _ _ _ _).mono ?_; rintro e w2 ⟨rfl, hb⟩)
        go_roundw
        case rel => exact ⟨k + 1, by omega, by go_num, by rw [Hf.out, Hd.out, shE, if_pos Hz.out], (hj.alloc _).below hb (by simp; omega), (hB.alloc (by omega) _).trans (hb.mono (by simp; omega))⟩
        case measure => simp [intOf]; omega
      · have hz1 : (rngE J.sh[k].1 J.sh[k].2 (-60) 60 != 0) = true := by simp [hz0]
        have Hz : Hid (¬ rngE J.sh[k].1 J.sh[k].2 (-60) 60 = 0) := hz0
        clear hz0
        go_wp2_with (go_at_call 42; refine (checkRange_any _ _ _ _ _).mono ?_; rintro e w2 ⟨rfl, hb⟩)
        go_ret
        have e : shE J.sh = rngE J.sh[k].1 J.sh[k].2 (-60) 60 := by rw [Hf.out, Hd.out, shE, if_neg Hz.out]
        exact ⟨ret_i (by rw [Hj.out, e, if_neg Hz.out]), (hB.alloc (by omega) _).trans (hb.mono (by simp; omega))⟩
    · obtain rfl : k = n := by omega
      have c16 := hj.at_ 16 _ rfl
      have c17 := hj.at_ 17 _ rfl
      go_wp2_with fail
      go_region_held3 (fun w' => w'.cell? ⟨w.heap.size, 16, none⟩ = some (.int .i64 J.wi) ∧ w'.cell? ⟨w.heap.size, 17, none⟩ = some (.int .i64 J.me)) (go_keep)
        (first | (go_at_call 43; refine (checkNumber_any _ _ _ _).mono ?_; rintro e w' ⟨rfl, rfl⟩) | (go_at_call 41; refine (first_any _ _ _ [numE J.wi 0 60, numE J.me 0 6] _ rfl (by simp) ?_).mono ?_; (first | exact Is.of_bk _ (Bk.new _ _ _) (by simp) | exact Is.of_bk _ (Bk.new _ _ _).drew (by simp)); rintro e w' ⟨rfl, rfl⟩))
      go_wp2
      go_ret
      have e : shE J.sh = 0 := by rw [Hf.out, List.drop_of_length_le (by rw [← Hn.out]; omega)]; rfl
      exact ⟨ret_i (by rw [Hj.out, if_pos e]), (hB.alloc (by omega) _).drew⟩

theorem check_any (J : Jb) (a : Option Addr) (n c : Nat) (w : World) (hn : n = J.sh.length) (hm : n ≤ 9223372036854775807) (h : Rg w w.heap.size a J.sh) :
    Calls Try.prog 28 #[.agg (jobC J (.slice a n c))] w fun e w' => e = .returned (.int .i64 J.check) ∧ Below w.heap.size w w' := by
  by_cases hj : J.head = 0
  · by_cases h4 : 4 < n
    · have e : J.check = 6 := by unfold Jb.check; rw [if_pos hj, if_pos (by omega)]
      rw [e]
      exact check_many J a n c w hj h4 hm
    · exact check_few J a n c w hj hn (by omega) h
  · have e : J.check = J.head := by unfold Jb.check; rw [if_neg hj]
    rw [e]
    exact check_bad J a n c w hj
end Go.Proofs.Ytbbekjcldbbhiaa
