/- Part 11 of the proof: Check, CheckB, Stroke, Window, JobP. -/
import Derived.Deep.RegionHeld3
import Derived.Deep.DeepCutAuto
import Derived.Laws.ResultCell
import Derived.Test.YtbndjijlinpkmaaT10
/- Contracts of the checks of package reed. -/
namespace Go.Proofs.Ytbndjijlinpkmaa
set_option linter.all false
open Go.RowKit

theorem rng_first (a b lo hi : Int) : firstE [numE a lo hi, numE b lo hi] = (if a < lo ∨ hi < a then 1 else if b < lo ∨ hi < b then 1 else 0) := by
  unfold firstE firstE firstE numE
  by_cases h1 : a < lo ∨ hi < a <;> by_cases h2 : b < lo ∨ hi < b <;> simp [h1, h2]

theorem two_new (w : World) (C D : Array Value) (t u : TypeId) : Bk ((w.alloc (.cells C t)).alloc (.cells D u)) (w.heap.size + 1) u D := by
  have := Bk.new (w.alloc (.cells C t)) u D
  rwa [World.size_alloc] at this

set_option maxHeartbeats 400000 in
theorem checkRange_any (a b lo hi : Int) (w : World) :
    Calls Try.prog 51 #[.agg #[.int .i64 a, .int .i64 b], .int .i64 lo, .int .i64 hi] w fun e w' => e = .returned (.int .i64 (rngE a b lo hi)) ∧ Below w.heap.size w w' := by
  by_cases h0 : firstE [numE a lo hi, numE b lo hi] = 0
  · have hb : (firstE [numE a lo hi, numE b lo hi] == 0) = true := by simp [h0]
    have He : Hid (rngE a b lo hi = if b < a then 5 else 0) := by
      show rngE a b lo hi = if b < a then 5 else 0
      rw [rng_first] at h0
      unfold rngE
      by_cases h1 : a < lo ∨ hi < a <;> by_cases h2 : b < lo ∨ hi < b <;> simp [h1, h2] at h0 ⊢
    have H0 : Hid (firstE [numE a lo hi, numE b lo hi] = 0) := h0
    clear h0
    by_cases hba : b < a
    · go_enter Try.func51, Try.ntmps51
      go_wp2_with fail
      go_region_held3 (fun w' => w'.cell? ⟨w.heap.size, 0, none⟩ = some (.int .i64 a) ∧ w'.cell? ⟨w.heap.size, 1, none⟩ = some (.int .i64 b)) (go_keep)
        (first | (go_at_call 52; refine (checkNumber_any _ _ _ _).mono ?_; rintro e w' ⟨rfl, rfl⟩) | (go_at_call 50; refine (first_any _ _ _ [numE a lo hi, numE b lo hi] _ rfl (by simp) ?_).mono ?_; (exact Is.of_bk (g := w.heap.size + 1) (t := 39) _ (two_new w _ _ _ _) (by simp)); rintro e w' ⟨rfl, rfl⟩))
      go_wp2_with (go_at_call 43; refine (empty_any _ _ _).mono ?_; rintro e w' ⟨rfl, rfl⟩)
      go_ret
      refine ⟨ret_i (by rw [He.out, if_pos hba]), ?_⟩
      exact ((((Below.refl _ _).alloc (Nat.le_refl _) _).alloc (by simp) _).alloc (by simp; omega) _).drew
    · go_enter Try.func51, Try.ntmps51
      go_wp2_with fail
      go_region_held3 (fun w' => w'.cell? ⟨w.heap.size, 0, none⟩ = some (.int .i64 a) ∧ w'.cell? ⟨w.heap.size, 1, none⟩ = some (.int .i64 b)) (go_keep)
        (first | (go_at_call 52; refine (checkNumber_any _ _ _ _).mono ?_; rintro e w' ⟨rfl, rfl⟩) | (go_at_call 50; refine (first_any _ _ _ [numE a lo hi, numE b lo hi] _ rfl (by simp) ?_).mono ?_; (exact Is.of_bk (g := w.heap.size + 1) (t := 39) _ (two_new w _ _ _ _) (by simp)); rintro e w' ⟨rfl, rfl⟩))
      go_wp2_with (go_at_call 43; refine (empty_any _ _ _).mono ?_; rintro e w' ⟨rfl, rfl⟩)
      go_ret
      refine ⟨ret_i (by rw [He.out, H0.out, if_neg (by omega)]), ?_⟩
      exact ((((Below.refl _ _).alloc (Nat.le_refl _) _).alloc (by simp) _).alloc (by simp; omega) _).drew
  · have hb : (firstE [numE a lo hi, numE b lo hi] == 0) = false := by simp [h0]
    have He : Hid (rngE a b lo hi = firstE [numE a lo hi, numE b lo hi]) := by
      show rngE a b lo hi = firstE [numE a lo hi, numE b lo hi]
      rw [rng_first] at h0 ⊢
      unfold rngE
      by_cases h1 : a < lo ∨ hi < a <;> by_cases h2 : b < lo ∨ hi < b <;> simp [h1, h2] at h0 ⊢
    clear h0
    go_enter Try.func51, Try.ntmps51
    go_wp2_with fail
    go_region_held3 (fun w' => w'.cell? ⟨w.heap.size, 0, none⟩ = some (.int .i64 a) ∧ w'.cell? ⟨w.heap.size, 1, none⟩ = some (.int .i64 b)) (go_keep)
      (first | (go_at_call 52; refine (checkNumber_any _ _ _ _).mono ?_; rintro e w' ⟨rfl, rfl⟩) | (go_at_call 50; refine (first_any _ _ _ [numE a lo hi, numE b lo hi] _ rfl (by simp) ?_).mono ?_; (exact Is.of_bk (g := w.heap.size + 1) (t := 39) _ (two_new w _ _ _ _) (by simp)); rintro e w' ⟨rfl, rfl⟩))
    go_wp2_with (go_at_call 43; refine (empty_any _ _ _).mono ?_; rintro e w' ⟨rfl, rfl⟩)
    go_ret
    refine ⟨ret_i (by rw [He.out]), ?_⟩
    exact (((Below.refl _ _).alloc (Nat.le_refl _) _).alloc (by simp) _).drew

theorem head_first (J : Jb) : firstE [rngE J.p1 J.p2 (-60) 60, rngE J.t1 J.t2 0 100, rngE J.r1 J.r2 0 100, rngE J.u1 J.u2 0 12, rngE J.d1 J.d2 0 12, rngE J.x1 J.x2 0 12, rngE J.y1 J.y2 0 12, numE J.le 0 100] = J.head := rfl

set_option maxHeartbeats 1000000 in
set_option maxRecDepth 100000 in
theorem check_bad (J : Jb) (a : Option Addr) (n c : Nat) (w : World) (hj : J.head ≠ 0) :
    Calls Try.prog 16 #[.agg (jobC J (.slice a n c))] w fun e w' => e = .returned (.int .i64 J.head) ∧ Below w.heap.size w w' := by
  have hbad : (firstE [rngE J.p1 J.p2 (-60) 60, rngE J.t1 J.t2 0 100, rngE J.r1 J.r2 0 100, rngE J.u1 J.u2 0 12, rngE J.d1 J.d2 0 12, rngE J.x1 J.x2 0 12, rngE J.y1 J.y2 0 12, numE J.le 0 100] != 0) = true := by rw [head_first]; simpa using hj
  clear hj
  go_enter Try.func16, Try.ntmps16
  go_wp2_with fail
  have hk0 := Bk.new w 30 (jobC J (.slice a n c))
  have hB : Below (w.heap.size + 1) (w.alloc (.cells (jobC J (.slice a n c)) 30)) (w.alloc (.cells (jobC J (.slice a n c)) 30)) := Below.refl _ _
  go_region_held3 (fun w' => w'.cell? ⟨w.heap.size, 0, none⟩ = some (.int .i64 J.p1) ∧ w'.cell? ⟨w.heap.size, 1, none⟩ = some (.int .i64 J.p2) ∧ w'.cell? ⟨w.heap.size, 2, none⟩ = some (.int .i64 J.t1) ∧ w'.cell? ⟨w.heap.size, 3, none⟩ = some (.int .i64 J.t2) ∧ w'.cell? ⟨w.heap.size, 4, none⟩ = some (.int .i64 J.r1) ∧ w'.cell? ⟨w.heap.size, 5, none⟩ = some (.int .i64 J.r2) ∧ w'.cell? ⟨w.heap.size, 6, none⟩ = some (.int .i64 J.u1) ∧ w'.cell? ⟨w.heap.size, 7, none⟩ = some (.int .i64 J.u2) ∧ w'.cell? ⟨w.heap.size, 8, none⟩ = some (.int .i64 J.d1) ∧ w'.cell? ⟨w.heap.size, 9, none⟩ = some (.int .i64 J.d2) ∧ w'.cell? ⟨w.heap.size, 10, none⟩ = some (.int .i64 J.x1) ∧ w'.cell? ⟨w.heap.size, 11, none⟩ = some (.int .i64 J.x2) ∧ w'.cell? ⟨w.heap.size, 12, none⟩ = some (.int .i64 J.y1) ∧ w'.cell? ⟨w.heap.size, 13, none⟩ = some (.int .i64 J.y2) ∧ w'.cell? ⟨w.heap.size, 14, none⟩ = some (.int .i64 J.le)) (go_keep)
    (first | (go_at_call 51; refine (checkRange_any _ _ _ _ _).mono ?_; rintro e w' ⟨rfl, hb⟩; obtain ⟨hc, hf⟩ := bcell hb; (have hB' := (by first | exact chainB hB (by simp) hb | exact chainB hB.drew (by simp) hb : Below (w.heap.size + 1) (w.alloc (.cells (jobC J (.slice a n c)) 30)) w')); clear hB; have hB := hB'; clear hB'; (have hz : w.heap.size < w'.heap.size := by have := hB.size; (try simp at this); omega)) | (go_at_call 52; refine (checkNumber_any _ _ _ _).mono ?_; rintro e w' ⟨rfl, rfl⟩) | (go_at_call 50; refine (first_any _ _ _ [rngE J.p1 J.p2 (-60) 60, rngE J.t1 J.t2 0 100, rngE J.r1 J.r2 0 100, rngE J.u1 J.u2 0 12, rngE J.d1 J.d2 0 12, rngE J.x1 J.x2 0 12, rngE J.y1 J.y2 0 12, numE J.le 0 100] _ rfl (by simp) ?_).mono ?_; (first | exact Is.of_bk _ (Bk.new _ _ _) (by simp) | exact Is.of_bk _ (Bk.new _ _ _).drew (by simp)); rintro e w' ⟨rfl, rfl⟩))
  go_wp2
  go_ret
  exact ⟨ret_i (head_first J), (((Below.refl _ _).alloc (Nat.le_refl _) _).trans (hB.mono (by omega))).alloc (by omega) _⟩

set_option maxHeartbeats 1000000 in
set_option maxRecDepth 100000 in
theorem check_many (J : Jb) (a : Option Addr) (n c : Nat) (w : World) (hj : J.head = 0) (hn : 4 < n) (hm : n ≤ 9223372036854775807) :
    Calls Try.prog 16 #[.agg (jobC J (.slice a n c))] w fun e w' => e = .returned (.int .i64 6) ∧ Below w.heap.size w w' := by
  have hbad : (firstE [rngE J.p1 J.p2 (-60) 60, rngE J.t1 J.t2 0 100, rngE J.r1 J.r2 0 100, rngE J.u1 J.u2 0 12, rngE J.d1 J.d2 0 12, rngE J.x1 J.x2 0 12, rngE J.y1 J.y2 0 12, numE J.le 0 100] != 0) = false := by rw [head_first]; simpa using hj
  clear hj
  go_enter Try.func16, Try.ntmps16
  go_wp2_with fail
  have hk0 := Bk.new w 30 (jobC J (.slice a n c))
  have hB : Below (w.heap.size + 1) (w.alloc (.cells (jobC J (.slice a n c)) 30)) (w.alloc (.cells (jobC J (.slice a n c)) 30)) := Below.refl _ _
  go_region_held3 (fun w' => w'.cell? ⟨w.heap.size, 0, none⟩ = some (.int .i64 J.p1) ∧ w'.cell? ⟨w.heap.size, 1, none⟩ = some (.int .i64 J.p2) ∧ w'.cell? ⟨w.heap.size, 2, none⟩ = some (.int .i64 J.t1) ∧ w'.cell? ⟨w.heap.size, 3, none⟩ = some (.int .i64 J.t2) ∧ w'.cell? ⟨w.heap.size, 4, none⟩ = some (.int .i64 J.r1) ∧ w'.cell? ⟨w.heap.size, 5, none⟩ = some (.int .i64 J.r2) ∧ w'.cell? ⟨w.heap.size, 6, none⟩ = some (.int .i64 J.u1) ∧ w'.cell? ⟨w.heap.size, 7, none⟩ = some (.int .i64 J.u2) ∧ w'.cell? ⟨w.heap.size, 8, none⟩ = some (.int .i64 J.d1) ∧ w'.cell? ⟨w.heap.size, 9, none⟩ = some (.int .i64 J.d2) ∧ w'.cell? ⟨w.heap.size, 10, none⟩ = some (.int .i64 J.x1) ∧ w'.cell? ⟨w.heap.size, 11, none⟩ = some (.int .i64 J.x2) ∧ w'.cell? ⟨w.heap.size, 12, none⟩ = some (.int .i64 J.y1) ∧ w'.cell? ⟨w.heap.size, 13, none⟩ = some (.int .i64 J.y2) ∧ w'.cell? ⟨w.heap.size, 14, none⟩ = some (.int .i64 J.le)) (go_keep)
    (first | (go_at_call 51; refine (checkRange_any _ _ _ _ _).mono ?_; rintro e w' ⟨rfl, hb⟩; obtain ⟨hc, hf⟩ := bcell hb; (have hB' := (by first | exact chainB hB (by simp) hb | exact chainB hB.drew (by simp) hb : Below (w.heap.size + 1) (w.alloc (.cells (jobC J (.slice a n c)) 30)) w')); clear hB; have hB := hB'; clear hB'; (have hz : w.heap.size < w'.heap.size := by have := hB.size; (try simp at this); omega)) | (go_at_call 52; refine (checkNumber_any _ _ _ _).mono ?_; rintro e w' ⟨rfl, rfl⟩) | (go_at_call 50; refine (first_any _ _ _ [rngE J.p1 J.p2 (-60) 60, rngE J.t1 J.t2 0 100, rngE J.r1 J.r2 0 100, rngE J.u1 J.u2 0 12, rngE J.d1 J.d2 0 12, rngE J.x1 J.x2 0 12, rngE J.y1 J.y2 0 12, numE J.le 0 100] _ rfl (by simp) ?_).mono ?_; (first | exact Is.of_bk _ (Bk.new _ _ _) (by simp) | exact Is.of_bk _ (Bk.new _ _ _).drew (by simp)); rintro e w' ⟨rfl, rfl⟩))
  have hk := hk0.below hB (by omega)
  have c15 := hk.at_ 15 _ rfl
  clear hk0 hk
  go_wp2
  go_ret
  exact ⟨rfl, (((Below.refl _ _).alloc (Nat.le_refl _) _).trans (hB.mono (by omega))).alloc (by omega) _⟩

end Go.Proofs.Ytbndjijlinpkmaa
/- The contract of reed.Check. -/
namespace Go.Proofs.Ytbndjijlinpkmaa
set_option linter.all false
open Go.RowKit

set_option maxHeartbeats 2000000 in
set_option maxRecDepth 100000 in
theorem check_few (J : Jb) (a : Option Addr) (n c : Nat) (w : World) (hj : J.head = 0) (hn : n = J.sh.length) (hm : n ≤ 4) (h : Rg w w.heap.size a J.sh) :
    Calls Try.prog 16 #[.agg (jobC J (.slice a n c))] w fun e w' => e = .returned (.int .i64 J.check) ∧ Below w.heap.size w w' := by
  have hbad : (firstE [rngE J.p1 J.p2 (-60) 60, rngE J.t1 J.t2 0 100, rngE J.r1 J.r2 0 100, rngE J.u1 J.u2 0 12, rngE J.d1 J.d2 0 12, rngE J.x1 J.x2 0 12, rngE J.y1 J.y2 0 12, numE J.le 0 100] != 0) = false := by rw [head_first]; simpa using hj
  have Hj : Hid (J.check = if shE J.sh = 0 then firstE [numE J.wi 0 60, numE J.me 0 6] else shE J.sh) := by
    show J.check = if shE J.sh = 0 then firstE [numE J.wi 0 60, numE J.me 0 6] else shE J.sh
    unfold Jb.check
    rw [if_pos hj, if_neg (by omega)]
  clear hj
  have Hn : Hid (n = J.sh.length) := hn
  clear hn
  have Hh : Hid (Rg w w.heap.size a J.sh) := h
  clear h
  go_enter Try.func16, Try.ntmps16
  go_wp2_with fail
  have hk0 := Bk.new w 30 (jobC J (.slice a n c))
  have hB : Below (w.heap.size + 1) (w.alloc (.cells (jobC J (.slice a n c)) 30)) (w.alloc (.cells (jobC J (.slice a n c)) 30)) := Below.refl _ _
  go_region_held3 (fun w' => w'.cell? ⟨w.heap.size, 0, none⟩ = some (.int .i64 J.p1) ∧ w'.cell? ⟨w.heap.size, 1, none⟩ = some (.int .i64 J.p2) ∧ w'.cell? ⟨w.heap.size, 2, none⟩ = some (.int .i64 J.t1) ∧ w'.cell? ⟨w.heap.size, 3, none⟩ = some (.int .i64 J.t2) ∧ w'.cell? ⟨w.heap.size, 4, none⟩ = some (.int .i64 J.r1) ∧ w'.cell? ⟨w.heap.size, 5, none⟩ = some (.int .i64 J.r2) ∧ w'.cell? ⟨w.heap.size, 6, none⟩ = some (.int .i64 J.u1) ∧ w'.cell? ⟨w.heap.size, 7, none⟩ = some (.int .i64 J.u2) ∧ w'.cell? ⟨w.heap.size, 8, none⟩ = some (.int .i64 J.d1) ∧ w'.cell? ⟨w.heap.size, 9, none⟩ = some (.int .i64 J.d2) ∧ w'.cell? ⟨w.heap.size, 10, none⟩ = some (.int .i64 J.x1) ∧ w'.cell? ⟨w.heap.size, 11, none⟩ = some (.int .i64 J.x2) ∧ w'.cell? ⟨w.heap.size, 12, none⟩ = some (.int .i64 J.y1) ∧ w'.cell? ⟨w.heap.size, 13, none⟩ = some (.int .i64 J.y2) ∧ w'.cell? ⟨w.heap.size, 14, none⟩ = some (.int .i64 J.le)) (go_keep)
    (first | (go_at_call 51; refine (checkRange_any _ _ _ _ _).mono ?_; rintro e w' ⟨rfl, hb⟩; obtain ⟨hc, hf⟩ := bcell hb; (have hB' := (by first | exact chainB hB (by simp) hb | exact chainB hB.drew (by simp) hb : Below (w.heap.size + 1) (w.alloc (.cells (jobC J (.slice a n c)) 30)) w')); clear hB; have hB := hB'; clear hB'; (have hz : w.heap.size < w'.heap.size := by have := hB.size; (try simp at this); omega)) | (go_at_call 52; refine (checkNumber_any _ _ _ _).mono ?_; rintro e w' ⟨rfl, rfl⟩) | (go_at_call 50; refine (first_any _ _ _ [rngE J.p1 J.p2 (-60) 60, rngE J.t1 J.t2 0 100, rngE J.r1 J.r2 0 100, rngE J.u1 J.u2 0 12, rngE J.d1 J.d2 0 12, rngE J.x1 J.x2 0 12, rngE J.y1 J.y2 0 12, numE J.le 0 100] _ rfl (by simp) ?_).mono ?_; (first | exact Is.of_bk _ (Bk.new _ _ _) (by simp) | exact Is.of_bk _ (Bk.new _ _ _).drew (by simp)); rintro e w' ⟨rfl, rfl⟩))
  have hk := hk0.below hB (by omega)
  have c15 := hk.at_ 15 _ rfl
  have hB1 : Below w.heap.size w w' := ((Below.refl _ _).alloc (Nat.le_refl _) _).trans (hB.mono (by omega))
  clear hk0 hB
  go_wp2
  go_loopw [51] (fun i wr => ∃ k : Nat, k ≤ n ∧ i = .int .i64 k ∧ shE J.sh = shE (J.sh.drop k) ∧ Bk wr w.heap.size 30 (jobC J (.slice a n c)) ∧ Below w.heap.size w wr) (fun i _ => n - (intOf i).toNat)
  case atStart => exact ⟨0, Nat.zero_le _, rfl, rfl, hk.alloc _, hB1.alloc (by omega) _⟩
  case round =>
    clear hB1 hk c15 hbad
    obtain ⟨k, hk, rfl, hf, hj, hB⟩ := hrel
    have Hf : Hid (shE J.sh = shE (J.sh.drop k)) := hf
    clear hf
    have hz := hB.size
    have hl := hj.lt
    by_cases hlt : k < n
    · have hkl : k < J.sh.length := by rw [← Hn.out]; exact hlt
      obtain ⟨b, off, rfl, hbl, e0, e1⟩ := Hh.out k J.sh[k] (List.getElem?_eq_getElem hkl)
      replace e0 := (hB.cell (p := ⟨b, off + k * 2, none⟩) hbl).trans e0
      replace e1 := (hB.cell (p := ⟨b, off + k * 2 + 1, none⟩) hbl).trans e1
      have hbl' : b < wr.heap.size := by omega
      have Hd : Hid (J.sh.drop k = J.sh[k] :: J.sh.drop (k + 1)) := List.drop_eq_getElem_cons hkl
      by_cases hz0 : rngE J.sh[k].1 J.sh[k].2 (-60) 60 = 0
      · have hz1 : (rngE J.sh[k].1 J.sh[k].2 (-60) 60 != 0) = false := by simp [hz0]
        have Hz : Hid (rngE J.sh[k].1 J.sh[k].2 (-60) 60 = 0) := hz0
        clear hz0
        go_wp2_with (go_at_call 51; refine (checkRange_any _ _ _ _ _).mono ?_; rintro e w2 ⟨rfl, hb⟩)
        go_roundw
        case rel => exact ⟨k + 1, by omega, by go_num, by rw [Hf.out, Hd.out, shE, if_pos Hz.out], (hj.alloc _).below hb (by simp; omega), (hB.alloc (by omega) _).trans (hb.mono (by simp; omega))⟩
        case measure => simp [intOf]; omega
      · have hz1 : (rngE J.sh[k].1 J.sh[k].2 (-60) 60 != 0) = true := by simp [hz0]
        have Hz : Hid (¬ rngE J.sh[k].1 J.sh[k].2 (-60) 60 = 0) := hz0
        clear hz0
        go_wp2_with (go_at_call 51; refine (checkRange_any _ _ _ _ _).mono ?_; rintro e w2 ⟨rfl, hb⟩)
        go_ret
        have e : shE J.sh = rngE J.sh[k].1 J.sh[k].2 (-60) 60 := by rw [Hf.out, Hd.out, shE, if_neg Hz.out]
        exact ⟨ret_i (by rw [Hj.out, e, if_neg Hz.out]), (hB.alloc (by omega) _).trans (hb.mono (by simp; omega))⟩
    · obtain rfl : k = n := by omega
      have c16 := hj.at_ 16 _ rfl
      have c17 := hj.at_ 17 _ rfl
      go_wp2_with fail
      go_region_held3 (fun w' => w'.cell? ⟨w.heap.size, 16, none⟩ = some (.int .i64 J.wi) ∧ w'.cell? ⟨w.heap.size, 17, none⟩ = some (.int .i64 J.me)) (go_keep)
        (first | (go_at_call 52; refine (checkNumber_any _ _ _ _).mono ?_; rintro e w' ⟨rfl, rfl⟩) | (go_at_call 50; refine (first_any _ _ _ [numE J.wi 0 60, numE J.me 0 6] _ rfl (by simp) ?_).mono ?_; (first | exact Is.of_bk _ (Bk.new _ _ _) (by simp) | exact Is.of_bk _ (Bk.new _ _ _).drew (by simp)); rintro e w' ⟨rfl, rfl⟩))
      go_wp2
      go_ret
      have e : shE J.sh = 0 := by rw [Hf.out, List.drop_of_length_le (by rw [← Hn.out]; omega)]; rfl
      exact ⟨ret_i (by rw [Hj.out, if_pos e]), (hB.alloc (by omega) _).drew⟩

theorem check_any (J : Jb) (a : Option Addr) (n c : Nat) (w : World) (hn : n = J.sh.length) (hm : n ≤ 9223372036854775807) (h : Rg w w.heap.size a J.sh) :
    Calls Try.prog 16 #[.agg (jobC J (.slice a n c))] w fun e w' => e = .returned (.int .i64 J.check) ∧ Below w.heap.size w w' := by
  by_cases hj : J.head = 0
  · by_cases h4 : 4 < n
    · have e : J.check = 6 := by unfold Jb.check; rw [if_pos hj, if_pos (by omega)]
      rw [e]
      exact check_many J a n c w hj h4 hm
    · exact check_few J a n c w hj hn (by omega) h
  · have e : J.check = J.head := by unfold Jb.check; rw [if_neg hj]
    rw [e]
    exact check_bad J a n c w hj
end Go.Proofs.Ytbndjijlinpkmaa
/- Contracts of what strokes do (package reed). -/
namespace Go.Proofs.Ytbndjijlinpkmaa
set_option linter.all false
open Go.RowKit

/-- Numbers of a tongue lie within n. -/
def Tg.In (t : Tg) (n : Int) : Prop := -n ≤ t.p1 ∧ t.p1 ≤ n ∧ -n ≤ t.p2 ∧ t.p2 ≤ n ∧ -n ≤ t.t1 ∧ t.t1 ≤ n ∧ -n ≤ t.t2 ∧ t.t2 ≤ n ∧ -n ≤ t.r1 ∧ t.r1 ≤ n ∧ -n ≤ t.r2 ∧ t.r2 ≤ n

theorem ret_6 {a b c d e f a' b' c' d' e' f' : Int} (h1 : a = a') (h2 : b = b') (h3 : c = c') (h4 : d = d') (h5 : e = e') (h6 : f = f') :
    Ending.returned (.agg #[.int .i64 a, .int .i64 b, .int .i64 c, .int .i64 d, .int .i64 e, .int .i64 f]) = .returned (.agg #[.int .i64 a', .int .i64 b', .int .i64 c', .int .i64 d', .int .i64 e', .int .i64 f']) := by
  rw [h1, h2, h3, h4, h5, h6]

theorem three_new (w : World) (A B C : Array Value) (t u v : TypeId) : Bk (((w.alloc (.cells A t)).alloc (.cells B u)).alloc (.cells C v)) w.heap.size t A ∧ Bk (((w.alloc (.cells A t)).alloc (.cells B u)).alloc (.cells C v)) (w.heap.size + 1) u B ∧
    Bk (((w.alloc (.cells A t)).alloc (.cells B u)).alloc (.cells C v)) (w.heap.size + 2) v C := by
  have h1 := Bk.new (w.alloc (.cells A t)) u B
  have h2 := Bk.new ((w.alloc (.cells A t)).alloc (.cells B u)) v C
  simp only [World.size_alloc] at h1 h2
  exact ⟨((Bk.new w t A).alloc _).alloc _, h1.alloc _, h2⟩

def zeros : Nat → Array Value := fun n => Array.replicate n (.int .i64 0)

set_option maxHeartbeats 1000000 in
set_option maxRecDepth 100000 in
theorem stroked_tip (J : Jb) (s : Value) (w : World) (h : J.In 1000) :
    Calls Try.prog 77 #[.agg (jobC J s), .int .i64 1] w fun e w' => e = .returned (.agg (tonC (strk J J.tg 1))) ∧ Below w.heap.size w w' := by
  obtain ⟨⟨p1, p1'⟩, ⟨p2, p2'⟩, ⟨t1, t1'⟩, ⟨t2, t2'⟩, ⟨r1, r1'⟩, ⟨r2, r2'⟩, ⟨u1, u1'⟩, ⟨u2, u2'⟩, ⟨d1, d1'⟩, ⟨d2, d2'⟩, ⟨x1, x1'⟩, ⟨x2, x2'⟩, ⟨y1, y1'⟩, ⟨y2, y2'⟩, _, _, _, _, _⟩ := h
  obtain ⟨b0, b1, b2⟩ := three_new w (jobC J s) #[.int .i64 0, .int .i64 0, .int .i64 0, .int .i64 0, .int .i64 0, .int .i64 0] #[.int .i64 J.p1, .int .i64 J.p2, .int .i64 J.t1, .int .i64 J.t2, .int .i64 J.r1, .int .i64 J.r2] 85 25 25
  go_enter Try.func77, Try.ntmps77
  go_wp2_with fail
  refine (sum_any _ _ _ _ _ (by omega)).mono ?_
  rintro e w1 ⟨rfl, hb⟩
  have hz := hb.size
  simp only [World.size_alloc] at hz
  have k0 := b0.below hb (by simp; omega)
  have k1 := b1.below hb (by simp)
  have k2 := b2.below hb (by simp)
  have hB1 : Below w.heap.size w w1 := ((((Below.refl _ _).alloc (Nat.le_refl _) _).alloc (by simp) _).alloc (by simp; omega) _).trans (hb.mono (by simp; omega))
  clear b0 b1 b2 hb
  have l0 := k2.at_ 0 _ rfl
  have l1 := k2.at_ 1 _ rfl
  have l2 := k2.at_ 2 _ rfl
  have l3 := k2.at_ 3 _ rfl
  have m0 := k2.free 0
  have m1 := k2.free 1
  have j10 := k0.at_ 10 _ rfl
  have j11 := k0.at_ 11 _ rfl
  go_wp2_with fail
  refine (difference_any _ _ _ _ _ (by omega)).mono ?_
  rintro e w2 ⟨rfl, hb⟩
  have hz2 := hb.size
  simp only [World.size_setCell] at hz2
  have q1 := ((k1.other (p := ⟨w.heap.size + 2, 0, none⟩) (by simp) _).other (p := ⟨w.heap.size + 2, 1, none⟩) (by simp) _).below hb (by simp; omega)
  have q2 := ((k2.put 0 _).put 1 _).below hb (by simp; omega)
  have hB2 : Below w.heap.size w w2 := ((hB1.setCell (p := ⟨w.heap.size + 2, 0, none⟩) (by simp) _).setCell (p := ⟨w.heap.size + 2, 1, none⟩) (by simp) _).trans (hb.mono (by simp; omega))
  clear k0 k1 k2 l0 l1 l2 l3 m0 m1 j10 j11 hb hB1
  have l0 := q2.at_ 0 _ rfl
  have l1 := q2.at_ 1 _ rfl
  have l2 := q2.at_ 2 _ rfl
  have l3 := q2.at_ 3 _ rfl
  have l4 := q2.at_ 4 _ rfl
  have l5 := q2.at_ 5 _ rfl
  have m2 := q2.free 2
  have m3 := q2.free 3
  have n0 := q1.at_ 0 _ rfl
  have n1 := q1.at_ 1 _ rfl
  have n2 := q1.at_ 2 _ rfl
  have n3 := q1.at_ 3 _ rfl
  have n4 := q1.at_ 4 _ rfl
  have n5 := q1.at_ 5 _ rfl
  have f0 := q1.free 0
  have f1 := q1.free 1
  have f2 := q1.free 2
  have f3 := q1.free 3
  have f4 := q1.free 4
  have f5 := q1.free 5
  go_wp2
  refine bodyPost_ret (v := .agg #[.int .i64 (J.p1 + J.u1), .int .i64 (J.p2 + J.u2), .int .i64 (J.t1 - J.x2), .int .i64 (J.t2 - J.x1), .int .i64 J.r1, .int .i64 J.r2]) (by simp [results, Try.results77, go_sem, n0, n1, n2, n3, n4, n5]) rfl ⟨by simp [strk, Jb.tg], ?_⟩
  iterate 8 (refine Below.setCell ?_ (by first | (simp; done) | (simp; omega)) _)
  exact hB2

set_option maxHeartbeats 1000000 in
set_option maxRecDepth 100000 in
theorem stroked_root (J : Jb) (s : Value) (w : World) (h : J.In 1000) :
    Calls Try.prog 77 #[.agg (jobC J s), .int .i64 2] w fun e w' => e = .returned (.agg (tonC (strk J J.tg 2))) ∧ Below w.heap.size w w' := by
  obtain ⟨⟨p1, p1'⟩, ⟨p2, p2'⟩, ⟨t1, t1'⟩, ⟨t2, t2'⟩, ⟨r1, r1'⟩, ⟨r2, r2'⟩, ⟨u1, u1'⟩, ⟨u2, u2'⟩, ⟨d1, d1'⟩, ⟨d2, d2'⟩, ⟨x1, x1'⟩, ⟨x2, x2'⟩, ⟨y1, y1'⟩, ⟨y2, y2'⟩, _, _, _, _, _⟩ := h
  obtain ⟨b0, b1, b2⟩ := three_new w (jobC J s) #[.int .i64 0, .int .i64 0, .int .i64 0, .int .i64 0, .int .i64 0, .int .i64 0] #[.int .i64 J.p1, .int .i64 J.p2, .int .i64 J.t1, .int .i64 J.t2, .int .i64 J.r1, .int .i64 J.r2] 85 25 25
  go_enter Try.func77, Try.ntmps77
  go_wp2_with fail
  refine (difference_any _ _ _ _ _ (by omega)).mono ?_
  rintro e w1 ⟨rfl, hb⟩
  have hz := hb.size
  simp only [World.size_alloc] at hz
  have k0 := b0.below hb (by simp; omega)
  have k1 := b1.below hb (by simp)
  have k2 := b2.below hb (by simp)
  have hB1 : Below w.heap.size w w1 := ((((Below.refl _ _).alloc (Nat.le_refl _) _).alloc (by simp) _).alloc (by simp; omega) _).trans (hb.mono (by simp; omega))
  clear b0 b1 b2 hb
  have l0 := k2.at_ 0 _ rfl
  have l1 := k2.at_ 1 _ rfl
  have l2 := k2.at_ 4 _ rfl
  have l3 := k2.at_ 5 _ rfl
  have m0 := k2.free 0
  have m1 := k2.free 1
  have j10 := k0.at_ 12 _ rfl
  have j11 := k0.at_ 13 _ rfl
  go_wp2_with fail
  refine (difference_any _ _ _ _ _ (by omega)).mono ?_
  rintro e w2 ⟨rfl, hb⟩
  have hz2 := hb.size
  simp only [World.size_setCell] at hz2
  have q1 := ((k1.other (p := ⟨w.heap.size + 2, 0, none⟩) (by simp) _).other (p := ⟨w.heap.size + 2, 1, none⟩) (by simp) _).below hb (by simp; omega)
  have q2 := ((k2.put 0 _).put 1 _).below hb (by simp; omega)
  have hB2 : Below w.heap.size w w2 := ((hB1.setCell (p := ⟨w.heap.size + 2, 0, none⟩) (by simp) _).setCell (p := ⟨w.heap.size + 2, 1, none⟩) (by simp) _).trans (hb.mono (by simp; omega))
  clear k0 k1 k2 l0 l1 l2 l3 m0 m1 j10 j11 hb hB1
  have l0 := q2.at_ 0 _ rfl
  have l1 := q2.at_ 1 _ rfl
  have l2 := q2.at_ 2 _ rfl
  have l3 := q2.at_ 3 _ rfl
  have l4 := q2.at_ 4 _ rfl
  have l5 := q2.at_ 5 _ rfl
  have m2 := q2.free 4
  have m3 := q2.free 5
  have n0 := q1.at_ 0 _ rfl
  have n1 := q1.at_ 1 _ rfl
  have n2 := q1.at_ 2 _ rfl
  have n3 := q1.at_ 3 _ rfl
  have n4 := q1.at_ 4 _ rfl
  have n5 := q1.at_ 5 _ rfl
  have f0 := q1.free 0
  have f1 := q1.free 1
  have f2 := q1.free 2
  have f3 := q1.free 3
  have f4 := q1.free 4
  have f5 := q1.free 5
  go_wp2
  refine bodyPost_ret (v := .agg #[.int .i64 (J.p1 - J.d2), .int .i64 (J.p2 - J.d1), .int .i64 J.t1, .int .i64 J.t2, .int .i64 (J.r1 - J.y2), .int .i64 (J.r2 - J.y1)]) (by simp [results, Try.results77, go_sem, n0, n1, n2, n3, n4, n5]) rfl ⟨by simp [strk, Jb.tg], ?_⟩
  iterate 8 (refine Below.setCell ?_ (by first | (simp; done) | (simp; omega)) _)
  exact hB2

/-- The job with the tongue t. -/
theorem setTg_tg (J : Jb) : J.setTg J.tg = J := rfl

theorem strk_in (J : Jb) (t : Tg) (s n : Int) (h : t.In n) (hJ : J.In 1000) : (strk J t s).In (n + 12) := by
  obtain ⟨h1, h2, h3, h4, h5, h6, h7, h8, h9, h10, h11, h12⟩ := h
  have := hJ.u1; have := hJ.u2; have := hJ.d1; have := hJ.d2; have := hJ.x1; have := hJ.x2; have := hJ.y1; have := hJ.y2
  unfold strk
  by_cases e1 : s = 1
  · rw [if_pos e1]; simp only [Tg.In]; omega
  · rw [if_neg e1]
    by_cases e2 : s = 2
    · rw [if_pos e2]; simp only [Tg.In]; omega
    · rw [if_neg e2]; simp only [Tg.In]; omega
theorem Jb.In.tg {J : Jb} {n : Int} (h : J.In n) : J.tg.In n := by
  have := h.p1; have := h.p2; have := h.t1; have := h.t2; have := h.r1; have := h.r2
  simp only [Tg.In, Jb.tg]; omega
theorem Jb.In.setTg {J : Jb} {n m : Int} {t : Tg} (h : J.In n) (ht : t.In m) : (J.setTg t).In m := by
  obtain ⟨h1, h2, h3, h4, h5, h6, h7, h8, h9, h10, h11, h12⟩ := ht
  exact ⟨⟨h1, h2⟩, ⟨h3, h4⟩, ⟨h5, h6⟩, ⟨h7, h8⟩, ⟨h9, h10⟩, ⟨h11, h12⟩, h.u1, h.u2, h.d1, h.d2, h.x1, h.x2, h.y1, h.y2, h.le, h.wi, h.me, h.sh, h.len⟩
theorem Tg.In.mono {t : Tg} {n m : Int} (h : t.In n) (hm : n ≤ m) : t.In m := by
  simp only [Tg.In] at h ⊢; omega
theorem Jb.In.mono {J : Jb} {n m : Int} (h : J.In n) (hm : n ≤ m) : J.In m := h.setTg (h.tg.mono hm)

/-- Each stroke. -/
theorem stroked_any (J : Jb) (s : Value) (k : Int) (hk : k = 1 ∨ k = 2) (w : World) (h : J.In 1000) :
    Calls Try.prog 77 #[.agg (jobC J s), .int .i64 k] w fun e w' => e = .returned (.agg (tonC (strk J J.tg k))) ∧ Below w.heap.size w w' := by
  rcases hk with rfl | rfl
  · exact stroked_tip J s w h
  · exact stroked_root J s w h

/-- What 'after' hands back. -/
def AfterEnd (J : Jb) (l : List Int) (s : Value) (w : World) (e : Ending) (w' : World) : Prop :=
  e = .returned (.agg (jobC (J.setTg (afterS J J.tg l)) s)) ∧ Below w.heap.size w w'
end Go.Proofs.Ytbndjijlinpkmaa
/- The contract of reed.Window. -/
namespace Go.Proofs.Ytbndjijlinpkmaa
set_option linter.all false
open Go.RowKit

/-- What Window answers: a range, and an error. -/
def windowI (J : Jb) : R2 × Int :=
  if J.check ≠ 0 then ((0, 0), J.check) else if (win J.wi J.sh).2 < (win J.wi J.sh).1 then ((0, 0), 11) else (win J.wi J.sh, 0)

/-- All that Check looks at lies within its bounds. -/
theorem rngE_ok {a b lo hi : Int} (h : rngE a b lo hi = 0) : lo ≤ a ∧ a ≤ hi ∧ lo ≤ b ∧ b ≤ hi ∧ a ≤ b := by
  unfold rngE at h
  by_cases h1 : a < lo ∨ hi < a
  · rw [if_pos h1] at h; omega
  · rw [if_neg h1] at h
    by_cases h2 : b < lo ∨ hi < b
    · rw [if_pos h2] at h; omega
    · rw [if_neg h2] at h
      by_cases h3 : b < a
      · rw [if_pos h3] at h; omega
      · omega
theorem numE_ok {a lo hi : Int} (h : numE a lo hi = 0) : lo ≤ a ∧ a ≤ hi := by
  unfold numE at h
  by_cases h1 : a < lo ∨ hi < a
  · rw [if_pos h1] at h; omega
  · omega
theorem firstE_ok : ∀ (l : List Int), firstE l = 0 → ∀ x ∈ l, x = 0
  | [], _, x, h => by simp at h
  | e :: l, h, x, hx => by
    unfold firstE at h
    by_cases h0 : e = 0
    · rw [if_pos h0] at h
      rcases List.mem_cons.1 hx with rfl | hx
      · exact h0
      · exact firstE_ok l h x hx
    · rw [if_neg h0] at h; exact absurd h h0
theorem shE_ok : ∀ (l : List R2), shE l = 0 → ∀ s ∈ l, rngE s.1 s.2 (-60) 60 = 0
  | [], _, s, h => by simp at h
  | e :: l, h, s, hs => by
    unfold shE at h
    by_cases h0 : rngE e.1 e.2 (-60) 60 = 0
    · rw [if_pos h0] at h
      rcases List.mem_cons.1 hs with rfl | hs
      · exact h0
      · exact shE_ok l h s hs
    · rw [if_neg h0] at h; exact absurd h h0

/-- A valid job's numbers, and that its ranges are none upside down. -/
structure Jb.Ok (J : Jb) : Prop where
  inn : J.In 100
  p : J.p1 ≤ J.p2
  t : J.t1 ≤ J.t2
  r : J.r1 ≤ J.r2
  u : J.u1 ≤ J.u2
  d : J.d1 ≤ J.d2
  x : J.x1 ≤ J.x2
  y : J.y1 ≤ J.y2
  s : ∀ s ∈ J.sh, s.1 ≤ s.2
theorem check_ok {J : Jb} (h : J.check = 0) : J.Ok := by
  unfold Jb.check at h
  by_cases h0 : J.head = 0
  · rw [if_pos h0] at h
    by_cases h1 : 4 < J.sh.length
    · rw [if_pos h1] at h; omega
    · rw [if_neg h1] at h
      by_cases h2 : shE J.sh = 0
      · rw [if_pos h2] at h
        have a := firstE_ok _ h0
        have b := firstE_ok _ h
        have s := shE_ok _ h2
        have a1 := rngE_ok (a _ (by simp : rngE J.p1 J.p2 (-60) 60 ∈ _))
        have a2 := rngE_ok (a _ (by simp : rngE J.t1 J.t2 0 100 ∈ _))
        have a3 := rngE_ok (a _ (by simp : rngE J.r1 J.r2 0 100 ∈ _))
        have a4 := rngE_ok (a _ (by simp : rngE J.u1 J.u2 0 12 ∈ _))
        have a5 := rngE_ok (a _ (by simp : rngE J.d1 J.d2 0 12 ∈ _))
        have a6 := rngE_ok (a _ (by simp : rngE J.x1 J.x2 0 12 ∈ _))
        have a7 := rngE_ok (a _ (by simp : rngE J.y1 J.y2 0 12 ∈ _))
        have a8 := numE_ok (a _ (by simp : numE J.le 0 100 ∈ _))
        have b1 := numE_ok (b _ (by simp : numE J.wi 0 60 ∈ _))
        have b2 := numE_ok (b _ (by simp : numE J.me 0 6 ∈ _))
        refine ⟨⟨by omega, by omega, by omega, by omega, by omega, by omega, by omega, by omega, by omega, by omega, by omega, by omega, by omega, by omega, by omega, by omega, by omega, fun q hq => ?_, by omega⟩, by omega, by omega, by omega, by omega, by omega, by omega, by omega, fun q hq => (rngE_ok (s q hq)).2.2.2.2⟩
        have := rngE_ok (s q hq)
        omega
      · rw [if_neg h2] at h; exact absurd h h2
  · rw [if_neg h0] at h; exact absurd h h0

/-- What Window hands back. -/
def WindowEnd (J : Jb) (w : World) (e : Ending) (w' : World) : Prop :=
  e = .returned (.tuple #[.agg #[.int .i64 (windowI J).1.1, .int .i64 (windowI J).1.2], .int .i64 (windowI J).2]) ∧ Below w.heap.size w w'

theorem results_row_tmp {P : Program} {fn : Func} {p u : Tmp} {ty : TypeId} {fs : Array Field} (h : fn.results = #[.cell p ty, .tmp u]) (tmps : Array Value) (w : World) (g : Nat) (t : TypeId) (cs : Array Value) (v : Value)
    (hp : tmps.getD p undef = .pointer (some ⟨g, 0, none⟩)) (hv : tmps.getD u undef = v) (hg : Bk w g t cs)
    (hu : P.underlying ty = some (.struct fs)) (hi : (P.info? ty).map (·.size) = some cs.size) :
    (results fn tmps).run P w = .ok (.tuple #[.agg cs, v]) w := by
  have hp' : tmps[p]?.getD undef = .pointer (some ⟨g, 0, none⟩) := by simpa using hp
  have hv' : tmps[u]?.getD undef = v := by simpa using hv
  simp [results, h, hp', hv', asAddr, run_loadVar_row w g t ty cs (0, 0) _ hg hu rfl hi]

set_option maxHeartbeats 1000000 in
set_option maxRecDepth 100000 in
theorem window_any (J : Jb) (a : Option Addr) (n c : Nat) (w : World) (hn : n = J.sh.length) (hm : n ≤ 9223372036854775807) (h : Rg w w.heap.size a J.sh) :
    Calls Try.prog 10 #[.agg (jobC J (.slice a n c))] w (WindowEnd J w) := by
  have Hn : Hid (n = J.sh.length) := hn
  have Hh : Hid (Rg w w.heap.size a J.sh) := h
  clear hn h
  have b0 : Bk ((w.alloc (.cells (jobC J (.slice a n c)) 30)).alloc (.cells #[.int .i64 0, .int .i64 0] 23)) w.heap.size 30 (jobC J (.slice a n c)) := (Bk.new w _ _).alloc _
  have b1 : Bk ((w.alloc (.cells (jobC J (.slice a n c)) 30)).alloc (.cells #[.int .i64 0, .int .i64 0] 23)) (w.heap.size + 1) 23 #[.int .i64 0, .int .i64 0] := Bk.newAt _ _ _ _ (by simp)
  have hW : Below w.heap.size w ((w.alloc (.cells (jobC J (.slice a n c)) 30)).alloc (.cells #[.int .i64 0, .int .i64 0] 23)) := ((Below.refl _ _).alloc (Nat.le_refl _) _).alloc (by simp) _
  by_cases hc : J.check = 0
  · have hok := check_ok hc
    have HJ := hidMk (hok.inn.mono (by decide : (100 : Int) ≤ 1000))
    have hcb : (J.check != 0) = false := by simp [hc]
    have Hc := hidMk hc
    clear hc hok
    obtain ⟨v, hv⟩ : ∃ v : Bool, decide ((win J.wi J.sh).2 < (win J.wi J.sh).1) = v := ⟨_, rfl⟩
    have He : Hid (windowI J = if v = true then ((0, 0), 11) else (win J.wi J.sh, 0)) := by
      show windowI J = _
      unfold windowI
      rw [if_neg (by simpa using Hc.out), ← hv]
      simp only [decide_eq_true_eq]
    cases v
    · go_enter Try.func10, Try.ntmps10
      go_wp2_with (refine wpList_load_row rfl 30 _ rfl w.heap.size rfl _ (jobC J (.slice a n c)) _ _ b0 Try.underlying30 rfl szJob ?_)
      refine (check_any J a n c _ Hn.out hm (Hh.out.up hW)).mono ?_
      rintro e w1 ⟨rfl, hb1⟩
      have hz1 := hb1.size
      simp only [World.size_alloc] at hz1
      have k0 := b0.below hb1 (by simp; omega)
      have k1 := b1.below hb1 (by simp)
      have hB1 : Below w.heap.size w w1 := hW.trans (hb1.mono (by simp; omega))
      clear hb1 b0 b1 hW
      go_wp2_with (refine wpList_load_row rfl 30 _ rfl w.heap.size rfl _ (jobC J (.slice a n c)) _ _ k0 Try.underlying30 rfl szJob ?_)
      refine (windows_any J a n c _ HJ.out Hn.out (Hh.out.up hB1)).mono ?_
      rintro e w2 ⟨rfl, hb2⟩
      have hz2 := hb2.size
      have q1 := k1.below hb2 (by omega)
      have hB2 : Below w.heap.size w w2 := hB1.trans (hb2.mono (by omega))
      clear hb2 k0 k1 hB1
      have c0 := q1.at_ 0 _ rfl
      have c1 := q1.at_ 1 _ rfl
      have f0 := q1.free 0
      have f1 := q1.free 1
      have g0 : w.heap.size + 1 < w2.heap.size := by omega
      have g1 : w.heap.size + 1 < w2.heap.size + 1 := by omega
      have g2 : w.heap.size + 1 < w2.heap.size + 1 + 1 := by omega
      go_wp2_with (go_at_call 43; refine (empty_any _ _ _).mono ?_; rintro e w3 ⟨rfl, rfl⟩)
      refine bodyPost_ret (results_row_tmp Try.results10 _ _ _ _ _ _ rfl rfl (((((q1.put2 _ _).alloc _).alloc _).alloc _)) Try.underlying23 szRange) rfl ⟨by rw [He.out]; rfl, ?_⟩
      exact ((((hB2.setCell (by simp) _).setCell (by simp) _).alloc (by simp; omega) _).alloc (by simp; omega) _).alloc (by simp; omega) _
    · go_enter Try.func10, Try.ntmps10
      go_wp2_with (refine wpList_load_row rfl 30 _ rfl w.heap.size rfl _ (jobC J (.slice a n c)) _ _ b0 Try.underlying30 rfl szJob ?_)
      refine (check_any J a n c _ Hn.out hm (Hh.out.up hW)).mono ?_
      rintro e w1 ⟨rfl, hb1⟩
      have hz1 := hb1.size
      simp only [World.size_alloc] at hz1
      have k0 := b0.below hb1 (by simp; omega)
      have k1 := b1.below hb1 (by simp)
      have hB1 : Below w.heap.size w w1 := hW.trans (hb1.mono (by simp; omega))
      clear hb1 b0 b1 hW
      go_wp2_with (refine wpList_load_row rfl 30 _ rfl w.heap.size rfl _ (jobC J (.slice a n c)) _ _ k0 Try.underlying30 rfl szJob ?_)
      refine (windows_any J a n c _ HJ.out Hn.out (Hh.out.up hB1)).mono ?_
      rintro e w2 ⟨rfl, hb2⟩
      have hz2 := hb2.size
      have q1 := k1.below hb2 (by omega)
      have hB2 : Below w.heap.size w w2 := hB1.trans (hb2.mono (by omega))
      clear hb2 k0 k1 hB1
      have c0 := q1.at_ 0 _ rfl
      have c1 := q1.at_ 1 _ rfl
      have f0 := q1.free 0
      have f1 := q1.free 1
      have g0 : w.heap.size + 1 < w2.heap.size := by omega
      have g1 : w.heap.size + 1 < w2.heap.size + 1 := by omega
      have g2 : w.heap.size + 1 < w2.heap.size + 1 + 1 := by omega
      go_wp2_with (go_at_call 43; refine (empty_any _ _ _).mono ?_; rintro e w3 ⟨rfl, rfl⟩)
      refine bodyPost_ret (results_row_tmp Try.results10 _ _ _ _ _ _ rfl rfl (((((q1.put2 _ _).alloc _).alloc _).alloc _)) Try.underlying23 szRange) rfl ⟨by rw [He.out]; rfl, ?_⟩
      exact ((((hB2.setCell (by simp) _).setCell (by simp) _).alloc (by simp; omega) _).alloc (by simp; omega) _).alloc (by simp; omega) _
  · have hcb : (J.check != 0) = true := by simpa using hc
    have He : Hid (windowI J = ((0, 0), J.check)) := by
      show windowI J = _
      unfold windowI
      rw [if_pos hc]
    clear hc
    go_enter Try.func10, Try.ntmps10
    go_wp2_with (refine wpList_load_row rfl 30 _ rfl w.heap.size rfl _ (jobC J (.slice a n c)) _ _ b0 Try.underlying30 rfl szJob ?_)
    refine (check_any J a n c _ Hn.out hm (Hh.out.up hW)).mono ?_
    rintro e w1 ⟨rfl, hb1⟩
    have hz1 := hb1.size
    simp only [World.size_alloc] at hz1
    have k1 := b1.below hb1 (by simp)
    have hB1 : Below w.heap.size w w1 := hW.trans (hb1.mono (by simp; omega))
    clear hb1 b0 b1 hW
    have c0 := k1.at_ 0 _ rfl
    have c1 := k1.at_ 1 _ rfl
    have f0 := k1.free 0
    have f1 := k1.free 1
    go_wp2
    refine bodyPost_ret (results_row_tmp Try.results10 _ _ _ _ _ _ rfl rfl (k1.put2 _ _) Try.underlying23 szRange) rfl ⟨by rw [He.out]; rfl, ?_⟩
    exact (hB1.setCell (by simp) _).setCell (by simp) _
end Go.Proofs.Ytbndjijlinpkmaa
/- What a pot makes a job of: plain facts. -/
namespace Go.Sim
set_option linter.all false
open Go Go.RowKit Go.Proofs Go.Proofs.Ytbndjijlinpkmaa
set_option maxRecDepth 1000000
noncomputable section
def seedAt (s : Int) : Nat → Int
  | 0 => s
  | i + 1 => stepS (seedAt s i)
def res0 (s : Int) : Int := uptoF (seedAt s 0) 5
def res1 (s : Int) : Int := uptoF (seedAt s 1) 3
def res2 (s : Int) : Int := pick3 0 1 (uptoF (seedAt s 1) 3) (uptoF (seedAt s 2) 2)
def res3 (s : Int) : Int := uptoF (seedAt s 3) 32
def res4 (s : Int) : Int := uptoF (seedAt s 4) 9
def res5 (s : Int) : Int := pick3 0 0 (uptoF (seedAt s 4) 9) (uptoF (seedAt s 5) 2)
def res6 (s : Int) : Int := uptoF (seedAt s 6) 9
def res7 (s : Int) : Int := pick3 0 0 (uptoF (seedAt s 6) 9) (uptoF (seedAt s 7) 2)
def res8 (s : Int) : Int := uptoF (seedAt s 8) 20
def res9 (s : Int) : Int := uptoF (seedAt s 9) 2
def res10 (s : Int) : Int := pick3 0 0 (uptoF (seedAt s 9) 2) (uptoF (seedAt s 10) 2)
def res11 (s : Int) : Int := uptoF (seedAt s 11) 2
def res12 (s : Int) : Int := pick3 0 0 (uptoF (seedAt s 11) 2) (uptoF (seedAt s 12) 2)
def res13 (s : Int) : Int := uptoF (seedAt s 13) 20
def res14 (s : Int) : Int := uptoF (seedAt s 14) 2
def res15 (s : Int) : Int := pick3 0 0 (uptoF (seedAt s 14) 2) (uptoF (seedAt s 15) 2)
def res16 (s : Int) : Int := uptoF (seedAt s 16) 2
def res17 (s : Int) : Int := pick3 0 0 (uptoF (seedAt s 16) 2) (uptoF (seedAt s 17) 2)
def res18 (s : Int) : Int := uptoF (seedAt s 18) 5
def res19 (s : Int) : Int := uptoF (seedAt s 19) 4
def res20 (s : Int) : Int := pick3 0 0 (uptoF (seedAt s 19) 4) (uptoF (seedAt s 20) 2)
def res21 (s : Int) : Int := uptoF (seedAt s 21) 4
def res22 (s : Int) : Int := pick3 0 0 (uptoF (seedAt s 21) 4) (uptoF (seedAt s 22) 2)
def res23 (s : Int) : Int := uptoF (seedAt s 23) 5
def res24 (s : Int) : Int := uptoF (seedAt s 24) 4
def res25 (s : Int) : Int := pick3 0 0 (uptoF (seedAt s 24) 4) (uptoF (seedAt s 25) 2)
def res26 (s : Int) : Int := uptoF (seedAt s 26) 4
def res27 (s : Int) : Int := pick3 0 0 (uptoF (seedAt s 26) 4) (uptoF (seedAt s 27) 2)
def res28 (s : Int) : Int := uptoF (seedAt s 28) 4
def res29 (s : Int) : Int := uptoF (seedAt s 29) 1
def res30 (s : Int) : Int := pick3 0 0 (uptoF (seedAt s 29) 1) (uptoF (seedAt s 30) 2)
def res31 (s : Int) : Int := uptoF (seedAt s 31) 1
def res32 (s : Int) : Int := pick3 0 0 (uptoF (seedAt s 31) 1) (uptoF (seedAt s 32) 2)
def res33 (s : Int) : Int := uptoF (seedAt s 33) 4
def res34 (s : Int) : Int := uptoF (seedAt s 34) 1
def res35 (s : Int) : Int := pick3 0 0 (uptoF (seedAt s 34) 1) (uptoF (seedAt s 35) 2)
def res36 (s : Int) : Int := uptoF (seedAt s 36) 1
def res37 (s : Int) : Int := pick3 0 0 (uptoF (seedAt s 36) 1) (uptoF (seedAt s 37) 2)
def res38 (s : Int) : Int := uptoF (seedAt s 38) 20
def res39 (s : Int) : Int := uptoF (seedAt s 39) 3
def res40 (s : Int) : Int := uptoF (seedAt s 40) 6
def res41 (s : Int) : Int := uptoF (seedAt s 41) 2
def res42 (s : Int) : Int := pick3 0 0 (uptoF (seedAt s 41) 2) (uptoF (seedAt s 42) 2)
def res43 (s : Int) : Int := uptoF (seedAt s 43) 2
def res44 (s : Int) : Int := pick3 0 0 (uptoF (seedAt s 43) 2) (uptoF (seedAt s 44) 2)
def res45 (s : Int) : Int := uptoF (seedAt s 45) 6
def res46 (s : Int) : Int := uptoF (seedAt s 46) 2
def res47 (s : Int) : Int := pick3 0 0 (uptoF (seedAt s 46) 2) (uptoF (seedAt s 47) 2)
def res48 (s : Int) : Int := uptoF (seedAt s 48) 2
def res49 (s : Int) : Int := pick3 0 0 (uptoF (seedAt s 48) 2) (uptoF (seedAt s 49) 2)
def res50 (s : Int) : Int := uptoF (seedAt s 50) 6
def res51 (s : Int) : Int := uptoF (seedAt s 51) 2
def res52 (s : Int) : Int := pick3 0 0 (uptoF (seedAt s 51) 2) (uptoF (seedAt s 52) 2)
def res53 (s : Int) : Int := uptoF (seedAt s 53) 2
def res54 (s : Int) : Int := pick3 0 0 (uptoF (seedAt s 53) 2) (uptoF (seedAt s 54) 2)
def resL (s : Int) : List Int := [res0 s, res1 s, res2 s, res3 s, res4 s, res5 s, res6 s, res7 s, res8 s, res9 s, res10 s, res11 s, res12 s, res13 s, res14 s, res15 s, res16 s, res17 s, res18 s, res19 s, res20 s, res21 s, res22 s, res23 s, res24 s, res25 s, res26 s, res27 s, res28 s, res29 s, res30 s, res31 s, res32 s, res33 s, res34 s, res35 s, res36 s, res37 s, res38 s, res39 s, res40 s, res41 s, res42 s, res43 s, res44 s, res45 s, res46 s, res47 s, res48 s, res49 s, res50 s, res51 s, res52 s, res53 s, res54 s]
def nthZ : List Int → Nat → Option Int
  | [], _ => none
  | x :: _, 0 => some x
  | _ :: l, i + 1 => nthZ l i
def resAt (s : Int) (i : Nat) : Int := match nthZ (resL s) i with
  | some x => x
  | none => 0
@[instance_reducible] def jobRho (s : Int) : Rho := ⟨fun k => match Nat.blt k 100 with
  | true => seedAt s k
  | false => resAt s (k - 100), fun _ => .nilFunc, 0, fun _ => none⟩
theorem upB (x m : Int) (h : 0 ≤ m ∧ m ≤ 1000) : 0 ≤ uptoF x m ∧ uptoF x m ≤ m := by
  have := uptoF_in x m h.2
  omega
theorem pkB (a b c u m : Int) (ha : 0 ≤ a ∧ a ≤ m) (hb : 0 ≤ b ∧ b ≤ m) (hc : 0 ≤ c ∧ c ≤ m) : 0 ≤ pick3 a b c u ∧ pick3 a b c u ≤ m := by
  unfold pick3
  by_cases h0 : u = 0
  · rw [if_pos h0]; exact ha
  · rw [if_neg h0]
    by_cases h1 : u = 1
    · rw [if_pos h1]; exact hb
    · rw [if_neg h1]; exact hc
theorem rb0 (s : Int) : 0 ≤ res0 s ∧ res0 s ≤ 5 := upB _ _ (by decide)
theorem rb1 (s : Int) : 0 ≤ res1 s ∧ res1 s ≤ 3 := upB _ _ (by decide)
theorem rb2 (s : Int) : 0 ≤ res2 s ∧ res2 s ≤ 3 := pkB _ _ _ _ _ (by decide) (by decide) (upB _ _ (by decide))
theorem rb3 (s : Int) : 0 ≤ res3 s ∧ res3 s ≤ 32 := upB _ _ (by decide)
theorem rb4 (s : Int) : 0 ≤ res4 s ∧ res4 s ≤ 9 := upB _ _ (by decide)
theorem rb5 (s : Int) : 0 ≤ res5 s ∧ res5 s ≤ 9 := pkB _ _ _ _ _ (by decide) (by decide) (upB _ _ (by decide))
theorem rb6 (s : Int) : 0 ≤ res6 s ∧ res6 s ≤ 9 := upB _ _ (by decide)
theorem rb7 (s : Int) : 0 ≤ res7 s ∧ res7 s ≤ 9 := pkB _ _ _ _ _ (by decide) (by decide) (upB _ _ (by decide))
theorem rb8 (s : Int) : 0 ≤ res8 s ∧ res8 s ≤ 20 := upB _ _ (by decide)
theorem rb9 (s : Int) : 0 ≤ res9 s ∧ res9 s ≤ 2 := upB _ _ (by decide)
theorem rb10 (s : Int) : 0 ≤ res10 s ∧ res10 s ≤ 2 := pkB _ _ _ _ _ (by decide) (by decide) (upB _ _ (by decide))
theorem rb11 (s : Int) : 0 ≤ res11 s ∧ res11 s ≤ 2 := upB _ _ (by decide)
theorem rb12 (s : Int) : 0 ≤ res12 s ∧ res12 s ≤ 2 := pkB _ _ _ _ _ (by decide) (by decide) (upB _ _ (by decide))
theorem rb13 (s : Int) : 0 ≤ res13 s ∧ res13 s ≤ 20 := upB _ _ (by decide)
theorem rb14 (s : Int) : 0 ≤ res14 s ∧ res14 s ≤ 2 := upB _ _ (by decide)
theorem rb15 (s : Int) : 0 ≤ res15 s ∧ res15 s ≤ 2 := pkB _ _ _ _ _ (by decide) (by decide) (upB _ _ (by decide))
theorem rb16 (s : Int) : 0 ≤ res16 s ∧ res16 s ≤ 2 := upB _ _ (by decide)
theorem rb17 (s : Int) : 0 ≤ res17 s ∧ res17 s ≤ 2 := pkB _ _ _ _ _ (by decide) (by decide) (upB _ _ (by decide))
theorem rb18 (s : Int) : 0 ≤ res18 s ∧ res18 s ≤ 5 := upB _ _ (by decide)
theorem rb19 (s : Int) : 0 ≤ res19 s ∧ res19 s ≤ 4 := upB _ _ (by decide)
theorem rb20 (s : Int) : 0 ≤ res20 s ∧ res20 s ≤ 4 := pkB _ _ _ _ _ (by decide) (by decide) (upB _ _ (by decide))
theorem rb21 (s : Int) : 0 ≤ res21 s ∧ res21 s ≤ 4 := upB _ _ (by decide)
theorem rb22 (s : Int) : 0 ≤ res22 s ∧ res22 s ≤ 4 := pkB _ _ _ _ _ (by decide) (by decide) (upB _ _ (by decide))
theorem rb23 (s : Int) : 0 ≤ res23 s ∧ res23 s ≤ 5 := upB _ _ (by decide)
theorem rb24 (s : Int) : 0 ≤ res24 s ∧ res24 s ≤ 4 := upB _ _ (by decide)
theorem rb25 (s : Int) : 0 ≤ res25 s ∧ res25 s ≤ 4 := pkB _ _ _ _ _ (by decide) (by decide) (upB _ _ (by decide))
theorem rb26 (s : Int) : 0 ≤ res26 s ∧ res26 s ≤ 4 := upB _ _ (by decide)
theorem rb27 (s : Int) : 0 ≤ res27 s ∧ res27 s ≤ 4 := pkB _ _ _ _ _ (by decide) (by decide) (upB _ _ (by decide))
theorem rb28 (s : Int) : 0 ≤ res28 s ∧ res28 s ≤ 4 := upB _ _ (by decide)
theorem rb29 (s : Int) : 0 ≤ res29 s ∧ res29 s ≤ 1 := upB _ _ (by decide)
theorem rb30 (s : Int) : 0 ≤ res30 s ∧ res30 s ≤ 1 := pkB _ _ _ _ _ (by decide) (by decide) (upB _ _ (by decide))
theorem rb31 (s : Int) : 0 ≤ res31 s ∧ res31 s ≤ 1 := upB _ _ (by decide)
theorem rb32 (s : Int) : 0 ≤ res32 s ∧ res32 s ≤ 1 := pkB _ _ _ _ _ (by decide) (by decide) (upB _ _ (by decide))
theorem rb33 (s : Int) : 0 ≤ res33 s ∧ res33 s ≤ 4 := upB _ _ (by decide)
theorem rb34 (s : Int) : 0 ≤ res34 s ∧ res34 s ≤ 1 := upB _ _ (by decide)
theorem rb35 (s : Int) : 0 ≤ res35 s ∧ res35 s ≤ 1 := pkB _ _ _ _ _ (by decide) (by decide) (upB _ _ (by decide))
theorem rb36 (s : Int) : 0 ≤ res36 s ∧ res36 s ≤ 1 := upB _ _ (by decide)
theorem rb37 (s : Int) : 0 ≤ res37 s ∧ res37 s ≤ 1 := pkB _ _ _ _ _ (by decide) (by decide) (upB _ _ (by decide))
theorem rb38 (s : Int) : 0 ≤ res38 s ∧ res38 s ≤ 20 := upB _ _ (by decide)
theorem rb39 (s : Int) : 0 ≤ res39 s ∧ res39 s ≤ 3 := upB _ _ (by decide)
theorem rb40 (s : Int) : 0 ≤ res40 s ∧ res40 s ≤ 6 := upB _ _ (by decide)
theorem rb41 (s : Int) : 0 ≤ res41 s ∧ res41 s ≤ 2 := upB _ _ (by decide)
theorem rb42 (s : Int) : 0 ≤ res42 s ∧ res42 s ≤ 2 := pkB _ _ _ _ _ (by decide) (by decide) (upB _ _ (by decide))
theorem rb43 (s : Int) : 0 ≤ res43 s ∧ res43 s ≤ 2 := upB _ _ (by decide)
theorem rb44 (s : Int) : 0 ≤ res44 s ∧ res44 s ≤ 2 := pkB _ _ _ _ _ (by decide) (by decide) (upB _ _ (by decide))
theorem rb45 (s : Int) : 0 ≤ res45 s ∧ res45 s ≤ 6 := upB _ _ (by decide)
theorem rb46 (s : Int) : 0 ≤ res46 s ∧ res46 s ≤ 2 := upB _ _ (by decide)
theorem rb47 (s : Int) : 0 ≤ res47 s ∧ res47 s ≤ 2 := pkB _ _ _ _ _ (by decide) (by decide) (upB _ _ (by decide))
theorem rb48 (s : Int) : 0 ≤ res48 s ∧ res48 s ≤ 2 := upB _ _ (by decide)
theorem rb49 (s : Int) : 0 ≤ res49 s ∧ res49 s ≤ 2 := pkB _ _ _ _ _ (by decide) (by decide) (upB _ _ (by decide))
theorem rb50 (s : Int) : 0 ≤ res50 s ∧ res50 s ≤ 6 := upB _ _ (by decide)
theorem rb51 (s : Int) : 0 ≤ res51 s ∧ res51 s ≤ 2 := upB _ _ (by decide)
theorem rb52 (s : Int) : 0 ≤ res52 s ∧ res52 s ≤ 2 := pkB _ _ _ _ _ (by decide) (by decide) (upB _ _ (by decide))
theorem rb53 (s : Int) : 0 ≤ res53 s ∧ res53 s ≤ 2 := upB _ _ (by decide)
theorem rb54 (s : Int) : 0 ≤ res54 s ∧ res54 s ≤ 2 := pkB _ _ _ _ _ (by decide) (by decide) (upB _ _ (by decide))
abbrev wr (x : Int) : Int := IntKind.i64.wrap x
theorem wr_in {x : Int} (h : -1000 ≤ x ∧ x ≤ 1000) : wr x = x := IntWalk.i64_in x (by omega)
def nlo (least n a : Int) : Int := if least < wr (n - a) then wr (n - a) else least
def nhi (most n b : Int) : Int := if wr (n + b) < most then wr (n + b) else most
theorem near_ok {least n most a b : Int} (h1 : -100 ≤ least ∧ least ≤ n ∧ n ≤ most ∧ most ≤ 100) (ha : 0 ≤ a ∧ a ≤ 100) (hb : 0 ≤ b ∧ b ≤ 100) : least ≤ nlo least n a ∧ nlo least n a ≤ n ∧ n ≤ nhi most n b ∧ nhi most n b ≤ most := by
  unfold nlo nhi
  rw [wr_in (by omega), wr_in (by omega)]
  refine ⟨?_, ?_, ?_, ?_⟩ <;> split <;> omega
theorem rngE_0 {a b lo hi : Int} (h : lo ≤ a ∧ a ≤ b ∧ b ≤ hi) : rngE a b lo hi = 0 := by
  unfold rngE
  rw [if_neg (by omega), if_neg (by omega), if_neg (by omega)]
theorem numE_0 {a lo hi : Int} (h : lo ≤ a ∧ a ≤ hi) : numE a lo hi = 0 := by
  unfold numE
  rw [if_neg (by omega)]
theorem check_0 {J : Jb} (p : -60 ≤ J.p1 ∧ J.p1 ≤ J.p2 ∧ J.p2 ≤ 60) (t : 0 ≤ J.t1 ∧ J.t1 ≤ J.t2 ∧ J.t2 ≤ 100) (r : 0 ≤ J.r1 ∧ J.r1 ≤ J.r2 ∧ J.r2 ≤ 100) (u : 0 ≤ J.u1 ∧ J.u1 ≤ J.u2 ∧ J.u2 ≤ 12) (d : 0 ≤ J.d1 ∧ J.d1 ≤ J.d2 ∧ J.d2 ≤ 12) (x : 0 ≤ J.x1 ∧ J.x1 ≤ J.x2 ∧ J.x2 ≤ 12) (y : 0 ≤ J.y1 ∧ J.y1 ≤ J.y2 ∧ J.y2 ≤ 12)
    (l : 0 ≤ J.le ∧ J.le ≤ 100) (n : J.sh.length ≤ 4) (sh : ∀ q ∈ J.sh, -60 ≤ q.1 ∧ q.1 ≤ q.2 ∧ q.2 ≤ 60) (wi : 0 ≤ J.wi ∧ J.wi ≤ 60) (me : 0 ≤ J.me ∧ J.me ≤ 6) : J.check = 0 := by
  have hh : J.head = 0 := by
    unfold Jb.head
    rw [rngE_0 p, rngE_0 t, rngE_0 r, rngE_0 u, rngE_0 d, rngE_0 x, rngE_0 y, numE_0 l]
    rfl
  have hs : ∀ q : List R2, (∀ z ∈ q, -60 ≤ z.1 ∧ z.1 ≤ z.2 ∧ z.2 ≤ 60) → shE q = 0 := by
    intro q
    induction q with
    | nil => intro _; rfl
    | cons z q ih =>
      intro h
      unfold shE
      rw [if_pos (rngE_0 (h z List.mem_cons_self))]
      exact ih fun z hz => h z (List.mem_cons_of_mem _ hz)
  unfold Jb.check
  rw [if_pos hh, if_neg (by omega), if_pos (hs _ sh), numE_0 wi, numE_0 me]
  rfl
def jobS (s : Int) : List R2 := [(nlo (-60) (wr (-3 + res40 s)) (res42 s), nhi 60 (wr (-3 + res40 s)) (res44 s)), (nlo (-60) (wr (-3 + res45 s)) (res47 s), nhi 60 (wr (-3 + res45 s)) (res49 s)), (nlo (-60) (wr (-3 + res50 s)) (res52 s), nhi 60 (wr (-3 + res50 s)) (res54 s))]
def jobJ (s : Int) (n : Nat) : Jb := ⟨nlo (-60) (wr (-16 + res3 s)) (res5 s), nhi 60 (wr (-16 + res3 s)) (res7 s), nlo (0) (wr (20 + res8 s)) (res10 s), nhi 100 (wr (20 + res8 s)) (res12 s), nlo (0) (wr (20 + res13 s)) (res15 s), nhi 100 (wr (20 + res13 s)) (res17 s), nlo (0) (wr (1 + res18 s)) (res20 s), nhi 12 (wr (1 + res18 s)) (res22 s), nlo (0) (wr (1 + res23 s)) (res25 s), nhi 12 (wr (1 + res23 s)) (res27 s), nlo (0) (res28 s) (res30 s), nhi 12 (res28 s) (res32 s), nlo (0) (res33 s) (res35 s), nhi 12 (res33 s) (res37 s), wr (10 + res38 s), wr (1 + res0 s), res2 s, (jobS s).take n⟩
theorem nrA {lo hi k m a c M A C : Int} (hk : (-100 ≤ lo ∧ hi ≤ 100) ∧ (lo ≤ k ∧ k + M ≤ hi) ∧ (0 ≤ M ∧ M ≤ 50) ∧ (A ≤ 100 ∧ C ≤ 100)) (hm : 0 ≤ m ∧ m ≤ M) (ha : 0 ≤ a ∧ a ≤ A) (hc : 0 ≤ c ∧ c ≤ C) : lo ≤ nlo lo (wr (k + m)) a ∧ nlo lo (wr (k + m)) a ≤ nhi hi (wr (k + m)) c ∧ nhi hi (wr (k + m)) c ≤ hi := by
  rw [wr_in (by omega)]
  have := near_ok (least := lo) (n := k + m) (most := hi) (a := a) (b := c) (by omega) (by omega) (by omega)
  omega
theorem nrB {lo hi m a c M A C : Int} (hk : (-100 ≤ lo ∧ hi ≤ 100) ∧ (lo ≤ 0 ∧ M ≤ hi) ∧ (A ≤ 100 ∧ C ≤ 100)) (hm : 0 ≤ m ∧ m ≤ M) (ha : 0 ≤ a ∧ a ≤ A) (hc : 0 ≤ c ∧ c ≤ C) : lo ≤ nlo lo m a ∧ nlo lo m a ≤ nhi hi m c ∧ nhi hi m c ≤ hi := by
  have := near_ok (least := lo) (n := m) (most := hi) (a := a) (b := c) (by omega) (by omega) (by omega)
  omega
theorem wrA {k m M lo hi : Int} (hk : (lo ≤ k ∧ k + M ≤ hi) ∧ (-100 ≤ lo ∧ hi ≤ 100)) (hm : 0 ≤ m ∧ m ≤ M) : lo ≤ wr (k + m) ∧ wr (k + m) ≤ hi := by
  rw [wr_in (by omega)]; omega
theorem job_sh (s : Int) : ∀ z ∈ jobS s, -60 ≤ z.1 ∧ z.1 ≤ z.2 ∧ z.2 ≤ 60 := by
  intro z hz
  simp only [jobS, List.mem_cons, List.not_mem_nil, or_false] at hz
  rcases hz with rfl | rfl | rfl
  · exact (nrA (by decide) (rb40 s) (rb42 s) (rb44 s))
  · exact (nrA (by decide) (rb45 s) (rb47 s) (rb49 s))
  · exact (nrA (by decide) (rb50 s) (rb52 s) (rb54 s))
theorem job_check (s : Int) (n : Nat) : (jobJ s n).check = 0 :=
  check_0 (nrA (by decide) (rb3 s) (rb5 s) (rb7 s)) (nrA (by decide) (rb8 s) (rb10 s) (rb12 s)) (nrA (by decide) (rb13 s) (rb15 s) (rb17 s)) (nrA (by decide) (rb18 s) (rb20 s) (rb22 s)) (nrA (by decide) (rb23 s) (rb25 s) (rb27 s)) (nrB (by decide) (rb28 s) (rb30 s) (rb32 s)) (nrB (by decide) (rb33 s) (rb35 s) (rb37 s)) (wrA (by decide) (rb38 s)) (by show ((jobS s).take n).length ≤ 4; have : (jobS s).length = 3 := rfl; rw [List.length_take]; omega) (fun z hz => job_sh s z (List.mem_of_mem_take hz)) (wrA (by decide) (rb0 s)) (by have := rb2 s; show 0 ≤ res2 s ∧ res2 s ≤ 6; omega)
end
end Go.Sim
