import Derived.Test.YtkimdnckbdeekaaBase
import Derived.Deep.RegionHeld3
import Derived.Deep.DeepCutAuto
/- Contracts of the checks of package reed. -/
namespace Go.Proofs.Ytkimdnckbdeekaa
open Go.RowKit

theorem rng_first (a b lo hi : Int) : firstE [numE a lo hi, numE b lo hi] = (if a < lo ∨ hi < a then 1 else if b < lo ∨ hi < b then 1 else 0) := by
  unfold firstE firstE firstE numE
  by_cases h1 : a < lo ∨ hi < a <;> by_cases h2 : b < lo ∨ hi < b <;> simp [h1, h2]

theorem two_new (w : World) (C D : Array Value) (t u : TypeId) : Bk ((w.alloc (.cells C t)).alloc (.cells D u)) (w.heap.size + 1) u D := by
  have := Bk.new (w.alloc (.cells C t)) u D
  rwa [World.size_alloc] at this

set_option maxHeartbeats 400000 in
theorem checkRange_any (a b lo hi : Int) (w : World) :
    Calls Try.prog 32 #[.agg #[.int .i64 a, .int .i64 b], .int .i64 lo, .int .i64 hi] w fun e w' => e = .returned (.int .i64 (rngE a b lo hi)) ∧ Below w.heap.size w w' := by
  by_cases h0 : firstE [numE a lo hi, numE b lo hi] = 0
  · have hb : (firstE [numE a lo hi, numE b lo hi] == 0) = true := by simp [h0]
    have He : Hid (rngE a b lo hi = if b < a then 5 else 0) := by
      show rngE a b lo hi = if b < a then 5 else 0
      rw [rng_first] at h0
      unfold rngE
      by_cases h1 : a < lo ∨ hi < a <;> by_cases h2 : b < lo ∨ hi < b <;> simp [h1, h2] at h0 ⊢
    have H0 : Hid (firstE [numE a lo hi, numE b lo hi] = 0) := h0
    clear h0
    by_cases hba : b < a
    · go_enter Try.func32, Try.ntmps32
      go_wp2_with fail
      go_region_held3 (fun w' => w'.cell? ⟨w.heap.size, 0, none⟩ = some (.int .i64 a) ∧ w'.cell? ⟨w.heap.size, 1, none⟩ = some (.int .i64 b)) (go_keep)
        (first | (go_at_call 33; refine (checkNumber_any _ _ _ _).mono ?_; rintro e w' ⟨rfl, rfl⟩) | (go_at_call 31; refine (first_any _ _ _ [numE a lo hi, numE b lo hi] _ rfl (by simp) ?_).mono ?_; (exact Is.of_bk (g := w.heap.size + 1) (t := 35) _ (two_new w _ _ _ _) (by simp)); rintro e w' ⟨rfl, rfl⟩))
      go_wp2_with (go_at_call 18; refine (empty_any _ _ _).mono ?_; rintro e w' ⟨rfl, rfl⟩)
      go_ret
      refine ⟨ret_i (by rw [He.out, if_pos hba]), ?_⟩
      exact ((((Below.refl _ _).alloc (Nat.le_refl _) _).alloc (by simp) _).alloc (by simp; omega) _).drew
    · go_enter Try.func32, Try.ntmps32
      go_wp2_with fail
      go_region_held3 (fun w' => w'.cell? ⟨w.heap.size, 0, none⟩ = some (.int .i64 a) ∧ w'.cell? ⟨w.heap.size, 1, none⟩ = some (.int .i64 b)) (go_keep)
        (first | (go_at_call 33; refine (checkNumber_any _ _ _ _).mono ?_; rintro e w' ⟨rfl, rfl⟩) | (go_at_call 31; refine (first_any _ _ _ [numE a lo hi, numE b lo hi] _ rfl (by simp) ?_).mono ?_; (exact Is.of_bk (g := w.heap.size + 1) (t := 35) _ (two_new w _ _ _ _) (by simp)); rintro e w' ⟨rfl, rfl⟩))
      go_wp2_with (go_at_call 18; refine (empty_any _ _ _).mono ?_; rintro e w' ⟨rfl, rfl⟩)
      go_ret
      refine ⟨ret_i (by rw [He.out, H0.out, if_neg (by omega)]), ?_⟩
      exact ((((Below.refl _ _).alloc (Nat.le_refl _) _).alloc (by simp) _).alloc (by simp; omega) _).drew
  · have hb : (firstE [numE a lo hi, numE b lo hi] == 0) = false := by simp [h0]
    have He : Hid (rngE a b lo hi = firstE [numE a lo hi, numE b lo hi]) := by
      show rngE a b lo hi = firstE [numE a lo hi, numE b lo hi]
      rw [rng_first] at h0 ⊢
      unfold rngE
      by_cases h1 : a < lo ∨ hi < a <;> by_cases h2 : b < lo ∨ hi < b <;> simp [h1, h2] at h0 ⊢
    clear h0
    go_enter Try.func32, Try.ntmps32
    go_wp2_with fail
    go_region_held3 (fun w' => w'.cell? ⟨w.heap.size, 0, none⟩ = some (.int .i64 a) ∧ w'.cell? ⟨w.heap.size, 1, none⟩ = some (.int .i64 b)) (go_keep)
      (first | (go_at_call 33; refine (checkNumber_any _ _ _ _).mono ?_; rintro e w' ⟨rfl, rfl⟩) | (go_at_call 31; refine (first_any _ _ _ [numE a lo hi, numE b lo hi] _ rfl (by simp) ?_).mono ?_; (exact Is.of_bk (g := w.heap.size + 1) (t := 35) _ (two_new w _ _ _ _) (by simp)); rintro e w' ⟨rfl, rfl⟩))
    go_wp2_with (go_at_call 18; refine (empty_any _ _ _).mono ?_; rintro e w' ⟨rfl, rfl⟩)
    go_ret
    refine ⟨ret_i (by rw [He.out]), ?_⟩
    exact (((Below.refl _ _).alloc (Nat.le_refl _) _).alloc (by simp) _).drew

theorem head_first (J : Jb) : firstE [rngE J.p1 J.p2 (-60) 60, rngE J.t1 J.t2 0 100, rngE J.r1 J.r2 0 100, rngE J.u1 J.u2 0 12, rngE J.d1 J.d2 0 12, rngE J.x1 J.x2 0 12, rngE J.y1 J.y2 0 12, numE J.le 0 100] = J.head := rfl

set_option maxHeartbeats 1000000 in
set_option maxRecDepth 100000 in
theorem check_bad (J : Jb) (a : Option Addr) (n c : Nat) (w : World) (hj : J.head ≠ 0) :
    Calls Try.prog 16 #[.agg (jobC J (.slice a n c))] w fun e w' => e = .returned (.int .i64 J.head) ∧ Below w.heap.size w w' := by
  have hbad : (firstE [rngE J.p1 J.p2 (-60) 60, rngE J.t1 J.t2 0 100, rngE J.r1 J.r2 0 100, rngE J.u1 J.u2 0 12, rngE J.d1 J.d2 0 12, rngE J.x1 J.x2 0 12, rngE J.y1 J.y2 0 12, numE J.le 0 100] != 0) = true := by rw [head_first]; simpa using hj
  clear hj
  go_enter Try.func16, Try.ntmps16
  go_wp2_with fail
  have hk0 := Bk.new w 31 (jobC J (.slice a n c))
  have hB : Below (w.heap.size + 1) (w.alloc (.cells (jobC J (.slice a n c)) 31)) (w.alloc (.cells (jobC J (.slice a n c)) 31)) := Below.refl _ _
  go_region_held3 (fun w' => w'.cell? ⟨w.heap.size, 0, none⟩ = some (.int .i64 J.p1) ∧ w'.cell? ⟨w.heap.size, 1, none⟩ = some (.int .i64 J.p2) ∧ w'.cell? ⟨w.heap.size, 2, none⟩ = some (.int .i64 J.t1) ∧ w'.cell? ⟨w.heap.size, 3, none⟩ = some (.int .i64 J.t2) ∧ w'.cell? ⟨w.heap.size, 4, none⟩ = some (.int .i64 J.r1) ∧ w'.cell? ⟨w.heap.size, 5, none⟩ = some (.int .i64 J.r2) ∧ w'.cell? ⟨w.heap.size, 6, none⟩ = some (.int .i64 J.u1) ∧ w'.cell? ⟨w.heap.size, 7, none⟩ = some (.int .i64 J.u2) ∧ w'.cell? ⟨w.heap.size, 8, none⟩ = some (.int .i64 J.d1) ∧ w'.cell? ⟨w.heap.size, 9, none⟩ = some (.int .i64 J.d2) ∧ w'.cell? ⟨w.heap.size, 10, none⟩ = some (.int .i64 J.x1) ∧ w'.cell? ⟨w.heap.size, 11, none⟩ = some (.int .i64 J.x2) ∧ w'.cell? ⟨w.heap.size, 12, none⟩ = some (.int .i64 J.y1) ∧ w'.cell? ⟨w.heap.size, 13, none⟩ = some (.int .i64 J.y2) ∧ w'.cell? ⟨w.heap.size, 14, none⟩ = some (.int .i64 J.le)) (go_keep)
    (first | (go_at_call 32; refine (checkRange_any _ _ _ _ _).mono ?_; rintro e w' ⟨rfl, hb⟩; obtain ⟨hc, hf⟩ := bcell hb; (have hB' := (by first | exact chainB hB (by simp) hb | exact chainB hB.drew (by simp) hb : Below (w.heap.size + 1) (w.alloc (.cells (jobC J (.slice a n c)) 31)) w')); clear hB; have hB := hB'; clear hB'; (have hz : w.heap.size < w'.heap.size := by have := hB.size; (try simp at this); omega)) | (go_at_call 33; refine (checkNumber_any _ _ _ _).mono ?_; rintro e w' ⟨rfl, rfl⟩) | (go_at_call 31; refine (first_any _ _ _ [rngE J.p1 J.p2 (-60) 60, rngE J.t1 J.t2 0 100, rngE J.r1 J.r2 0 100, rngE J.u1 J.u2 0 12, rngE J.d1 J.d2 0 12, rngE J.x1 J.x2 0 12, rngE J.y1 J.y2 0 12, numE J.le 0 100] _ rfl (by simp) ?_).mono ?_; (first | exact Is.of_bk _ (Bk.new _ _ _) (by simp) | exact Is.of_bk _ (Bk.new _ _ _).drew (by simp)); rintro e w' ⟨rfl, rfl⟩))
  go_wp2
  go_ret
  exact ⟨ret_i (head_first J), (((Below.refl _ _).alloc (Nat.le_refl _) _).trans (hB.mono (by omega))).alloc (by omega) _⟩

set_option maxHeartbeats 1000000 in
set_option maxRecDepth 100000 in
theorem check_many (J : Jb) (a : Option Addr) (n c : Nat) (w : World) (hj : J.head = 0) (hn : 4 < n) (hm : n ≤ 9223372036854775807) :
    Calls Try.prog 16 #[.agg (jobC J (.slice a n c))] w fun e w' => e = .returned (.int .i64 6) ∧ Below w.heap.size w w' := by
  have hbad : (firstE [rngE J.p1 J.p2 (-60) 60, rngE J.t1 J.t2 0 100, rngE J.r1 J.r2 0 100, rngE J.u1 J.u2 0 12, rngE J.d1 J.d2 0 12, rngE J.x1 J.x2 0 12, rngE J.y1 J.y2 0 12, numE J.le 0 100] != 0) = false := by rw [head_first]; simpa using hj
  clear hj
  go_enter Try.func16, Try.ntmps16
  go_wp2_with fail
  have hk0 := Bk.new w 31 (jobC J (.slice a n c))
  have hB : Below (w.heap.size + 1) (w.alloc (.cells (jobC J (.slice a n c)) 31)) (w.alloc (.cells (jobC J (.slice a n c)) 31)) := Below.refl _ _
  go_region_held3 (fun w' => w'.cell? ⟨w.heap.size, 0, none⟩ = some (.int .i64 J.p1) ∧ w'.cell? ⟨w.heap.size, 1, none⟩ = some (.int .i64 J.p2) ∧ w'.cell? ⟨w.heap.size, 2, none⟩ = some (.int .i64 J.t1) ∧ w'.cell? ⟨w.heap.size, 3, none⟩ = some (.int .i64 J.t2) ∧ w'.cell? ⟨w.heap.size, 4, none⟩ = some (.int .i64 J.r1) ∧ w'.cell? ⟨w.heap.size, 5, none⟩ = some (.int .i64 J.r2) ∧ w'.cell? ⟨w.heap.size, 6, none⟩ = some (.int .i64 J.u1) ∧ w'.cell? ⟨w.heap.size, 7, none⟩ = some (.int .i64 J.u2) ∧ w'.cell? ⟨w.heap.size, 8, none⟩ = some (.int .i64 J.d1) ∧ w'.cell? ⟨w.heap.size, 9, none⟩ = some (.int .i64 J.d2) ∧ w'.cell? ⟨w.heap.size, 10, none⟩ = some (.int .i64 J.x1) ∧ w'.cell? ⟨w.heap.size, 11, none⟩ = some (.int .i64 J.x2) ∧ w'.cell? ⟨w.heap.size, 12, none⟩ = some (.int .i64 J.y1) ∧ w'.cell? ⟨w.heap.size, 13, none⟩ = some (.int .i64 J.y2) ∧ w'.cell? ⟨w.heap.size, 14, none⟩ = some (.int .i64 J.le)) (go_keep)
    (first | (go_at_call 32; refine (checkRange_any _ _ _ _ _).mono ?_; rintro e w' ⟨rfl, hb⟩; obtain ⟨hc, hf⟩ := bcell hb; (have hB' := (by first | exact chainB hB (by simp) hb | exact chainB hB.drew (by simp) hb : Below (w.heap.size + 1) (w.alloc (.cells (jobC J (.slice a n c)) 31)) w')); clear hB; have hB := hB'; clear hB'; (have hz : w.heap.size < w'.heap.size := by have := hB.size; (try simp at this); omega)) | (go_at_call 33; refine (checkNumber_any _ _ _ _).mono ?_; rintro e w' ⟨rfl, rfl⟩) | (go_at_call 31; refine (first_any _ _ _ [rngE J.p1 J.p2 (-60) 60, rngE J.t1 J.t2 0 100, rngE J.r1 J.r2 0 100, rngE J.u1 J.u2 0 12, rngE J.d1 J.d2 0 12, rngE J.x1 J.x2 0 12, rngE J.y1 J.y2 0 12, numE J.le 0 100] _ rfl (by simp) ?_).mono ?_; (first | exact Is.of_bk _ (Bk.new _ _ _) (by simp) | exact Is.of_bk _ (Bk.new _ _ _).drew (by simp)); rintro e w' ⟨rfl, rfl⟩))
  have hk := hk0.below hB (by omega)
  have c15 := hk.at_ 15 _ rfl
  clear hk0 hk
  go_wp2
  go_ret
  exact ⟨rfl, (((Below.refl _ _).alloc (Nat.le_refl _) _).trans (hB.mono (by omega))).alloc (by omega) _⟩

end Go.Proofs.Ytkimdnckbdeekaa

/- The contract of reed.Check. -/
namespace Go.Proofs.Ytkimdnckbdeekaa
open Go.RowKit

set_option maxHeartbeats 2000000 in
set_option maxRecDepth 100000 in
theorem check_few (J : Jb) (a : Option Addr) (n c : Nat) (w : World) (hj : J.head = 0) (hn : n = J.sh.length) (hm : n ≤ 4) (h : Rg w w.heap.size a J.sh) :
    Calls Try.prog 16 #[.agg (jobC J (.slice a n c))] w fun e w' => e = .returned (.int .i64 J.check) ∧ Below w.heap.size w w' := by
  have hbad : (firstE [rngE J.p1 J.p2 (-60) 60, rngE J.t1 J.t2 0 100, rngE J.r1 J.r2 0 100, rngE J.u1 J.u2 0 12, rngE J.d1 J.d2 0 12, rngE J.x1 J.x2 0 12, rngE J.y1 J.y2 0 12, numE J.le 0 100] != 0) = false := by rw [head_first]; simpa using hj
  have Hj : Hid (J.check = if shE J.sh = 0 then firstE [numE J.wi 0 60, numE J.me 0 6] else shE J.sh) := by
    show J.check = if shE J.sh = 0 then firstE [numE J.wi 0 60, numE J.me 0 6] else shE J.sh
    unfold Jb.check
    rw [if_pos hj, if_neg (by omega)]
  clear hj
  have Hn : Hid (n = J.sh.length) := hn
  clear hn
  have Hh : Hid (Rg w w.heap.size a J.sh) := h
  clear h
  go_enter Try.func16, Try.ntmps16
  go_wp2_with fail
  have hk0 := Bk.new w 31 (jobC J (.slice a n c))
  have hB : Below (w.heap.size + 1) (w.alloc (.cells (jobC J (.slice a n c)) 31)) (w.alloc (.cells (jobC J (.slice a n c)) 31)) := Below.refl _ _
  go_region_held3 (fun w' => w'.cell? ⟨w.heap.size, 0, none⟩ = some (.int .i64 J.p1) ∧ w'.cell? ⟨w.heap.size, 1, none⟩ = some (.int .i64 J.p2) ∧ w'.cell? ⟨w.heap.size, 2, none⟩ = some (.int .i64 J.t1) ∧ w'.cell? ⟨w.heap.size, 3, none⟩ = some (.int .i64 J.t2) ∧ w'.cell? ⟨w.heap.size, 4, none⟩ = some (.int .i64 J.r1) ∧ w'.cell? ⟨w.heap.size, 5, none⟩ = some (.int .i64 J.r2) ∧ w'.cell? ⟨w.heap.size, 6, none⟩ = some (.int .i64 J.u1) ∧ w'.cell? ⟨w.heap.size, 7, none⟩ = some (.int .i64 J.u2) ∧ w'.cell? ⟨w.heap.size, 8, none⟩ = some (.int .i64 J.d1) ∧ w'.cell? ⟨w.heap.size, 9, none⟩ = some (.int .i64 J.d2) ∧ w'.cell? ⟨w.heap.size, 10, none⟩ = some (.int .i64 J.x1) ∧ w'.cell? ⟨w.heap.size, 11, none⟩ = some (.int .i64 J.x2) ∧ w'.cell? ⟨w.heap.size, 12, none⟩ = some (.int .i64 J.y1) ∧ w'.cell? ⟨w.heap.size, 13, none⟩ = some (.int .i64 J.y2) ∧ w'.cell? ⟨w.heap.size, 14, none⟩ = some (.int .i64 J.le)) (go_keep)
    (first | (go_at_call 32; refine (checkRange_any _ _ _ _ _).mono ?_; rintro e w' ⟨rfl, hb⟩; obtain ⟨hc, hf⟩ := bcell hb; (have hB' := (by first | exact chainB hB (by simp) hb | exact chainB hB.drew (by simp) hb : Below (w.heap.size + 1) (w.alloc (.cells (jobC J (.slice a n c)) 31)) w')); clear hB; have hB := hB'; clear hB'; (have hz : w.heap.size < w'.heap.size := by have := hB.size; (try simp at this); omega)) | (go_at_call 33; refine (checkNumber_any _ _ _ _).mono ?_; rintro e w' ⟨rfl, rfl⟩) | (go_at_call 31; refine (first_any _ _ _ [rngE J.p1 J.p2 (-60) 60, rngE J.t1 J.t2 0 100, rngE J.r1 J.r2 0 100, rngE J.u1 J.u2 0 12, rngE J.d1 J.d2 0 12, rngE J.x1 J.x2 0 12, rngE J.y1 J.y2 0 12, numE J.le 0 100] _ rfl (by simp) ?_).mono ?_; (first | exact Is.of_bk _ (Bk.new _ _ _) (by simp) | exact Is.of_bk _ (Bk.new _ _ _).drew (by simp)); rintro e w' ⟨rfl, rfl⟩))
  have hk := hk0.below hB (by omega)
  have c15 := hk.at_ 15 _ rfl
  have hB1 : Below w.heap.size w w' := ((Below.refl _ _).alloc (Nat.le_refl _) _).trans (hB.mono (by omega))
  clear hk0 hB
  go_wp2
  go_loopw [51] (fun i wr => ∃ k : Nat, k ≤ n ∧ i = .int .i64 k ∧ shE J.sh = shE (J.sh.drop k) ∧ Bk wr w.heap.size 31 (jobC J (.slice a n c)) ∧ Below w.heap.size w wr) (fun i _ => n - (intOf i).toNat)
  case atStart => exact ⟨0, Nat.zero_le _, rfl, rfl, hk.alloc _, hB1.alloc (by omega) _⟩
  case round =>
    clear hB1 hk c15 hbad
    obtain ⟨k, hk, rfl, hf, hj, hB⟩ := hrel
    have Hf : Hid (shE J.sh = shE (J.sh.drop k)) := hf
    clear hf
    have hz := hB.size
    have hl := hj.lt
    by_cases hlt : k < n
    · have hkl : k < J.sh.length := by rw [← Hn.out]; exact hlt
      obtain ⟨b, off, rfl, hbl, e0, e1⟩ := Hh.out k J.sh[k] (List.getElem?_eq_getElem hkl)
      replace e0 := (hB.cell (p := ⟨b, off + k * 2, none⟩) hbl).trans e0
      replace e1 := (hB.cell (p := ⟨b, off + k * 2 + 1, none⟩) hbl).trans e1
      have hbl' : b < wr.heap.size := by omega
      have Hd : Hid (J.sh.drop k = J.sh[k] :: J.sh.drop (k + 1)) := List.drop_eq_getElem_cons hkl
      by_cases hz0 : rngE J.sh[k].1 J.sh[k].2 (-60) 60 = 0
      · have hz1 : (rngE J.sh[k].1 J.sh[k].2 (-60) 60 != 0) = false := by simp [hz0]
        have Hz : Hid (rngE J.sh[k].1 J.sh[k].2 (-60) 60 = 0) := hz0
        clear hz0
        go_wp2_with (go_at_call 32; refine (checkRange_any _ _ _ _ _).mono ?_; rintro e w2 ⟨rfl, hb⟩)
        go_roundw
        case rel => exact ⟨k + 1, by omega, by go_num, by rw [Hf.out, Hd.out, shE, if_pos Hz.out], (hj.alloc _).below hb (by simp; omega), (hB.alloc (by omega) _).trans (hb.mono (by simp; omega))⟩
        case measure => simp [intOf]; omega
      · have hz1 : (rngE J.sh[k].1 J.sh[k].2 (-60) 60 != 0) = true := by simp [hz0]
        have Hz : Hid (¬ rngE J.sh[k].1 J.sh[k].2 (-60) 60 = 0) := hz0
        clear hz0
        go_wp2_with (go_at_call 32; refine (checkRange_any _ _ _ _ _).mono ?_; rintro e w2 ⟨rfl, hb⟩)
        go_ret
        have e : shE J.sh = rngE J.sh[k].1 J.sh[k].2 (-60) 60 := by rw [Hf.out, Hd.out, shE, if_neg Hz.out]
        exact ⟨ret_i (by rw [Hj.out, e, if_neg Hz.out]), (hB.alloc (by omega) _).trans (hb.mono (by simp; omega))⟩
    · obtain rfl : k = n := by omega
      have c16 := hj.at_ 16 _ rfl
      have c17 := hj.at_ 17 _ rfl
      go_wp2_with fail
      go_region_held3 (fun w' => w'.cell? ⟨w.heap.size, 16, none⟩ = some (.int .i64 J.wi) ∧ w'.cell? ⟨w.heap.size, 17, none⟩ = some (.int .i64 J.me)) (go_keep)
        (first | (go_at_call 33; refine (checkNumber_any _ _ _ _).mono ?_; rintro e w' ⟨rfl, rfl⟩) | (go_at_call 31; refine (first_any _ _ _ [numE J.wi 0 60, numE J.me 0 6] _ rfl (by simp) ?_).mono ?_; (first | exact Is.of_bk _ (Bk.new _ _ _) (by simp) | exact Is.of_bk _ (Bk.new _ _ _).drew (by simp)); rintro e w' ⟨rfl, rfl⟩))
      go_wp2
      go_ret
      have e : shE J.sh = 0 := by rw [Hf.out, List.drop_of_length_le (by rw [← Hn.out]; omega)]; rfl
      exact ⟨ret_i (by rw [Hj.out, if_pos e]), (hB.alloc (by omega) _).drew⟩

theorem check_any (J : Jb) (a : Option Addr) (n c : Nat) (w : World) (hn : n = J.sh.length) (hm : n ≤ 9223372036854775807) (h : Rg w w.heap.size a J.sh) :
    Calls Try.prog 16 #[.agg (jobC J (.slice a n c))] w fun e w' => e = .returned (.int .i64 J.check) ∧ Below w.heap.size w w' := by
  by_cases hj : J.head = 0
  · by_cases h4 : 4 < n
    · have e : J.check = 6 := by unfold Jb.check; rw [if_pos hj, if_pos (by omega)]
      rw [e]
      exact check_many J a n c w hj h4 hm
    · exact check_few J a n c w hj hn (by omega) h
  · have e : J.check = J.head := by unfold Jb.check; rw [if_neg hj]
    rw [e]
    exact check_bad J a n c w hj
end Go.Proofs.Ytkimdnckbdeekaa

/- Contracts of what strokes do (package reed). -/
namespace Go.Proofs.Ytkimdnckbdeekaa
open Go.RowKit

/-- Numbers of a tongue lie within n. -/
def Tg.In (t : Tg) (n : Int) : Prop := -n ≤ t.p1 ∧ t.p1 ≤ n ∧ -n ≤ t.p2 ∧ t.p2 ≤ n ∧ -n ≤ t.t1 ∧ t.t1 ≤ n ∧ -n ≤ t.t2 ∧ t.t2 ≤ n ∧ -n ≤ t.r1 ∧ t.r1 ≤ n ∧ -n ≤ t.r2 ∧ t.r2 ≤ n

theorem ret_6 {a b c d e f a' b' c' d' e' f' : Int} (h1 : a = a') (h2 : b = b') (h3 : c = c') (h4 : d = d') (h5 : e = e') (h6 : f = f') :
    Ending.returned (.agg #[.int .i64 a, .int .i64 b, .int .i64 c, .int .i64 d, .int .i64 e, .int .i64 f]) = .returned (.agg #[.int .i64 a', .int .i64 b', .int .i64 c', .int .i64 d', .int .i64 e', .int .i64 f']) := by
  rw [h1, h2, h3, h4, h5, h6]

theorem three_new (w : World) (A B C : Array Value) (t u v : TypeId) : Bk (((w.alloc (.cells A t)).alloc (.cells B u)).alloc (.cells C v)) w.heap.size t A ∧ Bk (((w.alloc (.cells A t)).alloc (.cells B u)).alloc (.cells C v)) (w.heap.size + 1) u B ∧
    Bk (((w.alloc (.cells A t)).alloc (.cells B u)).alloc (.cells C v)) (w.heap.size + 2) v C := by
  have h1 := Bk.new (w.alloc (.cells A t)) u B
  have h2 := Bk.new ((w.alloc (.cells A t)).alloc (.cells B u)) v C
  simp only [World.size_alloc] at h1 h2
  exact ⟨((Bk.new w t A).alloc _).alloc _, h1.alloc _, h2⟩

def zeros : Nat → Array Value := fun n => Array.replicate n (.int .i64 0)

set_option maxHeartbeats 1000000 in
set_option maxRecDepth 100000 in
theorem stroked_tip (J : Jb) (s : Value) (w : World) (h : J.In 1000) :
    Calls Try.prog 44 #[.agg (jobC J s), .int .i64 1] w fun e w' => e = .returned (.agg (tonC (strk J J.tg 1))) ∧ Below w.heap.size w w' := by
  obtain ⟨⟨p1, p1'⟩, ⟨p2, p2'⟩, ⟨t1, t1'⟩, ⟨t2, t2'⟩, ⟨r1, r1'⟩, ⟨r2, r2'⟩, ⟨u1, u1'⟩, ⟨u2, u2'⟩, ⟨d1, d1'⟩, ⟨d2, d2'⟩, ⟨x1, x1'⟩, ⟨x2, x2'⟩, ⟨y1, y1'⟩, ⟨y2, y2'⟩, _, _, _, _, _⟩ := h
  obtain ⟨b0, b1, b2⟩ := three_new w (jobC J s) #[.int .i64 0, .int .i64 0, .int .i64 0, .int .i64 0, .int .i64 0, .int .i64 0] #[.int .i64 J.p1, .int .i64 J.p2, .int .i64 J.t1, .int .i64 J.t2, .int .i64 J.r1, .int .i64 J.r2] 59 26 26
  go_enter Try.func44, Try.ntmps44
  go_wp2_with fail
  refine (sum_any _ _ _ _ _ (by omega)).mono ?_
  rintro e w1 ⟨rfl, hb⟩
  have hz := hb.size
  simp only [World.size_alloc] at hz
  have k0 := b0.below hb (by simp; omega)
  have k1 := b1.below hb (by simp)
  have k2 := b2.below hb (by simp)
  have hB1 : Below w.heap.size w w1 := ((((Below.refl _ _).alloc (Nat.le_refl _) _).alloc (by simp) _).alloc (by simp; omega) _).trans (hb.mono (by simp; omega))
  clear b0 b1 b2 hb
  have l0 := k2.at_ 0 _ rfl
  have l1 := k2.at_ 1 _ rfl
  have l2 := k2.at_ 2 _ rfl
  have l3 := k2.at_ 3 _ rfl
  have m0 := k2.free 0
  have m1 := k2.free 1
  have j10 := k0.at_ 10 _ rfl
  have j11 := k0.at_ 11 _ rfl
  go_wp2_with fail
  refine (difference_any _ _ _ _ _ (by omega)).mono ?_
  rintro e w2 ⟨rfl, hb⟩
  have hz2 := hb.size
  simp only [World.size_setCell] at hz2
  have q1 := ((k1.other (p := ⟨w.heap.size + 2, 0, none⟩) (by simp) _).other (p := ⟨w.heap.size + 2, 1, none⟩) (by simp) _).below hb (by simp; omega)
  have q2 := ((k2.put 0 _).put 1 _).below hb (by simp; omega)
  have hB2 : Below w.heap.size w w2 := ((hB1.setCell (p := ⟨w.heap.size + 2, 0, none⟩) (by simp) _).setCell (p := ⟨w.heap.size + 2, 1, none⟩) (by simp) _).trans (hb.mono (by simp; omega))
  clear k0 k1 k2 l0 l1 l2 l3 m0 m1 j10 j11 hb hB1
  have l0 := q2.at_ 0 _ rfl
  have l1 := q2.at_ 1 _ rfl
  have l2 := q2.at_ 2 _ rfl
  have l3 := q2.at_ 3 _ rfl
  have l4 := q2.at_ 4 _ rfl
  have l5 := q2.at_ 5 _ rfl
  have m2 := q2.free 2
  have m3 := q2.free 3
  have n0 := q1.at_ 0 _ rfl
  have n1 := q1.at_ 1 _ rfl
  have n2 := q1.at_ 2 _ rfl
  have n3 := q1.at_ 3 _ rfl
  have n4 := q1.at_ 4 _ rfl
  have n5 := q1.at_ 5 _ rfl
  have f0 := q1.free 0
  have f1 := q1.free 1
  have f2 := q1.free 2
  have f3 := q1.free 3
  have f4 := q1.free 4
  have f5 := q1.free 5
  go_wp2
  refine bodyPost_ret (v := .agg #[.int .i64 (J.p1 + J.u1), .int .i64 (J.p2 + J.u2), .int .i64 (J.t1 - J.x2), .int .i64 (J.t2 - J.x1), .int .i64 J.r1, .int .i64 J.r2]) (by simp [results, Try.results44, go_sem, n0, n1, n2, n3, n4, n5]) rfl ⟨by simp [strk, Jb.tg], ?_⟩
  iterate 8 (refine Below.setCell ?_ (by first | (simp; done) | (simp; omega)) _)
  exact hB2

set_option maxHeartbeats 1000000 in
set_option maxRecDepth 100000 in
theorem stroked_root (J : Jb) (s : Value) (w : World) (h : J.In 1000) :
    Calls Try.prog 44 #[.agg (jobC J s), .int .i64 2] w fun e w' => e = .returned (.agg (tonC (strk J J.tg 2))) ∧ Below w.heap.size w w' := by
  obtain ⟨⟨p1, p1'⟩, ⟨p2, p2'⟩, ⟨t1, t1'⟩, ⟨t2, t2'⟩, ⟨r1, r1'⟩, ⟨r2, r2'⟩, ⟨u1, u1'⟩, ⟨u2, u2'⟩, ⟨d1, d1'⟩, ⟨d2, d2'⟩, ⟨x1, x1'⟩, ⟨x2, x2'⟩, ⟨y1, y1'⟩, ⟨y2, y2'⟩, _, _, _, _, _⟩ := h
  obtain ⟨b0, b1, b2⟩ := three_new w (jobC J s) #[.int .i64 0, .int .i64 0, .int .i64 0, .int .i64 0, .int .i64 0, .int .i64 0] #[.int .i64 J.p1, .int .i64 J.p2, .int .i64 J.t1, .int .i64 J.t2, .int .i64 J.r1, .int .i64 J.r2] 59 26 26
  go_enter Try.func44, Try.ntmps44
  go_wp2_with fail
  refine (difference_any _ _ _ _ _ (by omega)).mono ?_
  rintro e w1 ⟨rfl, hb⟩
  have hz := hb.size
  simp only [World.size_alloc] at hz
  have k0 := b0.below hb (by simp; omega)
  have k1 := b1.below hb (by simp)
  have k2 := b2.below hb (by simp)
  have hB1 : Below w.heap.size w w1 := ((((Below.refl _ _).alloc (Nat.le_refl _) _).alloc (by simp) _).alloc (by simp; omega) _).trans (hb.mono (by simp; omega))
  clear b0 b1 b2 hb
  have l0 := k2.at_ 0 _ rfl
  have l1 := k2.at_ 1 _ rfl
  have l2 := k2.at_ 4 _ rfl
  have l3 := k2.at_ 5 _ rfl
  have m0 := k2.free 0
  have m1 := k2.free 1
  have j10 := k0.at_ 12 _ rfl
  have j11 := k0.at_ 13 _ rfl
  go_wp2_with fail
  refine (difference_any _ _ _ _ _ (by omega)).mono ?_
  rintro e w2 ⟨rfl, hb⟩
  have hz2 := hb.size
  simp only [World.size_setCell] at hz2
  have q1 := ((k1.other (p := ⟨w.heap.size + 2, 0, none⟩) (by simp) _).other (p := ⟨w.heap.size + 2, 1, none⟩) (by simp) _).below hb (by simp; omega)
  have q2 := ((k2.put 0 _).put 1 _).below hb (by simp; omega)
  have hB2 : Below w.heap.size w w2 := ((hB1.setCell (p := ⟨w.heap.size + 2, 0, none⟩) (by simp) _).setCell (p := ⟨w.heap.size + 2, 1, none⟩) (by simp) _).trans (hb.mono (by simp; omega))
  clear k0 k1 k2 l0 l1 l2 l3 m0 m1 j10 j11 hb hB1
  have l0 := q2.at_ 0 _ rfl
  have l1 := q2.at_ 1 _ rfl
  have l2 := q2.at_ 2 _ rfl
  have l3 := q2.at_ 3 _ rfl
  have l4 := q2.at_ 4 _ rfl
  have l5 := q2.at_ 5 _ rfl
  have m2 := q2.free 4
  have m3 := q2.free 5
  have n0 := q1.at_ 0 _ rfl
  have n1 := q1.at_ 1 _ rfl
  have n2 := q1.at_ 2 _ rfl
  have n3 := q1.at_ 3 _ rfl
  have n4 := q1.at_ 4 _ rfl
  have n5 := q1.at_ 5 _ rfl
  have f0 := q1.free 0
  have f1 := q1.free 1
  have f2 := q1.free 2
  have f3 := q1.free 3
  have f4 := q1.free 4
  have f5 := q1.free 5
  go_wp2
  refine bodyPost_ret (v := .agg #[.int .i64 (J.p1 - J.d2), .int .i64 (J.p2 - J.d1), .int .i64 J.t1, .int .i64 J.t2, .int .i64 (J.r1 - J.y2), .int .i64 (J.r2 - J.y1)]) (by simp [results, Try.results44, go_sem, n0, n1, n2, n3, n4, n5]) rfl ⟨by simp [strk, Jb.tg], ?_⟩
  iterate 8 (refine Below.setCell ?_ (by first | (simp; done) | (simp; omega)) _)
  exact hB2

/-- The job with the tongue t. -/
theorem setTg_tg (J : Jb) : J.setTg J.tg = J := rfl

theorem strk_in (J : Jb) (t : Tg) (s n : Int) (h : t.In n) (hJ : J.In 1000) : (strk J t s).In (n + 12) := by
  obtain ⟨h1, h2, h3, h4, h5, h6, h7, h8, h9, h10, h11, h12⟩ := h
  have := hJ.u1; have := hJ.u2; have := hJ.d1; have := hJ.d2; have := hJ.x1; have := hJ.x2; have := hJ.y1; have := hJ.y2
  unfold strk
  by_cases e1 : s = 1
  · rw [if_pos e1]; simp only [Tg.In]; omega
  · rw [if_neg e1]
    by_cases e2 : s = 2
    · rw [if_pos e2]; simp only [Tg.In]; omega
    · rw [if_neg e2]; simp only [Tg.In]; omega
theorem Jb.In.tg {J : Jb} {n : Int} (h : J.In n) : J.tg.In n := by
  have := h.p1; have := h.p2; have := h.t1; have := h.t2; have := h.r1; have := h.r2
  simp only [Tg.In, Jb.tg]; omega
theorem Jb.In.setTg {J : Jb} {n m : Int} {t : Tg} (h : J.In n) (ht : t.In m) : (J.setTg t).In m := by
  obtain ⟨h1, h2, h3, h4, h5, h6, h7, h8, h9, h10, h11, h12⟩ := ht
  exact ⟨⟨h1, h2⟩, ⟨h3, h4⟩, ⟨h5, h6⟩, ⟨h7, h8⟩, ⟨h9, h10⟩, ⟨h11, h12⟩, h.u1, h.u2, h.d1, h.d2, h.x1, h.x2, h.y1, h.y2, h.le, h.wi, h.me, h.sh, h.len⟩
theorem Tg.In.mono {t : Tg} {n m : Int} (h : t.In n) (hm : n ≤ m) : t.In m := by
  simp only [Tg.In] at h ⊢; omega
theorem Jb.In.mono {J : Jb} {n m : Int} (h : J.In n) (hm : n ≤ m) : J.In m := h.setTg (h.tg.mono hm)

/-- Each stroke. -/
theorem stroked_any (J : Jb) (s : Value) (k : Int) (hk : k = 1 ∨ k = 2) (w : World) (h : J.In 1000) :
    Calls Try.prog 44 #[.agg (jobC J s), .int .i64 k] w fun e w' => e = .returned (.agg (tonC (strk J J.tg k))) ∧ Below w.heap.size w w' := by
  rcases hk with rfl | rfl
  · exact stroked_tip J s w h
  · exact stroked_root J s w h

/-- What 'after' hands back. -/
def AfterEnd (J : Jb) (l : List Int) (s : Value) (w : World) (e : Ending) (w' : World) : Prop :=
  e = .returned (.agg (jobC (J.setTg (afterS J J.tg l)) s)) ∧ Below w.heap.size w w'
end Go.Proofs.Ytkimdnckbdeekaa
