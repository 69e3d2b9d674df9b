/- Part 14 of the proof: Check, CheckB, Win, Stroke, Window, Full, TxB, TxI, TxC, TxJ, TxK. -/
import Derived.Deep.RegionHeld3
import Derived.Deep.DeepCutAuto
import Derived.Maps.AppendAt
import Derived.Deep.DeepMust
import Derived.Deep.AppendLies
import Derived.Laws.ResultCell
import Derived.Test.YtljefjngmembkaaGreatDoorW13
import Derived.Test.YtljefjngmembkaaGreatDoorW12
/- Contracts of the checks of package reed. -/
namespace Go.Proofs.YtljefjngmembkaaGreatDoor
set_option linter.all false
open Go.RowKit

theorem rng_first (a b lo hi : Int) : firstE [numE a lo hi,numE b lo hi] = (if a < lo ∨ hi < a then 1 else if b < lo ∨ hi < b then 1 else 0) := by
  unfold firstE firstE firstE numE
  by_cases h1 : a < lo ∨ hi < a <;> by_cases h2 : b < lo ∨ hi < b <;> simp [h1,h2]

theorem two_new (w : World) (C D : Array Value) (t u : TypeId) : Bk ((w.alloc (.cells C t)).alloc (.cells D u)) (w.heap.size + 1) u D := by
  have := Bk.new (w.alloc (.cells C t)) u D
  rwa [World.size_alloc] at this

set_option maxHeartbeats 400000 in
theorem checkRange_any (a b lo hi : Int) (w : World) :
    Calls Tryz.prog 50 #[.agg #[.int .i64 a,.int .i64 b],.int .i64 lo,.int .i64 hi] w fun e w' => e = .returned (.int .i64 (rngE a b lo hi)) ∧ Below w.heap.size w w' := by
  by_cases h0 : firstE [numE a lo hi,numE b lo hi] = 0
  · have hb : (firstE [numE a lo hi,numE b lo hi] == 0) = true := by simp [h0]
    have He : Hid (rngE a b lo hi = if b < a then 5 else 0) := by
      show rngE a b lo hi = if b < a then 5 else 0
      rw [rng_first] at h0
      unfold rngE
      by_cases h1 : a < lo ∨ hi < a <;> by_cases h2 : b < lo ∨ hi < b <;> simp [h1,h2] at h0 ⊢
    have H0 : Hid (firstE [numE a lo hi,numE b lo hi] = 0) := h0
    clear h0
    by_cases hba : b < a
    · go_enter Tryz.func50,Tryz.ntmps50
      go_wp2_with fail
      go_region_held3 (fun w' => w'.cell? ⟨w.heap.size,0,none⟩ = some (.int .i64 a) ∧ w'.cell? ⟨w.heap.size,1,none⟩ = some (.int .i64 b)) (go_keep)
        (first | (go_at_call 51; refine (checkNumber_any _ _ _ _).mono ?_; rintro e w' ⟨rfl,rfl⟩) | (go_at_call 49; refine (first_any _ _ _ [numE a lo hi,numE b lo hi] _ rfl (by simp) ?_).mono ?_; (exact Is.of_bk (g := w.heap.size + 1) (t := 38) _ (two_new w _ _ _ _) (by simp)); rintro e w' ⟨rfl,rfl⟩))
      go_wp2_with (go_at_call 41; refine (empty_any _ _ _).mono ?_; rintro e w' ⟨rfl,rfl⟩)
      go_ret
      refine ⟨ret_i (by rw [He.out,if_pos hba]),?_⟩
      exact ((((Below.refl _ _).alloc (Nat.le_refl _) _).alloc (by simp) _).alloc (by simp; omega) _).drew
    · go_enter Tryz.func50,Tryz.ntmps50
      go_wp2_with fail
      go_region_held3 (fun w' => w'.cell? ⟨w.heap.size,0,none⟩ = some (.int .i64 a) ∧ w'.cell? ⟨w.heap.size,1,none⟩ = some (.int .i64 b)) (go_keep)
        (first | (go_at_call 51; refine (checkNumber_any _ _ _ _).mono ?_; rintro e w' ⟨rfl,rfl⟩) | (go_at_call 49; refine (first_any _ _ _ [numE a lo hi,numE b lo hi] _ rfl (by simp) ?_).mono ?_; (exact Is.of_bk (g := w.heap.size + 1) (t := 38) _ (two_new w _ _ _ _) (by simp)); rintro e w' ⟨rfl,rfl⟩))
      go_wp2_with (go_at_call 41; refine (empty_any _ _ _).mono ?_; rintro e w' ⟨rfl,rfl⟩)
      go_ret
      refine ⟨ret_i (by rw [He.out,H0.out,if_neg (by omega)]),?_⟩
      exact ((((Below.refl _ _).alloc (Nat.le_refl _) _).alloc (by simp) _).alloc (by simp; omega) _).drew
  · have hb : (firstE [numE a lo hi,numE b lo hi] == 0) = false := by simp [h0]
    have He : Hid (rngE a b lo hi = firstE [numE a lo hi,numE b lo hi]) := by
      show rngE a b lo hi = firstE [numE a lo hi,numE b lo hi]
      rw [rng_first] at h0 ⊢
      unfold rngE
      by_cases h1 : a < lo ∨ hi < a <;> by_cases h2 : b < lo ∨ hi < b <;> simp [h1,h2] at h0 ⊢
    clear h0
    go_enter Tryz.func50,Tryz.ntmps50
    go_wp2_with fail
    go_region_held3 (fun w' => w'.cell? ⟨w.heap.size,0,none⟩ = some (.int .i64 a) ∧ w'.cell? ⟨w.heap.size,1,none⟩ = some (.int .i64 b)) (go_keep)
      (first | (go_at_call 51; refine (checkNumber_any _ _ _ _).mono ?_; rintro e w' ⟨rfl,rfl⟩) | (go_at_call 49; refine (first_any _ _ _ [numE a lo hi,numE b lo hi] _ rfl (by simp) ?_).mono ?_; (exact Is.of_bk (g := w.heap.size + 1) (t := 38) _ (two_new w _ _ _ _) (by simp)); rintro e w' ⟨rfl,rfl⟩))
    go_wp2_with (go_at_call 41; refine (empty_any _ _ _).mono ?_; rintro e w' ⟨rfl,rfl⟩)
    go_ret
    refine ⟨ret_i (by rw [He.out]),?_⟩
    exact (((Below.refl _ _).alloc (Nat.le_refl _) _).alloc (by simp) _).drew

theorem head_first (J : Jb) : firstE [rngE J.p1 J.p2 (-60) 60,rngE J.t1 J.t2 0 100,rngE J.r1 J.r2 0 100,rngE J.u1 J.u2 0 12,rngE J.d1 J.d2 0 12,rngE J.x1 J.x2 0 12,rngE J.y1 J.y2 0 12,numE J.le 0 100] = J.head := rfl

set_option maxHeartbeats 1000000 in
set_option maxRecDepth 100000 in
theorem check_bad (J : Jb) (a : Option Addr) (n c : Nat) (w : World) (hj : J.head ≠ 0) :
    Calls Tryz.prog 28 #[.agg (jobC J (.slice a n c))] w fun e w' => e = .returned (.int .i64 J.head) ∧ Below w.heap.size w w' := by
  have hbad : (firstE [rngE J.p1 J.p2 (-60) 60,rngE J.t1 J.t2 0 100,rngE J.r1 J.r2 0 100,rngE J.u1 J.u2 0 12,rngE J.d1 J.d2 0 12,rngE J.x1 J.x2 0 12,rngE J.y1 J.y2 0 12,numE J.le 0 100] != 0) = true := by rw [head_first]; simpa using hj
  clear hj
  go_enter Tryz.func28,Tryz.ntmps28
  go_wp2_with fail
  have hk0 := Bk.new w 30 (jobC J (.slice a n c))
  have hB : Below (w.heap.size + 1) (w.alloc (.cells (jobC J (.slice a n c)) 30)) (w.alloc (.cells (jobC J (.slice a n c)) 30)) := Below.refl _ _
  go_region_held3 (fun w' => w'.cell? ⟨w.heap.size,0,none⟩ = some (.int .i64 J.p1) ∧ w'.cell? ⟨w.heap.size,1,none⟩ = some (.int .i64 J.p2) ∧ w'.cell? ⟨w.heap.size,2,none⟩ = some (.int .i64 J.t1) ∧ w'.cell? ⟨w.heap.size,3,none⟩ = some (.int .i64 J.t2) ∧ w'.cell? ⟨w.heap.size,4,none⟩ = some (.int .i64 J.r1) ∧ w'.cell? ⟨w.heap.size,5,none⟩ = some (.int .i64 J.r2) ∧ w'.cell? ⟨w.heap.size,6,none⟩ = some (.int .i64 J.u1) ∧ w'.cell? ⟨w.heap.size,7,none⟩ = some (.int .i64 J.u2) ∧ w'.cell? ⟨w.heap.size,8,none⟩ = some (.int .i64 J.d1) ∧ w'.cell? ⟨w.heap.size,9,none⟩ = some (.int .i64 J.d2) ∧ w'.cell? ⟨w.heap.size,10,none⟩ = some (.int .i64 J.x1) ∧ w'.cell? ⟨w.heap.size,11,none⟩ = some (.int .i64 J.x2) ∧ w'.cell? ⟨w.heap.size,12,none⟩ = some (.int .i64 J.y1) ∧ w'.cell? ⟨w.heap.size,13,none⟩ = some (.int .i64 J.y2) ∧ w'.cell? ⟨w.heap.size,14,none⟩ = some (.int .i64 J.le)) (go_keep)
    (first | (go_at_call 50; refine (checkRange_any _ _ _ _ _).mono ?_; rintro e w' ⟨rfl,hb⟩; obtain ⟨hc,hf⟩ := bcell hb; (have hB' := (by first | exact chainB hB (by simp) hb | exact chainB hB.drew (by simp) hb : Below (w.heap.size + 1) (w.alloc (.cells (jobC J (.slice a n c)) 30)) w')); clear hB; have hB := hB'; clear hB'; (have hz : w.heap.size < w'.heap.size := by have := hB.size; (try simp at this); omega)) | (go_at_call 51; refine (checkNumber_any _ _ _ _).mono ?_; rintro e w' ⟨rfl,rfl⟩) | (go_at_call 49; refine (first_any _ _ _ [rngE J.p1 J.p2 (-60) 60,rngE J.t1 J.t2 0 100,rngE J.r1 J.r2 0 100,rngE J.u1 J.u2 0 12,rngE J.d1 J.d2 0 12,rngE J.x1 J.x2 0 12,rngE J.y1 J.y2 0 12,numE J.le 0 100] _ rfl (by simp) ?_).mono ?_; (first | exact Is.of_bk _ (Bk.new _ _ _) (by simp) | exact Is.of_bk _ (Bk.new _ _ _).drew (by simp)); rintro e w' ⟨rfl,rfl⟩))
  go_wp2
  go_ret
  exact ⟨ret_i (head_first J),(((Below.refl _ _).alloc (Nat.le_refl _) _).trans (hB.mono (by omega))).alloc (by omega) _⟩

set_option maxHeartbeats 1000000 in
set_option maxRecDepth 100000 in
theorem check_many (J : Jb) (a : Option Addr) (n c : Nat) (w : World) (hj : J.head = 0) (hn : 4 < n) (hm : n ≤ 9223372036854775807) :
    Calls Tryz.prog 28 #[.agg (jobC J (.slice a n c))] w fun e w' => e = .returned (.int .i64 6) ∧ Below w.heap.size w w' := by
  have hbad : (firstE [rngE J.p1 J.p2 (-60) 60,rngE J.t1 J.t2 0 100,rngE J.r1 J.r2 0 100,rngE J.u1 J.u2 0 12,rngE J.d1 J.d2 0 12,rngE J.x1 J.x2 0 12,rngE J.y1 J.y2 0 12,numE J.le 0 100] != 0) = false := by rw [head_first]; simpa using hj
  clear hj
  go_enter Tryz.func28,Tryz.ntmps28
  go_wp2_with fail
  have hk0 := Bk.new w 30 (jobC J (.slice a n c))
  have hB : Below (w.heap.size + 1) (w.alloc (.cells (jobC J (.slice a n c)) 30)) (w.alloc (.cells (jobC J (.slice a n c)) 30)) := Below.refl _ _
  go_region_held3 (fun w' => w'.cell? ⟨w.heap.size,0,none⟩ = some (.int .i64 J.p1) ∧ w'.cell? ⟨w.heap.size,1,none⟩ = some (.int .i64 J.p2) ∧ w'.cell? ⟨w.heap.size,2,none⟩ = some (.int .i64 J.t1) ∧ w'.cell? ⟨w.heap.size,3,none⟩ = some (.int .i64 J.t2) ∧ w'.cell? ⟨w.heap.size,4,none⟩ = some (.int .i64 J.r1) ∧ w'.cell? ⟨w.heap.size,5,none⟩ = some (.int .i64 J.r2) ∧ w'.cell? ⟨w.heap.size,6,none⟩ = some (.int .i64 J.u1) ∧ w'.cell? ⟨w.heap.size,7,none⟩ = some (.int .i64 J.u2) ∧ w'.cell? ⟨w.heap.size,8,none⟩ = some (.int .i64 J.d1) ∧ w'.cell? ⟨w.heap.size,9,none⟩ = some (.int .i64 J.d2) ∧ w'.cell? ⟨w.heap.size,10,none⟩ = some (.int .i64 J.x1) ∧ w'.cell? ⟨w.heap.size,11,none⟩ = some (.int .i64 J.x2) ∧ w'.cell? ⟨w.heap.size,12,none⟩ = some (.int .i64 J.y1) ∧ w'.cell? ⟨w.heap.size,13,none⟩ = some (.int .i64 J.y2) ∧ w'.cell? ⟨w.heap.size,14,none⟩ = some (.int .i64 J.le)) (go_keep)
    (first | (go_at_call 50; refine (checkRange_any _ _ _ _ _).mono ?_; rintro e w' ⟨rfl,hb⟩; obtain ⟨hc,hf⟩ := bcell hb; (have hB' := (by first | exact chainB hB (by simp) hb | exact chainB hB.drew (by simp) hb : Below (w.heap.size + 1) (w.alloc (.cells (jobC J (.slice a n c)) 30)) w')); clear hB; have hB := hB'; clear hB'; (have hz : w.heap.size < w'.heap.size := by have := hB.size; (try simp at this); omega)) | (go_at_call 51; refine (checkNumber_any _ _ _ _).mono ?_; rintro e w' ⟨rfl,rfl⟩) | (go_at_call 49; refine (first_any _ _ _ [rngE J.p1 J.p2 (-60) 60,rngE J.t1 J.t2 0 100,rngE J.r1 J.r2 0 100,rngE J.u1 J.u2 0 12,rngE J.d1 J.d2 0 12,rngE J.x1 J.x2 0 12,rngE J.y1 J.y2 0 12,numE J.le 0 100] _ rfl (by simp) ?_).mono ?_; (first | exact Is.of_bk _ (Bk.new _ _ _) (by simp) | exact Is.of_bk _ (Bk.new _ _ _).drew (by simp)); rintro e w' ⟨rfl,rfl⟩))
  have hk := hk0.below hB (by omega)
  have c15 := hk.at_ 15 _ rfl
  clear hk0 hk
  go_wp2
  go_ret
  exact ⟨rfl,(((Below.refl _ _).alloc (Nat.le_refl _) _).trans (hB.mono (by omega))).alloc (by omega) _⟩

end Go.Proofs.YtljefjngmembkaaGreatDoor
/- The contract of reed.Check. -/
namespace Go.Proofs.YtljefjngmembkaaGreatDoor
set_option linter.all false
open Go.RowKit

set_option maxHeartbeats 2000000 in
set_option maxRecDepth 100000 in
theorem check_few (J : Jb) (a : Option Addr) (n c : Nat) (w : World) (hj : J.head = 0) (hn : n = J.sh.length) (hm : n ≤ 4) (h : Rg w w.heap.size a J.sh) :
    Calls Tryz.prog 28 #[.agg (jobC J (.slice a n c))] w fun e w' => e = .returned (.int .i64 J.check) ∧ Below w.heap.size w w' := by
  have hbad : (firstE [rngE J.p1 J.p2 (-60) 60,rngE J.t1 J.t2 0 100,rngE J.r1 J.r2 0 100,rngE J.u1 J.u2 0 12,rngE J.d1 J.d2 0 12,rngE J.x1 J.x2 0 12,rngE J.y1 J.y2 0 12,numE J.le 0 100] != 0) = false := by rw [head_first]; simpa using hj
  have Hj : Hid (J.check = if shE J.sh = 0 then firstE [numE J.wi 0 60,numE J.me 0 6] else shE J.sh) := by
    show J.check = if shE J.sh = 0 then firstE [numE J.wi 0 60,numE J.me 0 6] else shE J.sh
    unfold Jb.check
    rw [if_pos hj,if_neg (by omega)]
  clear hj
  have Hn : Hid (n = J.sh.length) := hn
  clear hn
  have Hh : Hid (Rg w w.heap.size a J.sh) := h
  clear h
  go_enter Tryz.func28,Tryz.ntmps28
  go_wp2_with fail
  have hk0 := Bk.new w 30 (jobC J (.slice a n c))
  have hB : Below (w.heap.size + 1) (w.alloc (.cells (jobC J (.slice a n c)) 30)) (w.alloc (.cells (jobC J (.slice a n c)) 30)) := Below.refl _ _
  go_region_held3 (fun w' => w'.cell? ⟨w.heap.size,0,none⟩ = some (.int .i64 J.p1) ∧ w'.cell? ⟨w.heap.size,1,none⟩ = some (.int .i64 J.p2) ∧ w'.cell? ⟨w.heap.size,2,none⟩ = some (.int .i64 J.t1) ∧ w'.cell? ⟨w.heap.size,3,none⟩ = some (.int .i64 J.t2) ∧ w'.cell? ⟨w.heap.size,4,none⟩ = some (.int .i64 J.r1) ∧ w'.cell? ⟨w.heap.size,5,none⟩ = some (.int .i64 J.r2) ∧ w'.cell? ⟨w.heap.size,6,none⟩ = some (.int .i64 J.u1) ∧ w'.cell? ⟨w.heap.size,7,none⟩ = some (.int .i64 J.u2) ∧ w'.cell? ⟨w.heap.size,8,none⟩ = some (.int .i64 J.d1) ∧ w'.cell? ⟨w.heap.size,9,none⟩ = some (.int .i64 J.d2) ∧ w'.cell? ⟨w.heap.size,10,none⟩ = some (.int .i64 J.x1) ∧ w'.cell? ⟨w.heap.size,11,none⟩ = some (.int .i64 J.x2) ∧ w'.cell? ⟨w.heap.size,12,none⟩ = some (.int .i64 J.y1) ∧ w'.cell? ⟨w.heap.size,13,none⟩ = some (.int .i64 J.y2) ∧ w'.cell? ⟨w.heap.size,14,none⟩ = some (.int .i64 J.le)) (go_keep)
    (first | (go_at_call 50; refine (checkRange_any _ _ _ _ _).mono ?_; rintro e w' ⟨rfl,hb⟩; obtain ⟨hc,hf⟩ := bcell hb; (have hB' := (by first | exact chainB hB (by simp) hb | exact chainB hB.drew (by simp) hb : Below (w.heap.size + 1) (w.alloc (.cells (jobC J (.slice a n c)) 30)) w')); clear hB; have hB := hB'; clear hB'; (have hz : w.heap.size < w'.heap.size := by have := hB.size; (try simp at this); omega)) | (go_at_call 51; refine (checkNumber_any _ _ _ _).mono ?_; rintro e w' ⟨rfl,rfl⟩) | (go_at_call 49; refine (first_any _ _ _ [rngE J.p1 J.p2 (-60) 60,rngE J.t1 J.t2 0 100,rngE J.r1 J.r2 0 100,rngE J.u1 J.u2 0 12,rngE J.d1 J.d2 0 12,rngE J.x1 J.x2 0 12,rngE J.y1 J.y2 0 12,numE J.le 0 100] _ rfl (by simp) ?_).mono ?_; (first | exact Is.of_bk _ (Bk.new _ _ _) (by simp) | exact Is.of_bk _ (Bk.new _ _ _).drew (by simp)); rintro e w' ⟨rfl,rfl⟩))
  have hk := hk0.below hB (by omega)
  have c15 := hk.at_ 15 _ rfl
  have hB1 : Below w.heap.size w w' := ((Below.refl _ _).alloc (Nat.le_refl _) _).trans (hB.mono (by omega))
  clear hk0 hB
  go_wp2
  go_loopw [51] (fun i wr => ∃ k : Nat,k ≤ n ∧ i = .int .i64 k ∧ shE J.sh = shE (J.sh.drop k) ∧ Bk wr w.heap.size 30 (jobC J (.slice a n c)) ∧ Below w.heap.size w wr) (fun i _ => n - (intOf i).toNat)
  case atStart => exact ⟨0,Nat.zero_le _,rfl,rfl,hk.alloc _,hB1.alloc (by omega) _⟩
  case round =>
    clear hB1 hk c15 hbad
    obtain ⟨k,hk,rfl,hf,hj,hB⟩ := hrel
    have Hf : Hid (shE J.sh = shE (J.sh.drop k)) := hf
    clear hf
    have hz := hB.size
    have hl := hj.lt
    by_cases hlt : k < n
    · have hkl : k < J.sh.length := by rw [← Hn.out]; exact hlt
      obtain ⟨b,off,rfl,hbl,e0,e1⟩ := Hh.out k J.sh[k] (List.getElem?_eq_getElem hkl)
      replace e0 := (hB.cell (p := ⟨b,off + k * 2,none⟩) hbl).trans e0
      replace e1 := (hB.cell (p := ⟨b,off + k * 2 + 1,none⟩) hbl).trans e1
      have hbl' : b < wr.heap.size := by omega
      have Hd : Hid (J.sh.drop k = J.sh[k] :: J.sh.drop (k + 1)) := List.drop_eq_getElem_cons hkl
      by_cases hz0 : rngE J.sh[k].1 J.sh[k].2 (-60) 60 = 0
      · have hz1 : (rngE J.sh[k].1 J.sh[k].2 (-60) 60 != 0) = false := by simp [hz0]
        have Hz : Hid (rngE J.sh[k].1 J.sh[k].2 (-60) 60 = 0) := hz0
        clear hz0
        go_wp2_with (go_at_call 50; refine (checkRange_any _ _ _ _ _).mono ?_; rintro e w2 ⟨rfl,hb⟩)
        go_roundw
        case rel => exact ⟨k + 1,by omega,by go_num,by rw [Hf.out,Hd.out,shE,if_pos Hz.out],(hj.alloc _).below hb (by simp; omega),(hB.alloc (by omega) _).trans (hb.mono (by simp; omega))⟩
        case measure => simp [intOf]; omega
      · have hz1 : (rngE J.sh[k].1 J.sh[k].2 (-60) 60 != 0) = true := by simp [hz0]
        have Hz : Hid (¬ rngE J.sh[k].1 J.sh[k].2 (-60) 60 = 0) := hz0
        clear hz0
        go_wp2_with (go_at_call 50; refine (checkRange_any _ _ _ _ _).mono ?_; rintro e w2 ⟨rfl,hb⟩)
        go_ret
        have e : shE J.sh = rngE J.sh[k].1 J.sh[k].2 (-60) 60 := by rw [Hf.out,Hd.out,shE,if_neg Hz.out]
        exact ⟨ret_i (by rw [Hj.out,e,if_neg Hz.out]),(hB.alloc (by omega) _).trans (hb.mono (by simp; omega))⟩
    · obtain rfl : k = n := by omega
      have c16 := hj.at_ 16 _ rfl
      have c17 := hj.at_ 17 _ rfl
      go_wp2_with fail
      go_region_held3 (fun w' => w'.cell? ⟨w.heap.size,16,none⟩ = some (.int .i64 J.wi) ∧ w'.cell? ⟨w.heap.size,17,none⟩ = some (.int .i64 J.me)) (go_keep)
        (first | (go_at_call 51; refine (checkNumber_any _ _ _ _).mono ?_; rintro e w' ⟨rfl,rfl⟩) | (go_at_call 49; refine (first_any _ _ _ [numE J.wi 0 60,numE J.me 0 6] _ rfl (by simp) ?_).mono ?_; (first | exact Is.of_bk _ (Bk.new _ _ _) (by simp) | exact Is.of_bk _ (Bk.new _ _ _).drew (by simp)); rintro e w' ⟨rfl,rfl⟩))
      go_wp2
      go_ret
      have e : shE J.sh = 0 := by rw [Hf.out,List.drop_of_length_le (by rw [← Hn.out]; omega)]; rfl
      exact ⟨ret_i (by rw [Hj.out,if_pos e]),(hB.alloc (by omega) _).drew⟩

theorem check_any (J : Jb) (a : Option Addr) (n c : Nat) (w : World) (hn : n = J.sh.length) (hm : n ≤ 9223372036854775807) (h : Rg w w.heap.size a J.sh) :
    Calls Tryz.prog 28 #[.agg (jobC J (.slice a n c))] w fun e w' => e = .returned (.int .i64 J.check) ∧ Below w.heap.size w w' := by
  by_cases hj : J.head = 0
  · by_cases h4 : 4 < n
    · have e : J.check = 6 := by unfold Jb.check; rw [if_pos hj,if_pos (by omega)]
      rw [e]
      exact check_many J a n c w hj h4 hm
    · exact check_few J a n c w hj hn (by omega) h
  · have e : J.check = J.head := by unfold Jb.check; rw [if_neg hj]
    rw [e]
    exact check_bad J a n c w hj
end Go.Proofs.YtljefjngmembkaaGreatDoor
/- The contract of reed.windows. -/
namespace Go.Proofs.YtljefjngmembkaaGreatDoor
set_option linter.all false
open Go.RowKit

theorem infoRange : (Tryz.prog.info? 23).map (fun i => (i.zero,i.size,i.bytes)) = some (some (.agg #[.int .i64 0,.int .i64 0]),2,16) := by kernel_rfl

theorem rgCells_snoc : ∀ (l : List R2) (r : R2),rgCells (l ++ [r]) = rgCells l ++ [.int .i64 r.1,.int .i64 r.2]
  | [],r => rfl
  | x :: l,r => by simp [rgCells,rgCells_snoc l r]

theorem rgCells_len : ∀ l : List R2,(rgCells l).length = l.length * 2
  | [] => rfl
  | x :: l => by simp [rgCells,rgCells_len l]; omega
end Go.Proofs.YtljefjngmembkaaGreatDoor
/- Contracts of what strokes do (package reed). -/
namespace Go.Proofs.YtljefjngmembkaaGreatDoor
set_option linter.all false
open Go.RowKit

def zeros : Nat → Array Value := fun n => Array.replicate n (.int .i64 0)

end Go.Proofs.YtljefjngmembkaaGreatDoor
/- The contract of reed.Window. -/
namespace Go.Proofs.YtljefjngmembkaaGreatDoor
set_option linter.all false
open Go.RowKit

/-- All that Check looks at lies within its bounds. -/
theorem rngE_ok {a b lo hi : Int} (h : rngE a b lo hi = 0) : lo ≤ a ∧ a ≤ hi ∧ lo ≤ b ∧ b ≤ hi ∧ a ≤ b := by
  unfold rngE at h
  by_cases h1 : a < lo ∨ hi < a
  · rw [if_pos h1] at h; omega
  · rw [if_neg h1] at h
    by_cases h2 : b < lo ∨ hi < b
    · rw [if_pos h2] at h; omega
    · rw [if_neg h2] at h
      by_cases h3 : b < a
      · rw [if_pos h3] at h; omega
      · omega
theorem numE_ok {a lo hi : Int} (h : numE a lo hi = 0) : lo ≤ a ∧ a ≤ hi := by
  unfold numE at h
  by_cases h1 : a < lo ∨ hi < a
  · rw [if_pos h1] at h; omega
  · omega
theorem firstE_ok : ∀ (l : List Int),firstE l = 0 → ∀ x ∈ l,x = 0
  | [],_,x,h => by simp at h
  | e :: l,h,x,hx => by
    unfold firstE at h
    by_cases h0 : e = 0
    · rw [if_pos h0] at h
      rcases List.mem_cons.1 hx with rfl | hx
      · exact h0
      · exact firstE_ok l h x hx
    · rw [if_neg h0] at h; exact absurd h h0
theorem shE_ok : ∀ (l : List R2),shE l = 0 → ∀ s ∈ l,rngE s.1 s.2 (-60) 60 = 0
  | [],_,s,h => by simp at h
  | e :: l,h,s,hs => by
    unfold shE at h
    by_cases h0 : rngE e.1 e.2 (-60) 60 = 0
    · rw [if_pos h0] at h
      rcases List.mem_cons.1 hs with rfl | hs
      · exact h0
      · exact shE_ok l h s hs
    · rw [if_neg h0] at h; exact absurd h h0

theorem results_row_tmp {P : Program} {fn : Func} {p u : Tmp} {ty : TypeId} {fs : Array Field} (h : fn.results = #[.cell p ty,.tmp u]) (tmps : Array Value) (w : World) (g : Nat) (t : TypeId) (cs : Array Value) (v : Value)
    (hp : tmps.getD p undef = .pointer (some ⟨g,0,none⟩)) (hv : tmps.getD u undef = v) (hg : Bk w g t cs)
    (hu : P.underlying ty = some (.struct fs)) (hi : (P.info? ty).map (·.size) = some cs.size) :
    (results fn tmps).run P w = .ok (.tuple #[.agg cs,v]) w := by
  have hp' : tmps[p]?.getD undef = .pointer (some ⟨g,0,none⟩) := by simpa using hp
  have hv' : tmps[u]?.getD undef = v := by simpa using hv
  simp [results,h,hp',hv',asAddr,run_loadVar_row w g t ty cs (0,0) _ hg hu rfl hi]

end Go.Proofs.YtljefjngmembkaaGreatDoor
/- What a valid job is, in numbers, both ways. -/
namespace Go.Proofs.YtljefjngmembkaaGreatDoor
set_option linter.all false
structure Jb.Full (J : Jb) : Prop where
  p : -60 ≤ J.p1 ∧ J.p1 ≤ J.p2 ∧ J.p2 ≤ 60
  t : 0 ≤ J.t1 ∧ J.t1 ≤ J.t2 ∧ J.t2 ≤ 100
  r : 0 ≤ J.r1 ∧ J.r1 ≤ J.r2 ∧ J.r2 ≤ 100
  u : 0 ≤ J.u1 ∧ J.u1 ≤ J.u2 ∧ J.u2 ≤ 12
  d : 0 ≤ J.d1 ∧ J.d1 ≤ J.d2 ∧ J.d2 ≤ 12
  x : 0 ≤ J.x1 ∧ J.x1 ≤ J.x2 ∧ J.x2 ≤ 12
  y : 0 ≤ J.y1 ∧ J.y1 ≤ J.y2 ∧ J.y2 ≤ 12
  le : 0 ≤ J.le ∧ J.le ≤ 100
  wi : 0 ≤ J.wi ∧ J.wi ≤ 60
  me : 0 ≤ J.me ∧ J.me ≤ 6
  len : J.sh.length ≤ 4
  sh : ∀ s ∈ J.sh,-60 ≤ s.1 ∧ s.1 ≤ s.2 ∧ s.2 ≤ 60
theorem rngE_mk {a b lo hi : Int} (h : lo ≤ a ∧ a ≤ b ∧ b ≤ hi) : rngE a b lo hi = 0 := by
  unfold rngE
  rw [if_neg (by omega),if_neg (by omega),if_neg (by omega)]
theorem numE_mk {a lo hi : Int} (h : lo ≤ a ∧ a ≤ hi) : numE a lo hi = 0 := by
  unfold numE
  rw [if_neg (by omega)]
theorem shE_mk : ∀ (l : List R2),(∀ s ∈ l,-60 ≤ s.1 ∧ s.1 ≤ s.2 ∧ s.2 ≤ 60) → shE l = 0
  | [],_ => rfl
  | e :: l,h => by
    unfold shE
    rw [if_pos (rngE_mk (h e List.mem_cons_self))]
    exact shE_mk l fun x hx => h x (List.mem_cons_of_mem _ hx)
theorem check_full {J : Jb} (h : J.check = 0) : J.Full := by
  unfold Jb.check at h
  by_cases h0 : J.head = 0
  · rw [if_pos h0] at h
    by_cases h1 : 4 < J.sh.length
    · rw [if_pos h1] at h; omega
    · rw [if_neg h1] at h
      by_cases h2 : shE J.sh = 0
      · rw [if_pos h2] at h
        have a := firstE_ok _ h0
        have b := firstE_ok _ h
        have s := shE_ok _ h2
        have a1 := rngE_ok (a _ (by simp : rngE J.p1 J.p2 (-60) 60 ∈ _))
        have a2 := rngE_ok (a _ (by simp : rngE J.t1 J.t2 0 100 ∈ _))
        have a3 := rngE_ok (a _ (by simp : rngE J.r1 J.r2 0 100 ∈ _))
        have a4 := rngE_ok (a _ (by simp : rngE J.u1 J.u2 0 12 ∈ _))
        have a5 := rngE_ok (a _ (by simp : rngE J.d1 J.d2 0 12 ∈ _))
        have a6 := rngE_ok (a _ (by simp : rngE J.x1 J.x2 0 12 ∈ _))
        have a7 := rngE_ok (a _ (by simp : rngE J.y1 J.y2 0 12 ∈ _))
        have a8 := numE_ok (a _ (by simp : numE J.le 0 100 ∈ _))
        have b1 := numE_ok (b _ (by simp : numE J.wi 0 60 ∈ _))
        have b2 := numE_ok (b _ (by simp : numE J.me 0 6 ∈ _))
        refine ⟨by omega,by omega,by omega,by omega,by omega,by omega,by omega,a8,b1,b2,by omega,fun q hq => ?_⟩
        have := rngE_ok (s q hq)
        omega
      · rw [if_neg h2] at h; exact absurd h h2
  · rw [if_neg h0] at h; exact absurd h h0
theorem Jb.Full.check {J : Jb} (h : J.Full) : J.check = 0 := by
  unfold Jb.check
  have h0 : J.head = 0 := by
    unfold Jb.head
    rw [rngE_mk h.p,rngE_mk h.t,rngE_mk h.r,rngE_mk h.u,rngE_mk h.d,rngE_mk h.x,rngE_mk h.y,numE_mk h.le]
    rfl
  rw [if_pos h0,if_neg (by have := h.len; omega),if_pos (shE_mk _ h.sh),numE_mk h.wi,numE_mk h.me]
  rfl
end Go.Proofs.YtljefjngmembkaaGreatDoor
/- Jobs as texts: as they are written, as they are read, both ways. -/
namespace Go.Proofs.YtljefjngmembkaaGreatDoor
set_option linter.all false
open Go.Tx Go.Lib
def tongueW : List UInt8 := [116,111,110,103,117,101]
def fileW : List UInt8 := [102,105,108,101]
def shiftW : List UInt8 := [115,104,105,102,116]
def passW : List UInt8 := [112,97,115,115]
/-- A line of these parts. -/
def lineT (ps : List (List UInt8)) : List UInt8 := join ps [32] ++ [10]
def shT (sh : List R2) : List UInt8 := (sh.map fun s => lineT [shiftW,spanT 58 s]).flatten
/-- A job as it is written. -/
def textJ (J : Jb) : List UInt8 :=
  lineT [tongueW,spanT 58 (J.p1,J.p2),spanT 58 (J.t1,J.t2),spanT 58 (J.r1,J.r2)] ++
  (lineT [fileW,spanT 58 (J.u1,J.u2),spanT 58 (J.d1,J.d2),spanT 58 (J.x1,J.x2),spanT 58 (J.y1,J.y2),itoa J.le] ++
  (shT J.sh ++ lineT [passW,itoa J.wi,itoa J.me]))
/-- The parts behind a line's word: so many ranges, then numbers. -/
def rdParts : Nat → List (List UInt8) → Option (List R2 × List Int)
  | _,[] => some ([],[])
  | r + 1,p :: ps => match rdS 58 (-999) 999 p with
    | none => none
    | some s => (rdParts r ps).map fun q => (s :: q.1,q.2)
  | 0,p :: ps => match rdN (-999) 999 p with
    | none => none
    | some n => (rdParts 0 ps).map fun q => (q.1,n :: q.2)
/-- A line as it is read. -/
def ap (word : List UInt8) (r n : Nat) (ps : List (List UInt8)) : Option (List R2 × List Int) :=
  if ps.length = 1 + r + n ∧ ps.head? = some word then rdParts r ps.tail else none
def bd (r : R2) : Prop := (-999 ≤ r.1 ∧ r.1 ≤ 999) ∧ -999 ≤ r.2 ∧ r.2 ≤ 999
theorem rdParts_of : ∀ (ss : List R2) (ns : List Int),(∀ s ∈ ss,bd s) → (∀ n ∈ ns,-999 ≤ n ∧ n ≤ 999) → rdParts ss.length (ss.map (spanT 58) ++ ns.map itoa) = some (ss,ns)
  | [],[],_,_ => rfl
  | [],n :: ns,h1,h2 => by
    have hn := h2 n List.mem_cons_self
    have ih := rdParts_of [] ns h1 fun m hm => h2 m (List.mem_cons_of_mem _ hm)
    show rdParts 0 (itoa n :: ns.map itoa) = _
    rw [rdParts,rdN_itoa hn (by omega)]
    have ih' : rdParts 0 (ns.map itoa) = some ([],ns) := ih
    simp only
    rw [ih']
    rfl
  | s :: ss,ns,h1,h2 => by
    have hs := h1 s List.mem_cons_self
    have ih := rdParts_of ss ns (fun m hm => h1 m (List.mem_cons_of_mem _ hm)) h2
    show rdParts (ss.length + 1) (spanT 58 s :: (ss.map (spanT 58) ++ ns.map itoa)) = _
    rw [rdParts,rdS_span (by decide) (by decide) hs.1 hs.2 (by decide) (by decide)]
    simp only
    rw [ih]
    rfl
theorem rdParts_some : ∀ (r : Nat) (ps : List (List UInt8)) (ss : List R2) (ns : List Int),rdParts r ps = some (ss,ns) → r ≤ ps.length → ps = ss.map (spanT 58) ++ ns.map itoa ∧ ss.length = r ∧ (∀ s ∈ ss,bd s) ∧ ∀ n ∈ ns,-999 ≤ n ∧ n ≤ 999
  | 0,[],ss,ns,h,_ => by
    rw [rdParts] at h
    cases h
    exact ⟨rfl,rfl,by simp,by simp⟩
  | r + 1,[],ss,ns,h,hl => by simp at hl
  | r + 1,p :: ps,ss,ns,h,hl => by
    rw [rdParts] at h
    cases hp : rdS 58 (-999) 999 p with
    | none => rw [hp] at h; cases h
    | some s =>
      rw [hp] at h
      simp only at h
      obtain ⟨q,hq,e⟩ := Option.map_eq_some_iff.1 h
      obtain ⟨s2,n2⟩ := q
      cases e
      obtain ⟨h1,h2,h3,h4⟩ := rdParts_some r ps s2 n2 hq (by simpa using hl)
      obtain ⟨k1,k2,k3⟩ := rdS_some hp
      refine ⟨by rw [h1,k1]; rfl,by simp [h2],?_,h4⟩
      intro x hx
      rcases List.mem_cons.1 hx with rfl | hx
      · exact ⟨k2,k3⟩
      · exact h3 x hx
  | 0,p :: ps,ss,ns,h,hl => by
    rw [rdParts] at h
    cases hp : rdN (-999) 999 p with
    | none => rw [hp] at h; cases h
    | some n =>
      rw [hp] at h
      simp only at h
      obtain ⟨q,hq,e⟩ := Option.map_eq_some_iff.1 h
      obtain ⟨s2,n2⟩ := q
      cases e
      obtain ⟨h1,h2,h3,h4⟩ := rdParts_some 0 ps s2 n2 hq (Nat.zero_le _)
      obtain rfl : s2 = [] := List.length_eq_zero_iff.1 h2
      obtain ⟨k1,k2⟩ := rdN_some hp
      refine ⟨by rw [h1,k1]; rfl,rfl,by simp,?_⟩
      intro x hx
      rcases List.mem_cons.1 hx with rfl | hx
      · exact k2
      · exact h4 x hx
theorem ap_of {word : List UInt8} {r n : Nat} {ss : List R2} {ns : List Int} (hr : ss.length = r) (hn : ns.length = n) (h1 : ∀ s ∈ ss,bd s) (h2 : ∀ m ∈ ns,-999 ≤ m ∧ m ≤ 999) : ap word r n (word :: (ss.map (spanT 58) ++ ns.map itoa)) = some (ss,ns) := by
  subst hr hn
  unfold ap
  rw [if_pos ⟨by simp; omega,rfl⟩]
  exact rdParts_of ss ns h1 h2
theorem ap_some {word : List UInt8} {r n : Nat} {ps : List (List UInt8)} {ss : List R2} {ns : List Int} (h : ap word r n ps = some (ss,ns)) : ps = word :: (ss.map (spanT 58) ++ ns.map itoa) ∧ ss.length = r ∧ ns.length = n ∧ (∀ s ∈ ss,bd s) ∧ ∀ m ∈ ns,-999 ≤ m ∧ m ≤ 999 := by
  unfold ap at h
  split at h
  · rename_i hq
    obtain ⟨hl,hh⟩ := hq
    cases ps with
    | nil => cases hh
    | cons p ps =>
      simp only [List.head?_cons,Option.some.injEq] at hh
      subst hh
      simp only [List.length_cons,List.tail_cons] at hl h
      obtain ⟨h1,h2,h3,h4⟩ := rdParts_some r ps ss ns h (by omega)
      refine ⟨by rw [← h1],h2,?_,h3,h4⟩
      rw [h1,List.length_append,List.length_map,List.length_map] at hl
      omega
  · cases h
theorem join_no {c : UInt8} (hc : c ≠ 32) : ∀ (ps : List (List UInt8)),(∀ p ∈ ps,c ∉ p) → c ∉ join ps [32]
  | [],_ => by simp [join_nil]
  | [x],h => by
    rw [join_one]
    exact h x List.mem_cons_self
  | x :: y :: r,h => by
    rw [join_two]
    simp only [List.mem_append,List.mem_cons,not_or]
    exact ⟨h x List.mem_cons_self,hc,join_no hc (y :: r) fun p hp => h p (List.mem_cons_of_mem _ hp)⟩
/-- What a line begins with, as it is read. -/
theorem line_cut {ps : List (List UInt8)} {rest : List UInt8} (h : ∀ p ∈ ps,(10 : UInt8) ∉ p) : cut (lineT ps ++ rest) [10] = (join ps [32],rest,true) := by
  unfold lineT
  rw [List.append_assoc]
  exact cut_at (join_no (by decide) ps h)
theorem line_split {ps : List (List UInt8)} (hne : ps ≠ []) (h : ∀ p ∈ ps,(32 : UInt8) ∉ p) : split (join ps [32]) [32] = ps := split_join ps hne h
theorem line_back {text c rest : List UInt8} {ps : List (List UInt8)} (h1 : cut text [10] = (c,rest,true)) (h2 : split c [32] = ps) : text = lineT ps ++ rest := by
  rw [(cut_some h1).1,split_parts h2]
  unfold lineT
  simp
/-- The parts of a line that is written. -/
def Clean (ps : List (List UInt8)) : Prop := ∀ p ∈ ps,(10 : UInt8) ∉ p ∧ (32 : UInt8) ∉ p
theorem clean_line {word : List UInt8} (hw : (10 : UInt8) ∉ word ∧ (32 : UInt8) ∉ word) (ss : List R2) (ns : List Int) : Clean (word :: (ss.map (spanT 58) ++ ns.map itoa)) := by
  intro p hp
  rcases List.mem_cons.1 hp with rfl | hp
  · exact hw
  · rcases List.mem_append.1 hp with hp | hp
    · obtain ⟨s,_,rfl⟩ := List.mem_map.1 hp
      exact ⟨span_no s (by decide) (by decide) (by decide),span_no s (by decide) (by decide) (by decide)⟩
    · obtain ⟨n,_,rfl⟩ := List.mem_map.1 hp
      exact ⟨itoa_no n (by decide) (by decide),itoa_no n (by decide) (by decide)⟩
/-- A job as it is read: the job so far, and the number of the line that is wrong, or 0. -/
def ps2 : Nat → Jb → List UInt8 → Nat → Jb × Nat
  | 0,J,_,line => (J,line)
  | fuel + 1,J,text,line =>
    let q := cut text [10]
    let parts := split q.1 [32]
    if parts.head? = some shiftW then
      if q.2.2 then match ap shiftW 1 0 parts with
        | some (s :: _,_) => ps2 fuel { J with sh := J.sh ++ [s] } q.2.1 (line + 1)
        | _ => (J,line)
      else (J,line)
    else if q.2.2 then match ap passW 0 2 parts with
      | some (_,a :: b :: _) => if q.2.1 = [] then ({ J with wi := a,me := b },0) else ({ J with wi := a,me := b },line + 1)
      | _ => (J,line)
    else (J,line)
def ps1 (J : Jb) (text : List UInt8) : Jb × Nat :=
  let q := cut text [10]
  if q.2.2 then match ap fileW 4 1 (split q.1 [32]) with
    | some (u :: d :: x :: y :: _,le :: _) => ps2 (q.2.1.length + 1) { J with u1 := u.1,u2 := u.2,d1 := d.1,d2 := d.2,x1 := x.1,x2 := x.2,y1 := y.1,y2 := y.2,le := le } q.2.1 3
    | _ => (J,2)
  else (J,2)
def zeroJb : Jb := ⟨0,0,0,0,0,0,0,0,0,0,0,0,0,0,0,0,0,[]⟩
def parseJ (text : List UInt8) : Jb × Nat :=
  let q := cut text [10]
  if q.2.2 then match ap tongueW 3 0 (split q.1 [32]) with
    | some (p :: t :: r :: _,_) => ps1 { zeroJb with p1 := p.1,p2 := p.2,t1 := t.1,t2 := t.2,r1 := r.1,r2 := r.2 } q.2.1
    | _ => (zeroJb,1)
  else (zeroJb,1)
end Go.Proofs.YtljefjngmembkaaGreatDoor
/- Write: its contract over letters. -/
namespace Go.Proofs.YtljefjngmembkaaGreatDoor
set_option linter.all false
open Go.RowKit
set_option maxHeartbeats 4000000 in
set_option maxRecDepth 100000 in
theorem write_let {J : Jb} {a : Option Addr} {n c : Nat} {w : World} {P1 P2 P3 P4 P5 P6 P7 P8 P9 P10 L1 L2 L3 : ByteArray} {acc : Nat → ByteArray} (hj : J.check = 0) (hn : n = J.sh.length) (hm : n ≤ 100) (h : Rg w w.heap.size a J.sh) (hl : LibW w)
    (H1 : Hid (SpOK J.p1 J.p2 P1)) (H2 : Hid (SpOK J.t1 J.t2 P2)) (H3 : Hid (SpOK J.r1 J.r2 P3)) (HL1 : Hid (LnOK [⟨#[116,111,110,103,117,101]⟩,P1,P2,P3] L1))
    (H4 : Hid (SpOK J.u1 J.u2 P4)) (H5 : Hid (SpOK J.d1 J.d2 P5)) (H6 : Hid (SpOK J.x1 J.x2 P6)) (H7 : Hid (SpOK J.y1 J.y2 P7)) (H8 : Hid (ItOK J.le P8)) (HL2 : Hid (LnOK [⟨#[102,105,108,101]⟩,P4,P5,P6,P7,P8] L2))
    (H9 : Hid (ItOK J.wi P9)) (H10 : Hid (ItOK J.me P10)) (HL3 : Hid (LnOK [⟨#[112,97,115,115]⟩,P9,P10] L3))
    (HZ : Hid (L1.size ≤ 1000000 ∧ L2.size ≤ 1000000 ∧ L3.size ≤ 1000000 ∧ ∀ i,(acc i).size ≤ 1000000)) (H0 : Hid (L1 ++ L2 = acc 0))
    (HA : Hid (∀ i,i < n → ∃ r T U,J.sh[i]? = some r ∧ SpOK r.1 r.2 T ∧ LnOK [⟨#[115,104,105,102,116]⟩,T] U ∧ U.size ≤ 1000000 ∧ acc i ++ U = acc (i + 1))) :
    Calls Tryz.prog 8 #[.agg (jobC J (.slice a n c))] w fun e w' => e = .returned (.tuple #[.string (acc n ++ L3),.int .i64 0]) ∧ Below w.heap.size w w' := by
  have Hn := hidMk hn
  have Hh := hidMk h
  have HLW := hidMk hl
  have HJ := hidMk hj
  have b0 := Bk.new w 30 (jobC J (.slice a n c))
  have hW : Below w.heap.size w (w.alloc (.cells (jobC J (.slice a n c)) 30)) := (Below.refl _ _).alloc (Nat.le_refl _) _
  clear hn h hl hj
  go_enter Tryz.func8,Tryz.ntmps8
  go_wp2_with (refine wpList_load_row rfl 30 _ rfl w.heap.size rfl _ (jobC J (.slice a n c)) _ _ b0 Tryz.underlying30 rfl szJob ?_)
  refine (check_any J a n c _ Hn.out (by omega) (Hh.out.up hW)).mono ?_
  rintro e w1 ⟨he,hb⟩
  rw [HJ.out] at he
  subst he
  have HS := hidMk (⟨hW.trans (hb.mono hW.size),b0.below hb b0.lt⟩ : WS w w1 w.heap.size (jobC J (.slice a n c)))
  clear b0 hW hb
  dsimp only
  go_wp2_with fail
  refine wr4 HLW.out HS.out H1 H2 H3 HL1 ?_
  intro w2 h2
  intros
  have HS2 := hidMk h2
  clear h2
  go_wp2_with fail
  refine wr5 HLW.out HS2.out H4 H5 H6 H7 H8 HL2 ⟨HZ.out.1,HZ.out.2.1⟩ ?_
  intro w3 h3
  intros
  rw [H0.out]
  have HS3 := hidMk h3
  have d15 := h3.2.at_ 15 (.slice a n c) rfl
  clear h3 HS HS2
  have HN0 : Hid (((0 : Nat) : Int) = 0) := hidMk rfl
  go_wp2_with fail
  clear d15
  refine wp_loop (fun a_ wr => ∃ (u2 u3 u4 u6 u7 u8 u9 u10 u11 u12 u13 u14 u15 u16 u17 u18 u19 u20 u21 u22 u23 u24 u25 u26 u27 u28 u29 u30 u31 u32 u33 u34 u35 u36 u37 u38 u39 u40 u41 u42 u43 u44 u45 u46 u47 u48 u49 u50 u51 u55 u56 u57 u58 u59 u60 u61 u62 u63 u64 u65 u66 u67 u68 u69 u70 u71 u72 u73 u74 : Value) (i : Nat),i ≤ n ∧ Hid (WS w wr w.heap.size (jobC J (.slice a n c))) ∧ a_ = ⟨#[(.agg (jobC J (.slice a n c))),(.pointer (some ⟨w.heap.size,0,none⟩)),u2,u3,u4,(.string (acc i)),u6,u7,u8,u9,u10,u11,u12,u13,u14,u15,u16,u17,u18,u19,u20,u21,u22,u23,u24,u25,u26,u27,u28,u29,u30,u31,u32,u33,u34,u35,u36,u37,u38,u39,u40,u41,u42,u43,u44,u45,u46,u47,u48,u49,u50,u51,(.slice a n c),(.int .i64 n),(.int .i64 i),u55,u56,u57,u58,u59,u60,u61,u62,u63,u64,u65,u66,u67,u68,u69,u70,u71,u72,u73,u74],[]⟩) (fun a_ _ => n - (intOf (a_.tmps.getD 54 undef)).toNat) ?_ ?_
  · exact ⟨_,_,_,_,_,_,_,_,_,_,_,_,_,_,_,_,_,_,_,_,_,_,_,_,_,_,_,_,_,_,_,_,_,_,_,_,_,_,_,_,_,_,_,_,_,_,_,_,_,_,_,_,_,_,_,_,_,_,_,_,_,_,_,_,_,_,_,_,_,0,Nat.zero_le _,HS3,rfl⟩
  · intro a_ wr hx
    obtain ⟨u2,hx⟩ := hx
    obtain ⟨u3,hx⟩ := hx
    obtain ⟨u4,hx⟩ := hx
    obtain ⟨u6,hx⟩ := hx
    obtain ⟨u7,hx⟩ := hx
    obtain ⟨u8,hx⟩ := hx
    obtain ⟨u9,hx⟩ := hx
    obtain ⟨u10,hx⟩ := hx
    obtain ⟨u11,hx⟩ := hx
    obtain ⟨u12,hx⟩ := hx
    obtain ⟨u13,hx⟩ := hx
    obtain ⟨u14,hx⟩ := hx
    obtain ⟨u15,hx⟩ := hx
    obtain ⟨u16,hx⟩ := hx
    obtain ⟨u17,hx⟩ := hx
    obtain ⟨u18,hx⟩ := hx
    obtain ⟨u19,hx⟩ := hx
    obtain ⟨u20,hx⟩ := hx
    obtain ⟨u21,hx⟩ := hx
    obtain ⟨u22,hx⟩ := hx
    obtain ⟨u23,hx⟩ := hx
    obtain ⟨u24,hx⟩ := hx
    obtain ⟨u25,hx⟩ := hx
    obtain ⟨u26,hx⟩ := hx
    obtain ⟨u27,hx⟩ := hx
    obtain ⟨u28,hx⟩ := hx
    obtain ⟨u29,hx⟩ := hx
    obtain ⟨u30,hx⟩ := hx
    obtain ⟨u31,hx⟩ := hx
    obtain ⟨u32,hx⟩ := hx
    obtain ⟨u33,hx⟩ := hx
    obtain ⟨u34,hx⟩ := hx
    obtain ⟨u35,hx⟩ := hx
    obtain ⟨u36,hx⟩ := hx
    obtain ⟨u37,hx⟩ := hx
    obtain ⟨u38,hx⟩ := hx
    obtain ⟨u39,hx⟩ := hx
    obtain ⟨u40,hx⟩ := hx
    obtain ⟨u41,hx⟩ := hx
    obtain ⟨u42,hx⟩ := hx
    obtain ⟨u43,hx⟩ := hx
    obtain ⟨u44,hx⟩ := hx
    obtain ⟨u45,hx⟩ := hx
    obtain ⟨u46,hx⟩ := hx
    obtain ⟨u47,hx⟩ := hx
    obtain ⟨u48,hx⟩ := hx
    obtain ⟨u49,hx⟩ := hx
    obtain ⟨u50,hx⟩ := hx
    obtain ⟨u51,hx⟩ := hx
    obtain ⟨u55,hx⟩ := hx
    obtain ⟨u56,hx⟩ := hx
    obtain ⟨u57,hx⟩ := hx
    obtain ⟨u58,hx⟩ := hx
    obtain ⟨u59,hx⟩ := hx
    obtain ⟨u60,hx⟩ := hx
    obtain ⟨u61,hx⟩ := hx
    obtain ⟨u62,hx⟩ := hx
    obtain ⟨u63,hx⟩ := hx
    obtain ⟨u64,hx⟩ := hx
    obtain ⟨u65,hx⟩ := hx
    obtain ⟨u66,hx⟩ := hx
    obtain ⟨u67,hx⟩ := hx
    obtain ⟨u68,hx⟩ := hx
    obtain ⟨u69,hx⟩ := hx
    obtain ⟨u70,hx⟩ := hx
    obtain ⟨u71,hx⟩ := hx
    obtain ⟨u72,hx⟩ := hx
    obtain ⟨u73,hx⟩ := hx
    obtain ⟨u74,hx⟩ := hx
    obtain ⟨i,hi,HSr,ha⟩ := hx
    subst ha
    clear HS3
    have wy : IntKind.i64.wrap ((i : Int) + 1) = (i : Int) + 1 := IntWalk.i64_in _ (by omega)
    have HWY := hidMk wy
    clear wy
    by_cases hlt : i < n
    · obtain ⟨r,T,U,hr,hT,hU,hUz,hA⟩ := HA.out i hlt
      obtain ⟨g,o,rfl,hg,c0,c1⟩ := Hh.out i r hr
      have HT := hidMk hT
      have HU := hidMk hU
      have HAI := hidMk hA
      have c0' := (HSr.out.1.cell (p := ⟨g,o + i * 2,none⟩) hg).trans c0
      have c1' := (HSr.out.1.cell (p := ⟨g,o + i * 2 + 1,none⟩) hg).trans c1
      have hi1 : (i : Int) < (n : Int) := by omega
      obtain ⟨r1,r2⟩ := r
      simp only at c0' c1'
      clear hT hU hA c0 c1 hr
      go_wp2_with fail
      refine (HT.out _ (HLW.out.keep (HSr.out.next (below0 wr _)).1 HLW.out.room)).mono ?_
      rintro e w5 ⟨rfl,hb5⟩
      have HS5 := hidMk ((HSr.out.next (below0 wr _)).next hb5)
      clear hb5 c0' c1'
      dsimp only
      go_wp2_with fail
      refine (HU.out _ _ (Bk.new w5 9 _)).mono ?_
      rintro e w6 ⟨rfl,hb6⟩
      have HS6 := hidMk ((HS5.out.next (below0 w5 _)).next hb6)
      have hz1 := HZ.out.2.2.2 i
      have hz2 : ¬ 9223372036854775807 < (acc i).size + U.size := by omega
      have wy := HWY.out
      clear hb6 HS5 HSr hz1
      dsimp only
      go_wp2_with fail
      have e1 : ((i + 1 : Nat) : Int) = (i : Int) + 1 := by push_cast; rfl
      exact ⟨⟨_,_,_,_,_,_,_,_,_,_,_,_,_,_,_,_,_,_,_,_,_,_,_,_,_,_,_,_,_,_,_,_,_,_,_,_,_,_,_,_,_,_,_,_,_,_,_,_,_,_,_,_,_,_,_,_,_,_,_,_,_,_,_,_,_,_,_,_,_,i + 1,by omega,HS6,by rw [e1,HAI.out]⟩,by simp [intOf]; omega⟩
    · obtain rfl : i = n := by omega
      have hlt' : ¬ (i : Int) < (i : Int) := by omega
      go_wp2_with fail
      refine wr11 HLW.out HSr.out H9 H10 HL3 ⟨HZ.out.2.2.2 _,HZ.out.2.2.1⟩ ?_
      intro w4 h4
      intros
      have HS4 := hidMk h4
      clear h4
      go_wp2_with fail
      refine bodyPost_ret (v := .tuple #[.string (acc i ++ L3),.int .i64 0]) (by simp [results,Tryz.results8,go_sem]) rfl ⟨rfl,HS4.out.1⟩
end Go.Proofs.YtljefjngmembkaaGreatDoor
/- Jobs as texts: what is written is read, and what is read was written. -/
namespace Go.Proofs.YtljefjngmembkaaGreatDoor
set_option linter.all false
open Go.Tx Go.Lib
theorem shT_cons (s : R2) (sh : List R2) : shT (s :: sh) = lineT [shiftW,spanT 58 s] ++ shT sh := by
  unfold shT
  rw [List.map_cons,List.flatten_cons]
theorem lineT_pos (ps : List (List UInt8)) : 1 ≤ (lineT ps).length := by
  unfold lineT
  simp
theorem shT_len : ∀ (sh : List R2),sh.length ≤ (shT sh).length
  | [] => Nat.zero_le _
  | s :: sh => by
    have h := shT_len sh
    have h2 := lineT_pos [shiftW,spanT 58 s]
    rw [shT_cons,List.length_append,List.length_cons]
    omega
theorem shift_clean (s : R2) : Clean [shiftW,spanT 58 s] := clean_line (by decide) [s] []
theorem pass_clean (a b : Int) : Clean [passW,itoa a,itoa b] := clean_line (by decide) [] [a,b]
theorem ap_tongue {a b c : R2} (ha : bd a) (hb : bd b) (hc : bd c) : ap tongueW 3 0 [tongueW,spanT 58 a,spanT 58 b,spanT 58 c] = some ([a,b,c],[]) :=
  ap_of (r := 3) (n := 0) (ss := [a,b,c]) (ns := []) rfl rfl (by intro m hm; simp at hm; rcases hm with rfl | rfl | rfl <;> assumption) (by simp)
theorem ap_file {a b c d : R2} {n : Int} (ha : bd a) (hb : bd b) (hc : bd c) (hd : bd d) (hn : -999 ≤ n ∧ n ≤ 999) : ap fileW 4 1 [fileW,spanT 58 a,spanT 58 b,spanT 58 c,spanT 58 d,itoa n] = some ([a,b,c,d],[n]) :=
  ap_of (r := 4) (n := 1) (ss := [a,b,c,d]) (ns := [n]) rfl rfl (by intro m hm; simp at hm; rcases hm with rfl | rfl | rfl | rfl <;> assumption) (by intro m hm; rw [List.mem_singleton.1 hm]; exact hn)
theorem ap_shift {a : R2} (ha : bd a) : ap shiftW 1 0 [shiftW,spanT 58 a] = some ([a],[]) :=
  ap_of (r := 1) (n := 0) (ss := [a]) (ns := []) rfl rfl (by intro m hm; rw [List.mem_singleton.1 hm]; exact ha) (by simp)
theorem ap_pass {a b : Int} (ha : -999 ≤ a ∧ a ≤ 999) (hb : -999 ≤ b ∧ b ≤ 999) : ap passW 0 2 [passW,itoa a,itoa b] = some ([],[a,b]) :=
  ap_of (r := 0) (n := 2) (ss := []) (ns := [a,b]) rfl rfl (by simp) (by intro m hm; simp at hm; rcases hm with rfl | rfl <;> assumption)
theorem cut_line {ps : List (List UInt8)} (rest : List UInt8) (h : Clean ps) : cut (lineT ps ++ rest) [10] = (join ps [32],rest,true) := line_cut fun p hp => (h p hp).1
theorem cut_last {ps : List (List UInt8)} (h : Clean ps) : cut (lineT ps) [10] = (join ps [32],[],true) := by
  have h := cut_line [] h
  rwa [List.append_nil] at h
theorem split_line {ps : List (List UInt8)} (hne : ps ≠ []) (h : Clean ps) : split (join ps [32]) [32] = ps := line_split hne fun p hp => (h p hp).2
theorem ps2_last {a b : Int} (ha : -999 ≤ a ∧ a ≤ 999) (hb : -999 ≤ b ∧ b ≤ 999) (fuel : Nat) (J : Jb) (line : Nat) : ps2 (fuel + 1) J (lineT [passW,itoa a,itoa b]) line = ({ J with wi := a,me := b },0) := by
  have h1 := cut_last (pass_clean a b)
  have h2 := split_line (List.cons_ne_nil _ _) (pass_clean a b)
  have h3 : ¬ ([passW,itoa a,itoa b] : List (List UInt8)).head? = some shiftW := by rw [List.head?_cons]; decide
  unfold ps2
  simp only [h1,h2,h3,ap_pass ha hb,if_true,if_false]
theorem ps2_more {s : R2} (hs : bd s) (fuel : Nat) (J : Jb) (rest : List UInt8) (line : Nat) : ps2 (fuel + 1) J (lineT [shiftW,spanT 58 s] ++ rest) line = ps2 fuel { J with sh := J.sh ++ [s] } rest (line + 1) := by
  have h1 := cut_line rest (shift_clean s)
  have h2 := split_line (List.cons_ne_nil _ _) (shift_clean s)
  have h3 : ([shiftW,spanT 58 s] : List (List UInt8)).head? = some shiftW := List.head?_cons
  rw [ps2]
  simp only [h1,h2,h3,ap_shift hs,if_true]
theorem ps2_text {a b : Int} (ha : -999 ≤ a ∧ a ≤ 999) (hb : -999 ≤ b ∧ b ≤ 999) : ∀ (sh : List R2) (fuel : Nat) (J : Jb) (line : Nat),sh.length < fuel → (∀ s ∈ sh,bd s) →
    ps2 fuel J (shT sh ++ lineT [passW,itoa a,itoa b]) line = ({ J with sh := J.sh ++ sh,wi := a,me := b },0)
  | [],0,J,line,hf,hs => by simp at hf
  | s :: sh,0,J,line,hf,hs => by simp at hf
  | [],fuel + 1,J,line,hf,hs => by
    rw [show shT [] ++ lineT [passW,itoa a,itoa b] = lineT [passW,itoa a,itoa b] from rfl,ps2_last ha hb,List.append_nil]
  | s :: sh,fuel + 1,J,line,hf,hs => by
    rw [shT_cons,List.append_assoc,ps2_more (hs s List.mem_cons_self),ps2_text ha hb sh fuel _ _ (by simp at hf; omega) fun q hq => hs q (List.mem_cons_of_mem _ hq)]
    simp
theorem file_clean (u d x y : R2) (le : Int) : Clean [fileW,spanT 58 u,spanT 58 d,spanT 58 x,spanT 58 y,itoa le] := clean_line (by decide) [u,d,x,y] [le]
theorem tongue_clean (p t r : R2) : Clean [tongueW,spanT 58 p,spanT 58 t,spanT 58 r] := clean_line (by decide) [p,t,r] []
/-- What is written is read. -/
theorem parse_text {J : Jb} (hF : J.Full) : parseJ (textJ J) = (J,0) := by
  obtain ⟨p,t,r,u,d,x,y,le,wi,me,len,sh⟩ := hF
  have h1 := cut_line (lineT [fileW,spanT 58 (J.u1,J.u2),spanT 58 (J.d1,J.d2),spanT 58 (J.x1,J.x2),spanT 58 (J.y1,J.y2),itoa J.le] ++ (shT J.sh ++ lineT [passW,itoa J.wi,itoa J.me])) (tongue_clean (J.p1,J.p2) (J.t1,J.t2) (J.r1,J.r2))
  have h2 := split_line (List.cons_ne_nil _ _) (tongue_clean (J.p1,J.p2) (J.t1,J.t2) (J.r1,J.r2))
  have h3 := cut_line (shT J.sh ++ lineT [passW,itoa J.wi,itoa J.me]) (file_clean (J.u1,J.u2) (J.d1,J.d2) (J.x1,J.x2) (J.y1,J.y2) J.le)
  have h4 := split_line (List.cons_ne_nil _ _) (file_clean (J.u1,J.u2) (J.d1,J.d2) (J.x1,J.x2) (J.y1,J.y2) J.le)
  have h5 := ap_tongue (a := (J.p1,J.p2)) (b := (J.t1,J.t2)) (c := (J.r1,J.r2)) (by unfold bd; simp only; omega) (by unfold bd; simp only; omega) (by unfold bd; simp only; omega)
  have h6 := ap_file (a := (J.u1,J.u2)) (b := (J.d1,J.d2)) (c := (J.x1,J.x2)) (d := (J.y1,J.y2)) (n := J.le) (by unfold bd; simp only; omega) (by unfold bd; simp only; omega) (by unfold bd; simp only; omega) (by unfold bd; simp only; omega) (by omega)
  unfold parseJ textJ
  simp only [h1,h2,h5,if_true]
  unfold ps1
  simp only [h3,h4,h6,if_true]
  rw [ps2_text (by omega) (by omega) J.sh _ _ _ (by have := shT_len J.sh; rw [List.length_append]; omega) (fun s hs => by have := sh s hs; unfold bd; omega)]
  rfl
theorem ps2_back : ∀ (fuel : Nat) (J0 : Jb) (text : List UInt8) (line : Nat) (J : Jb),0 < line → ps2 fuel J0 text line = (J,0) → ∃ sh,J = { J0 with sh := J0.sh ++ sh,wi := J.wi,me := J.me } ∧ text = shT sh ++ lineT [passW,itoa J.wi,itoa J.me]
  | 0,J0,text,line,J,hl,h => by
    rw [ps2] at h
    cases h
    omega
  | fuel + 1,J0,text,line,J,hl,h => by
    rw [ps2] at h
    obtain ⟨c,rest,e⟩ : ∃ c rest,cut text [10] = (c,rest,(cut text [10]).2.2) := ⟨_,_,rfl⟩
    by_cases he : (cut text [10]).2.2 = true
    · rw [he] at e
      rw [e] at h
      simp only [if_true] at h
      split at h
      · split at h
        · rename_i s ss ns hap
          obtain ⟨k1,k2,k3,k4,k5⟩ := ap_some hap
          obtain rfl : ss = [] := by simpa using k2
          obtain rfl : ns = [] := List.length_eq_zero_iff.1 k3
          obtain ⟨sh,h1,h2⟩ := ps2_back fuel { J0 with sh := J0.sh ++ [s] } rest (line + 1) J (by omega) h
          refine ⟨s :: sh,by rw [h1]; simp,?_⟩
          rw [shT_cons,line_back e k1,h2,List.append_assoc]
          rfl
        · cases h
          omega
      · split at h
        · rename_i ss a b ns hap
          obtain ⟨k1,k2,k3,k4,k5⟩ := ap_some hap
          obtain rfl : ss = [] := List.length_eq_zero_iff.1 k2
          obtain rfl : ns = [] := by simpa using k3
          split at h
          · rename_i hr
            cases h
            refine ⟨[],by simp,?_⟩
            rw [line_back e k1,hr]
            simp [shT]
          · cases h
        · cases h
          omega
    · have he' : (cut text [10]).2.2 = false := by simpa using he
      simp only [he',Bool.false_eq_true,if_false] at h
      split at h <;> (cases h; omega)
/-- What is read was written. -/
theorem parse_back {text : List UInt8} {J : Jb} (h : parseJ text = (J,0)) : text = textJ J := by
  unfold parseJ at h
  obtain ⟨c,rest,e⟩ : ∃ c rest,cut text [10] = (c,rest,(cut text [10]).2.2) := ⟨_,_,rfl⟩
  by_cases he : (cut text [10]).2.2 = true
  · rw [he] at e
    rw [e] at h
    simp only [if_true] at h
    split at h
    · rename_i p t r ss ns hap
      obtain ⟨k1,k2,k3,k4,k5⟩ := ap_some hap
      obtain rfl : ss = [] := by simpa using k2
      obtain rfl : ns = [] := List.length_eq_zero_iff.1 k3
      have ht := line_back e k1
      unfold ps1 at h
      obtain ⟨c2,rest2,e2⟩ : ∃ c2 rest2,cut rest [10] = (c2,rest2,(cut rest [10]).2.2) := ⟨_,_,rfl⟩
      by_cases he2 : (cut rest [10]).2.2 = true
      · rw [he2] at e2
        rw [e2] at h
        simp only [if_true] at h
        split at h
        · rename_i u d x y ss le ns hap2
          obtain ⟨m1,m2,m3,m4,m5⟩ := ap_some hap2
          obtain rfl : ss = [] := by simpa using m2
          obtain rfl : ns = [] := by simpa using m3
          have ht2 := line_back e2 m1
          obtain ⟨sh,h1,h2⟩ := ps2_back _ _ _ _ _ (by decide) h
          rw [ht,ht2,h2,h1]
          rfl
        · cases h
      · have he2' : (cut rest [10]).2.2 = false := by simpa using he2
        simp only [he2',Bool.false_eq_true,if_false] at h
        cases h
    · cases h
  · have he' : (cut text [10]).2.2 = false := by simpa using he
    simp only [he',Bool.false_eq_true,if_false] at h
    cases h
end Go.Proofs.YtljefjngmembkaaGreatDoor
/- Write: what it answers. -/
namespace Go.Proofs.YtljefjngmembkaaGreatDoor
set_option linter.all false
open Go.RowKit
def bt (l : List UInt8) : ByteArray := ⟨l.toArray⟩
theorem bt_cat (x y : List UInt8) : bt x ++ bt y = bt (x ++ y) := by
  apply Go.WideShapes.bytes_inj
  simp [bt]
theorem bt_list (x : List UInt8) : (bt x).data.toList = x := by simp [bt]
theorem bt_size (x : List UInt8) : (bt x).size = x.length := by
  show (bt x).data.size = _
  simp [bt]
theorem dec_len : ∀ (k u : Nat),u < 10 ^ (k + 1) → (Lib.decDigits u).length ≤ k + 1
  | 0,u,h => by
    rw [Lib.decDigits,dif_pos (by simpa using h)]
    simp
  | k + 1,u,h => by
    rw [Lib.decDigits]
    split
    · simp
    · rw [List.length_append]
      have := dec_len k (u / 10) (by rw [Nat.pow_succ] at h; omega)
      simp only [List.length_singleton]
      omega
theorem itoa_len {n : Int} (h : In64 n) : (Lib.itoa n).length ≤ 8 := by
  unfold In64 at h
  unfold Lib.itoa
  split
  · rw [List.length_cons]
    have := dec_len 6 n.natAbs (by show n.natAbs < 10000000; omega)
    have e : (-n).toNat = n.natAbs := by omega
    first | omega | (simp only [e] at *; omega)
  · have := dec_len 6 n.toNat (by show n.toNat < 10000000; omega)
    omega
theorem spOK {a b : Int} (ha : In64 a) (hb : In64 b) : SpOK a b (bt (Tx.spanT 58 (a,b))) := fun w' hl => by
  have h1 := itoa_len ha
  have h2 := itoa_len hb
  have := span_any a b ha hb (bt (Lib.itoa a)) (bt (Lib.itoa b)) rfl rfl (by rw [bt_size,bt_size]; omega) w' hl
  have e : bt (Lib.itoa a) ++ ⟨#[58]⟩ ++ bt (Lib.itoa b) = bt (Tx.spanT 58 (a,b)) := by
    have e1 : (⟨#[58]⟩ : ByteArray) = bt [58] := rfl
    rw [e1,bt_cat,bt_cat]
    unfold Tx.spanT
    simp
  rw [e] at this
  exact this
theorem itOK {a : Int} (ha : In64 a) : ItOK a (bt (Lib.itoa a)) := fun w' hl => itoa_any a ⟨by have := ha.1; omega,by have := ha.2; omega⟩ _ rfl w' hl
theorem span_len {a b : Int} (ha : In64 a) (hb : In64 b) : (Tx.spanT 58 (a,b)).length ≤ 17 := by
  have h1 := itoa_len ha
  have h2 := itoa_len hb
  unfold Tx.spanT
  rw [List.length_append,List.length_cons]
  simp only
  omega
theorem line_eq (ps : List (List UInt8)) : lineB (ps.map bt) = bt (lineT ps) := by
  unfold lineB lineT
  have e : (ps.map bt).map (·.data.toList) = ps := by
    rw [List.map_map]
    conv => rhs; rw [← List.map_id ps]
    exact List.map_congr_left fun x _ => bt_list x
  rw [e]
  exact bt_cat _ [10]
theorem join_len : ∀ (ps : List (List UInt8)) (m : Nat),(∀ p ∈ ps,p.length ≤ m) → (Lib.join ps [32]).length ≤ ps.length * (m + 1)
  | [],m,_ => by simp [Lib.join]
  | [x],m,h => by
    rw [Lib.join_one]
    have := h x List.mem_cons_self
    simp only [List.length_singleton]
    omega
  | x :: y :: r,m,h => by
    rw [Tx.join_two,List.length_append,List.length_cons]
    have h1 := h x List.mem_cons_self
    have h2 := join_len (y :: r) m fun p hp => h p (List.mem_cons_of_mem _ hp)
    have : (x :: y :: r).length * (m + 1) = (y :: r).length * (m + 1) + (m + 1) := by rw [List.length_cons,Nat.succ_mul]
    omega
theorem line_len (ps : List (List UInt8)) (m : Nat) (h : ∀ p ∈ ps,p.length ≤ m) : (lineT ps).length ≤ ps.length * (m + 1) + 1 := by
  unfold lineT
  rw [List.length_append]
  have := join_len ps m h
  simp only [List.length_singleton]
  omega
theorem lnT (ps : List (List UInt8)) (h1 : ps.length ≤ 10) (h : ∀ p ∈ ps,p.length ≤ 20) : LnOK (ps.map bt) (bt (lineT ps)) := by
  rw [← line_eq]
  refine lnOK _ (by rw [List.length_map]; omega) ?_
  have e : (ps.map bt).map (·.data.toList) = ps := by
    rw [List.map_map]
    conv => rhs; rw [← List.map_id ps]
    exact List.map_congr_left fun x _ => bt_list x
  rw [e]
  have := join_len ps 20 h
  have : ps.length * 21 ≤ 10 * 21 := Nat.mul_le_mul_right _ h1
  omega
theorem Jb.Full.in64 {J : Jb} (h : J.Full) : (In64 J.p1 ∧ In64 J.p2 ∧ In64 J.t1 ∧ In64 J.t2 ∧ In64 J.r1 ∧ In64 J.r2) ∧ (In64 J.u1 ∧ In64 J.u2 ∧ In64 J.d1 ∧ In64 J.d2 ∧ In64 J.x1 ∧ In64 J.x2 ∧ In64 J.y1 ∧ In64 J.y2) ∧ In64 J.le ∧ In64 J.wi ∧ In64 J.me := by
  obtain ⟨p,t,r,u,d,x,y,le,wi,me,len,sh⟩ := h
  unfold In64
  omega
theorem shT_max : ∀ (l : List R2),(∀ s ∈ l,In64 s.1 ∧ In64 s.2) → (shT l).length ≤ l.length * 50
  | [],_ => by simp [shT]
  | s :: l,h => by
    have h1 := shT_max l fun x hx => h x (List.mem_cons_of_mem _ hx)
    have h2 := h s List.mem_cons_self
    have h3 := span_len h2.1 h2.2
    have h4 := line_len [shiftW,Tx.spanT 58 s] 17 (by intro p hp; simp only [List.mem_cons,List.not_mem_nil,or_false] at hp; rcases hp with rfl | rfl; exact (by decide); exact h3)
    have e : shT (s :: l) = lineT [shiftW,Tx.spanT 58 s] ++ shT l := rfl
    rw [e,List.length_append,List.length_cons]
    simp only [List.length_cons,List.length_nil] at h4
    omega
theorem shT_app (l m : List R2) : shT (l ++ m) = shT l ++ shT m := by simp [shT]
def lineA (J : Jb) : List UInt8 := lineT [tongueW,Tx.spanT 58 (J.p1,J.p2),Tx.spanT 58 (J.t1,J.t2),Tx.spanT 58 (J.r1,J.r2)]
def lineF (J : Jb) : List UInt8 := lineT [fileW,Tx.spanT 58 (J.u1,J.u2),Tx.spanT 58 (J.d1,J.d2),Tx.spanT 58 (J.x1,J.x2),Tx.spanT 58 (J.y1,J.y2),Lib.itoa J.le]
def lineP (J : Jb) : List UInt8 := lineT [passW,Lib.itoa J.wi,Lib.itoa J.me]
set_option maxRecDepth 100000 in
/-- Write, of a valid job: its text. -/
theorem write_ok (J : Jb) (a : Option Addr) (n c : Nat) (w : World) (hj : J.check = 0) (hn : n = J.sh.length) (h : Rg w w.heap.size a J.sh) (hl : LibW w) :
    Calls Tryz.prog 8 #[.agg (jobC J (.slice a n c))] w fun e w' => e = .returned (.tuple #[.string (bt (textJ J)),.int .i64 0]) ∧ Below w.heap.size w w' := by
  have hF := check_full hj
  obtain ⟨⟨p1,p2,t1,t2,r1,r2⟩,⟨u1,u2,d1,d2,x1,x2,y1,y2⟩,le,wi,me⟩ := hF.in64
  have hsh : ∀ s ∈ J.sh,In64 s.1 ∧ In64 s.2 := fun s hs => by have := hF.sh s hs; unfold In64; omega
  have b1 : ∀ p ∈ [tongueW,Tx.spanT 58 (J.p1,J.p2),Tx.spanT 58 (J.t1,J.t2),Tx.spanT 58 (J.r1,J.r2)],p.length ≤ 20 := by
    have := span_len p1 p2; have := span_len t1 t2; have := span_len r1 r2
    intro p hp
    simp only [List.mem_cons,List.not_mem_nil,or_false] at hp
    rcases hp with rfl | rfl | rfl | rfl
    · exact (by decide)
    all_goals omega
  have b2 : ∀ p ∈ [fileW,Tx.spanT 58 (J.u1,J.u2),Tx.spanT 58 (J.d1,J.d2),Tx.spanT 58 (J.x1,J.x2),Tx.spanT 58 (J.y1,J.y2),Lib.itoa J.le],p.length ≤ 20 := by
    have := span_len u1 u2; have := span_len d1 d2; have := span_len x1 x2; have := span_len y1 y2; have := itoa_len le
    intro p hp
    simp only [List.mem_cons,List.not_mem_nil,or_false] at hp
    rcases hp with rfl | rfl | rfl | rfl | rfl | rfl
    · exact (by decide)
    all_goals omega
  have b3 : ∀ p ∈ [passW,Lib.itoa J.wi,Lib.itoa J.me],p.length ≤ 20 := by
    have := itoa_len wi; have := itoa_len me
    intro p hp
    simp only [List.mem_cons,List.not_mem_nil,or_false] at hp
    rcases hp with rfl | rfl | rfl
    · exact (by decide)
    all_goals omega
  have c1 : (lineA J).length ≤ 1000 := by have := line_len _ 20 b1; simp only [List.length_cons,List.length_nil] at this; unfold lineA; omega
  have c2 : (lineF J).length ≤ 1000 := by have := line_len _ 20 b2; simp only [List.length_cons,List.length_nil] at this; unfold lineF; omega
  have c3 : (lineP J).length ≤ 1000 := by have := line_len _ 20 b3; simp only [List.length_cons,List.length_nil] at this; unfold lineP; omega
  have c4 : ∀ i,(shT (J.sh.take i)).length ≤ 1000 := fun i => by
    have := shT_max (J.sh.take i) fun s hs => hsh s (List.mem_of_mem_take hs)
    have h2 : (J.sh.take i).length ≤ 4 := by rw [List.length_take]; have := hF.len; omega
    omega
  refine (write_let (acc := fun i => bt (lineA J ++ lineF J ++ shT (J.sh.take i))) (L3 := bt (lineP J)) hj hn (by have := hF.len; omega) h hl (spOK p1 p2) (spOK t1 t2) (spOK r1 r2) (lnT _ (by simp) b1) (spOK u1 u2) (spOK d1 d2) (spOK x1 x2) (spOK y1 y2) (itOK le) (lnT _ (by simp) b2) (itOK wi) (itOK me) (lnT _ (by simp) b3) ⟨?_,?_,?_,?_⟩ ?_ ?_).mono ?_
  · rw [bt_size]; show (lineA J).length ≤ _; omega
  · rw [bt_size]; show (lineF J).length ≤ _; omega
  · rw [bt_size]; omega
  · intro i
    simp only [bt_size,List.length_append]
    have := c4 i
    omega
  · show bt (lineA J) ++ bt (lineF J) = bt _
    rw [bt_cat]
    simp [shT]
  · intro i hi
    rw [hn] at hi
    have hm := List.getElem_mem hi
    have hs := hsh _ hm
    refine ⟨J.sh[i],bt (Tx.spanT 58 J.sh[i]),bt (lineT [shiftW,Tx.spanT 58 J.sh[i]]),List.getElem?_eq_getElem hi,spOK hs.1 hs.2,lnT [shiftW,Tx.spanT 58 J.sh[i]] (by simp) ?_,?_,?_⟩
    · have := span_len hs.1 hs.2
      intro p hp
      simp only [List.mem_cons,List.not_mem_nil,or_false] at hp
      rcases hp with rfl | rfl
      · exact (by decide)
      · exact Nat.le_trans this (by decide)
    · rw [bt_size]
      have h3 := span_len hs.1 hs.2
      have := line_len [shiftW,Tx.spanT 58 J.sh[i]] 20 (by
        intro p hp
        simp only [List.mem_cons,List.not_mem_nil,or_false] at hp
        rcases hp with rfl | rfl
        · exact (by decide)
        · exact Nat.le_trans h3 (by decide))
      simp only [List.length_cons,List.length_nil] at this
      omega
    · show bt _ ++ bt _ = bt _
      have e : shT [J.sh[i]] = lineT [shiftW,Tx.spanT 58 J.sh[i]] := by
        unfold shT
        rw [List.map_cons,List.map_nil,List.flatten_cons,List.flatten_nil,List.append_nil]
      rw [bt_cat,List.take_succ_eq_append_getElem hi,shT_app,e]
      simp only [List.append_assoc]
  · rintro e w' ⟨rfl,hb⟩
    refine ⟨?_,hb⟩
    rw [bt_cat,hn,List.take_length]
    have e : lineA J ++ lineF J ++ shT J.sh ++ lineP J = textJ J := by
      unfold textJ lineA lineF lineP
      simp only [List.append_assoc]
    rw [e]
end Go.Proofs.YtljefjngmembkaaGreatDoor
/- Write of a job that is not valid; how the lines are written. -/
namespace Go.Proofs.YtljefjngmembkaaGreatDoor
set_option linter.all false
open Go.RowKit
/-- How the lines are written: word, repeated or not, ranges, numbers, and what takes them. -/
def ruleC (word : ByteArray) (rep : Bool) (r n : Int) (f : Value) : List Value := [.string word,.bool rep,.int .i64 r,.int .i64 n,f]
def rulesC : List Value := ruleC (bt tongueW) false 3 0 (.func (.func 77) #[] #[]) ++ (ruleC (bt fileW) false 4 1 (.func (.func 78) #[] #[]) ++ (ruleC (bt shiftW) true 1 0 (.func (.func 79) #[] #[]) ++ ruleC (bt passW) false 0 2 (.func (.func 80) #[] #[])))
set_option maxHeartbeats 1000000 in
set_option maxRecDepth 100000 in
theorem rules_any (w : World) : Calls Tryz.prog 57 #[] w fun e w' => ∃ g,e = .returned (.slice (some ⟨g,0,none⟩) 4 4) ∧ Bk w' g 116 rulesC.toArray ∧ w.heap.size ≤ g ∧ Below w.heap.size w w' := by
  go_enter Tryz.func57,Tryz.ntmps57
  go_wp2_with fail
  refine bodyPost_ret (v := .slice (some ⟨w.heap.size,0,none⟩) 4 4) (by simp [results,Tryz.results57,go_sem]) rfl ⟨w.heap.size,rfl,Bk.new w _ _,Nat.le_refl _,below0 w _⟩
end Go.Proofs.YtljefjngmembkaaGreatDoor
