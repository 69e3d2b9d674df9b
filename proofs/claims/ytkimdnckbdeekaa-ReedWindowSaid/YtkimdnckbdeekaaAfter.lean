/- The contract of work.after (package reed). -/
import Derived.Test.YtkimdnckbdeekaaChk
namespace Go.Proofs.Ytkimdnckbdeekaa
open Go.RowKit

theorem afterS_snoc (J : Jb) (t : Tg) (l : List Int) (x : Int) : afterS J t (l ++ [x]) = strk J (afterS J t l) x := by simp [afterS]
theorem afterS_in (J : Jb) (hJ : J.In 1000) : ∀ (l : List Int) (t : Tg) (n : Int), t.In n → (afterS J t l).In (n + 12 * l.length)
  | [], t, n, h => by simpa [afterS] using h
  | x :: l, t, n, h => by
    have h1 := afterS_in J hJ l (strk J t x) (n + 12) (strk_in J t x n h hJ)
    have e : afterS J t (x :: l) = afterS J (strk J t x) l := rfl
    rw [e]
    refine h1.mono ?_
    simp only [List.length_cons]
    omega

set_option maxHeartbeats 1000000 in
set_option maxRecDepth 100000 in
theorem after_any (J : Jb) (sa : Option Addr) (sn sc : Nat) (a : Option Addr) (n c : Nat) (l : List Int) (w : World) (h : J.In 200) (hn : n = l.length) (hm : n ≤ 6) (hl : ∀ x ∈ l, x = 1 ∨ x = 2) (hr : Is w w.heap.size a l) :
    Calls Try.prog 38 #[.agg (jobC J (.slice sa sn sc)), .slice a n c] w (AfterEnd J l (.slice sa sn sc) w) := by
  have Hn : Hid (n = l.length) := hn
  clear hn
  have Hh : Hid (Is w w.heap.size a l) := hr
  clear hr
  have HJ : Hid (J.In 200) := h
  clear h
  have Hl : Hid (∀ x ∈ l, x = 1 ∨ x = 2) := hl
  clear hl
  go_enter Try.func38, Try.ntmps38
  go_wp2_with fail
  go_loopw [9] (fun i wr => ∃ (k : Nat) (K : Jb), k ≤ n ∧ i = .int .i64 k ∧ K = J.setTg (afterS J J.tg (l.take k)) ∧ Bk wr w.heap.size 59 (jobC K (.slice sa sn sc)) ∧ Bk wr (w.heap.size + 1) 59 #[.int .i64 0, .int .i64 0, .int .i64 0, .int .i64 0, .int .i64 0, .int .i64 0, .int .i64 0, .int .i64 0, .int .i64 0, .int .i64 0, .int .i64 0, .int .i64 0, .int .i64 0, .int .i64 0, .int .i64 0, .slice none 0 0, .int .i64 0, .int .i64 0] ∧ Below w.heap.size w wr) (fun i _ => n - (intOf i).toNat)
  case atStart =>
    refine ⟨0, J, Nat.zero_le _, rfl, rfl, (Bk.new w _ _).alloc _, ?_, ((Below.refl _ _).alloc (Nat.le_refl _) _).alloc (by simp) _⟩
    have h1 := Bk.new (w.alloc (.cells (jobC J (.slice sa sn sc)) 59)) 59 #[.int .i64 0, .int .i64 0, .int .i64 0, .int .i64 0, .int .i64 0, .int .i64 0, .int .i64 0, .int .i64 0, .int .i64 0, .int .i64 0, .int .i64 0, .int .i64 0, .int .i64 0, .int .i64 0, .int .i64 0, .slice none 0 0, .int .i64 0, .int .i64 0]
    rw [World.size_alloc] at h1
    exact h1
  case round =>
    obtain ⟨k, K, hk, rfl, hK, hj, ho, hB⟩ := hrel
    have HK : Hid (K = J.setTg (afterS J J.tg (l.take k))) := hK
    clear hK
    have hz := hB.size
    have hl1 := hj.lt
    have hl2 := ho.lt
    by_cases hlt : k < n
    · have hkl : k < l.length := by rw [← Hn.out]; exact hlt
      obtain ⟨b, off, rfl, hbl, e0⟩ := Hh.out k l[k] (List.getElem?_eq_getElem hkl)
      replace e0 := (hB.cell (p := ⟨b, off + k, none⟩) hbl).trans e0
      have hbl' : b < wr.heap.size := by omega
      have HKin : Hid (K.In 1000) := by
        show K.In 1000
        have h1 := afterS_in J (HJ.out.mono (by decide)) (l.take k) J.tg 200 HJ.out.tg
        rw [HK.out]
        refine HJ.out.setTg (h1.mono ?_)
        have := List.length_take_le k l
        omega
      go_wp2_with (refine wpList_load_row rfl 59 _ rfl w.heap.size rfl _ (jobC K (.slice sa sn sc)) _ _ hj Try.underlying59 rfl szWork ?_)
      refine (stroked_any K (.slice sa sn sc) _ (Hl.out _ (List.getElem_mem hkl)) _ HKin.out).mono ?_
      rintro e w1 ⟨rfl, hb⟩
      have hz1 := hb.size
      have hj1 := hj.below hb hl1
      have ho1 := ho.below hb hl2
      clear e0
      have d0 := hj1.at_ 0 _ rfl
      have d1 := hj1.at_ 1 _ rfl
      have d2 := hj1.at_ 2 _ rfl
      have d3 := hj1.at_ 3 _ rfl
      have d4 := hj1.at_ 4 _ rfl
      have d5 := hj1.at_ 5 _ rfl
      have f0 := hj1.free 0
      have f1 := hj1.free 1
      have f2 := hj1.free 2
      have f3 := hj1.free 3
      have f4 := hj1.free 4
      have f5 := hj1.free 5
      go_wp2
      go_roundw
      case rel =>
        refine ⟨k + 1, K.setTg (strk K K.tg l[k]), by omega, by go_num, ?_, ((((((hj1.put 0 _).put 1 _).put 2 _).put 3 _).put 4 _).put 5 _), ?_, ?_⟩
        · rw [take_snoc l k hkl, afterS_snoc, HK.out]; rfl
        · iterate 6 (refine Bk.other ?_ (by simp) _)
          exact ho1
        · iterate 6 (refine Below.setCell ?_ (by simp) _)
          exact hB.trans (hb.mono hz)
      case measure => simp [intOf]; omega
    · obtain rfl : k = n := by omega
      go_wp2_with (first | (refine wpList_load_row rfl 59 _ rfl w.heap.size rfl _ (jobC K (.slice sa sn sc)) _ _ hj Try.underlying59 rfl szWork ?_) | (refine wpList_store_row rfl 59 _ _ rfl (w.heap.size + 1) (jobC K (.slice sa sn sc)) rfl rfl _ _ ho szWork rfl (oneJob _ _ _ _) ?_))
      have e : l.take k = l := by rw [Hn.out]; exact List.take_length
      refine bodyPost_ret (v := .agg (jobC K (.slice sa sn sc))) (results_cell_row Try.results38 _ _ _ _ _ _ _ rfl (ho.row _) Try.underlying59 rfl szWork) rfl ⟨by rw [HK.out, e], ?_⟩
      exact below_setRow hB (by simp) _
end Go.Proofs.Ytkimdnckbdeekaa
