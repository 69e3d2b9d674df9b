/- Part 12 of the proof: HearF, After, Filed, Spoil, Pass, PlainF, Via. -/
import Derived.Deep.RegionHeld3
import Derived.Test.YtbndjijlinpkmaaT11
import Derived.Test.YtbndjijlinpkmaaT10
/- The contract of reed.Hear on valid jobs, any reading. -/
namespace Go.Proofs.Ytbndjijlinpkmaa
set_option linter.all false
open Go.RowKit
/-- What Hear answers on a valid job. -/
def hearI (J : Jb) (r : Int) : R2 × Int := if r < J.p1 - J.me ∨ J.p2 + J.me < r then ((0, 0), 9) else (heardR J.p1 J.p2 r J.me, 0)
set_option maxHeartbeats 1000000 in
set_option maxRecDepth 100000 in
theorem hearF_ok (J : Jb) (hc : J.check = 0) (r : Int) (a : Option Addr) (n c : Nat) (w : World) (hn : n = J.sh.length) (hm : n ≤ 9223372036854775807) (h : Rg w w.heap.size a J.sh) :
    Calls Try.prog 14 #[.agg (jobC J (.slice a n c)), .int .i64 r] w fun e w' => e = .returned (.tuple #[.agg #[.int .i64 (hearI J r).1.1, .int .i64 (hearI J r).1.2], .int .i64 (hearI J r).2]) ∧ Below w.heap.size w w' := by
  have Hn : Hid (n = J.sh.length) := hn
  have Hh : Hid (Rg w w.heap.size a J.sh) := h
  have hin := (check_ok hc).inn
  have p1 := hin.p1
  have p2 := hin.p2
  have me := hin.me
  have hcb : (J.check != 0) = false := by simp [hc]
  clear hn h hc hin
  have b0 : Bk ((w.alloc (.cells (jobC J (.slice a n c)) 30)).alloc (.cells #[.int .i64 0, .int .i64 0] 23)) w.heap.size 30 (jobC J (.slice a n c)) := (Bk.new w _ _).alloc _
  have b1 : Bk ((w.alloc (.cells (jobC J (.slice a n c)) 30)).alloc (.cells #[.int .i64 0, .int .i64 0] 23)) (w.heap.size + 1) 23 #[.int .i64 0, .int .i64 0] := Bk.newAt _ _ _ _ (by simp)
  have hW : Below w.heap.size w ((w.alloc (.cells (jobC J (.slice a n c)) 30)).alloc (.cells #[.int .i64 0, .int .i64 0] 23)) := ((Below.refl _ _).alloc (Nat.le_refl _) _).alloc (by simp) _
  by_cases h1 : r < J.p1 - J.me
  · have He : Hid (hearI J r = ((0, 0), 9)) := by show hearI J r = _; unfold hearI; rw [if_pos (.inl h1)]
    go_enter Try.func14, Try.ntmps14
    go_wp2_with (refine wpList_load_row rfl 30 _ rfl w.heap.size rfl _ (jobC J (.slice a n c)) _ _ b0 Try.underlying30 rfl szJob ?_)
    refine (check_any J a n c _ Hn.out hm (Hh.out.up hW)).mono ?_
    rintro e w1 ⟨rfl, hb1⟩
    have hz1 := hb1.size
    simp only [World.size_alloc] at hz1
    have k0 := b0.below hb1 (by simp; omega)
    have k1 := b1.below hb1 (by simp)
    have hB1 : Below w.heap.size w w1 := hW.trans (hb1.mono (by simp; omega))
    clear hb1 b0 b1 hW
    have d0 := k0.at_ 0 _ rfl
    have d1 := k0.at_ 1 _ rfl
    have d17 := k0.at_ 17 _ rfl
    have c0 := k1.at_ 0 _ rfl
    have c1 := k1.at_ 1 _ rfl
    have f0 := k1.free 0
    have f1 := k1.free 1
    go_wp2
    refine bodyPost_ret (results_row_tmp Try.results14 _ _ _ _ _ _ rfl rfl (k1.put2 _ _) Try.underlying23 szRange) rfl ⟨by rw [He.out]; rfl, ?_⟩
    exact (hB1.setCell (by simp) _).setCell (by simp) _
  · by_cases h2 : J.p2 + J.me < r
    · have He : Hid (hearI J r = ((0, 0), 9)) := by show hearI J r = _; unfold hearI; rw [if_pos (.inr h2)]
      go_enter Try.func14, Try.ntmps14
      go_wp2_with (refine wpList_load_row rfl 30 _ rfl w.heap.size rfl _ (jobC J (.slice a n c)) _ _ b0 Try.underlying30 rfl szJob ?_)
      refine (check_any J a n c _ Hn.out hm (Hh.out.up hW)).mono ?_
      rintro e w1 ⟨rfl, hb1⟩
      have hz1 := hb1.size
      simp only [World.size_alloc] at hz1
      have k0 := b0.below hb1 (by simp; omega)
      have k1 := b1.below hb1 (by simp)
      have hB1 : Below w.heap.size w w1 := hW.trans (hb1.mono (by simp; omega))
      clear hb1 b0 b1 hW
      have d0 := k0.at_ 0 _ rfl
      have d1 := k0.at_ 1 _ rfl
      have d17 := k0.at_ 17 _ rfl
      have c0 := k1.at_ 0 _ rfl
      have c1 := k1.at_ 1 _ rfl
      have f0 := k1.free 0
      have f1 := k1.free 1
      go_wp2
      refine bodyPost_ret (results_row_tmp Try.results14 _ _ _ _ _ _ rfl rfl (k1.put2 _ _) Try.underlying23 szRange) rfl ⟨by rw [He.out]; rfl, ?_⟩
      exact (hB1.setCell (by simp) _).setCell (by simp) _
    · have He : Hid (hearI J r = (heardR J.p1 J.p2 r J.me, 0)) := by show hearI J r = _; unfold hearI; rw [if_neg (by omega)]
      go_enter Try.func14, Try.ntmps14
      go_wp2_with (refine wpList_load_row rfl 30 _ rfl w.heap.size rfl _ (jobC J (.slice a n c)) _ _ b0 Try.underlying30 rfl szJob ?_)
      refine (check_any J a n c _ Hn.out hm (Hh.out.up hW)).mono ?_
      rintro e w1 ⟨rfl, hb1⟩
      have hz1 := hb1.size
      simp only [World.size_alloc] at hz1
      have k0 := b0.below hb1 (by simp; omega)
      have k1 := b1.below hb1 (by simp)
      have hB1 : Below w.heap.size w w1 := hW.trans (hb1.mono (by simp; omega))
      clear hb1 b0 b1 hW
      have d0 := k0.at_ 0 _ rfl
      have d1 := k0.at_ 1 _ rfl
      have d17 := k0.at_ 17 _ rfl
      go_wp2_with fail
      refine (heard_any _ _ _ _ _ ⟨by omega, by omega, by omega, by omega⟩).mono ?_
      rintro e w2 ⟨rfl, hb2⟩
      have hz2 := hb2.size
      have k2 := k1.below hb2 (by omega)
      have hB2 : Below w.heap.size w w2 := hB1.trans (hb2.mono (by omega))
      have c0 := k2.at_ 0 _ rfl
      have c1 := k2.at_ 1 _ rfl
      have f0 := k2.free 0
      have f1 := k2.free 1
      clear hb2 k0 k1 hB1
      go_wp2
      refine bodyPost_ret (results_row_tmp Try.results14 _ _ _ _ _ _ rfl rfl (k2.put2 _ _) Try.underlying23 szRange) rfl ⟨by rw [He.out]; rfl, ?_⟩
      exact (hB2.setCell (by simp) _).setCell (by simp) _
end Go.Proofs.Ytbndjijlinpkmaa
/- The contract of work.after (package reed). -/
namespace Go.Proofs.Ytbndjijlinpkmaa
set_option linter.all false
open Go.RowKit

theorem afterS_snoc (J : Jb) (t : Tg) (l : List Int) (x : Int) : afterS J t (l ++ [x]) = strk J (afterS J t l) x := by simp [afterS]
theorem afterS_in (J : Jb) (hJ : J.In 1000) : ∀ (l : List Int) (t : Tg) (n : Int), t.In n → (afterS J t l).In (n + 12 * l.length)
  | [], t, n, h => by simpa [afterS] using h
  | x :: l, t, n, h => by
    have h1 := afterS_in J hJ l (strk J t x) (n + 12) (strk_in J t x n h hJ)
    have e : afterS J t (x :: l) = afterS J (strk J t x) l := rfl
    rw [e]
    refine h1.mono ?_
    simp only [List.length_cons]
    omega

set_option maxHeartbeats 1000000 in
set_option maxRecDepth 100000 in
theorem after_any (J : Jb) (sa : Option Addr) (sn sc : Nat) (a : Option Addr) (n c : Nat) (l : List Int) (w : World) (h : J.In 200) (hn : n = l.length) (hm : n ≤ 6) (hl : ∀ x ∈ l, x = 1 ∨ x = 2) (hr : Is w w.heap.size a l) :
    Calls Try.prog 65 #[.agg (jobC J (.slice sa sn sc)), .slice a n c] w (AfterEnd J l (.slice sa sn sc) w) := by
  have Hn : Hid (n = l.length) := hn
  clear hn
  have Hh : Hid (Is w w.heap.size a l) := hr
  clear hr
  have HJ : Hid (J.In 200) := h
  clear h
  have Hl : Hid (∀ x ∈ l, x = 1 ∨ x = 2) := hl
  clear hl
  go_enter Try.func65, Try.ntmps65
  go_wp2_with fail
  go_loopw [9] (fun i wr => ∃ (k : Nat) (K : Jb), k ≤ n ∧ i = .int .i64 k ∧ K = J.setTg (afterS J J.tg (l.take k)) ∧ Bk wr w.heap.size 85 (jobC K (.slice sa sn sc)) ∧ Bk wr (w.heap.size + 1) 85 #[.int .i64 0, .int .i64 0, .int .i64 0, .int .i64 0, .int .i64 0, .int .i64 0, .int .i64 0, .int .i64 0, .int .i64 0, .int .i64 0, .int .i64 0, .int .i64 0, .int .i64 0, .int .i64 0, .int .i64 0, .slice none 0 0, .int .i64 0, .int .i64 0] ∧ Below w.heap.size w wr) (fun i _ => n - (intOf i).toNat)
  case atStart =>
    refine ⟨0, J, Nat.zero_le _, rfl, rfl, (Bk.new w _ _).alloc _, ?_, ((Below.refl _ _).alloc (Nat.le_refl _) _).alloc (by simp) _⟩
    have h1 := Bk.new (w.alloc (.cells (jobC J (.slice sa sn sc)) 85)) 85 #[.int .i64 0, .int .i64 0, .int .i64 0, .int .i64 0, .int .i64 0, .int .i64 0, .int .i64 0, .int .i64 0, .int .i64 0, .int .i64 0, .int .i64 0, .int .i64 0, .int .i64 0, .int .i64 0, .int .i64 0, .slice none 0 0, .int .i64 0, .int .i64 0]
    rw [World.size_alloc] at h1
    exact h1
  case round =>
    obtain ⟨k, K, hk, rfl, hK, hj, ho, hB⟩ := hrel
    have HK : Hid (K = J.setTg (afterS J J.tg (l.take k))) := hK
    clear hK
    have hz := hB.size
    have hl1 := hj.lt
    have hl2 := ho.lt
    by_cases hlt : k < n
    · have hkl : k < l.length := by rw [← Hn.out]; exact hlt
      obtain ⟨b, off, rfl, hbl, e0⟩ := Hh.out k l[k] (List.getElem?_eq_getElem hkl)
      replace e0 := (hB.cell (p := ⟨b, off + k, none⟩) hbl).trans e0
      have hbl' : b < wr.heap.size := by omega
      have HKin : Hid (K.In 1000) := by
        show K.In 1000
        have h1 := afterS_in J (HJ.out.mono (by decide)) (l.take k) J.tg 200 HJ.out.tg
        rw [HK.out]
        refine HJ.out.setTg (h1.mono ?_)
        have := List.length_take_le k l
        omega
      go_wp2_with (refine wpList_load_row rfl 85 _ rfl w.heap.size rfl _ (jobC K (.slice sa sn sc)) _ _ hj Try.underlying85 rfl szWork ?_)
      refine (stroked_any K (.slice sa sn sc) _ (Hl.out _ (List.getElem_mem hkl)) _ HKin.out).mono ?_
      rintro e w1 ⟨rfl, hb⟩
      have hz1 := hb.size
      have hj1 := hj.below hb hl1
      have ho1 := ho.below hb hl2
      clear e0
      have d0 := hj1.at_ 0 _ rfl
      have d1 := hj1.at_ 1 _ rfl
      have d2 := hj1.at_ 2 _ rfl
      have d3 := hj1.at_ 3 _ rfl
      have d4 := hj1.at_ 4 _ rfl
      have d5 := hj1.at_ 5 _ rfl
      have f0 := hj1.free 0
      have f1 := hj1.free 1
      have f2 := hj1.free 2
      have f3 := hj1.free 3
      have f4 := hj1.free 4
      have f5 := hj1.free 5
      go_wp2
      go_roundw
      case rel =>
        refine ⟨k + 1, K.setTg (strk K K.tg l[k]), by omega, by go_num, ?_, ((((((hj1.put 0 _).put 1 _).put 2 _).put 3 _).put 4 _).put 5 _), ?_, ?_⟩
        · rw [take_snoc l k hkl, afterS_snoc, HK.out]; rfl
        · iterate 6 (refine Bk.other ?_ (by simp) _)
          exact ho1
        · iterate 6 (refine Below.setCell ?_ (by simp) _)
          exact hB.trans (hb.mono hz)
      case measure => simp [intOf]; omega
    · obtain rfl : k = n := by omega
      go_wp2_with (first | (refine wpList_load_row rfl 85 _ rfl w.heap.size rfl _ (jobC K (.slice sa sn sc)) _ _ hj Try.underlying85 rfl szWork ?_) | (refine wpList_store_row rfl 85 _ _ rfl (w.heap.size + 1) (jobC K (.slice sa sn sc)) rfl rfl _ _ ho szWork rfl (oneJob _ _ _ _) ?_))
      have e : l.take k = l := by rw [Hn.out]; exact List.take_length
      refine bodyPost_ret (v := .agg (jobC K (.slice sa sn sc))) (results_cell_row Try.results65 _ _ _ _ _ _ _ rfl (ho.row _) Try.underlying85 rfl szWork) rfl ⟨by rw [HK.out, e], ?_⟩
      exact below_setRow hB (by simp) _
end Go.Proofs.Ytbndjijlinpkmaa
/- Contracts of reed.checkStrokes, reed.filed and reed.After. -/
namespace Go.Proofs.Ytbndjijlinpkmaa
set_option linter.all false
open Go.RowKit

def kindE : List Int → Int
  | [] => 0
  | x :: l => if x = 1 ∨ x = 2 then kindE l else 8
def strokesE (l : List Int) : Int := if 6 < l.length then 6 else kindE l
theorem kindE_ok : ∀ (l : List Int), kindE l = 0 → ∀ x ∈ l, x = 1 ∨ x = 2
  | [], _, x, h => by simp at h
  | y :: l, h, x, hx => by
    unfold kindE at h
    by_cases h0 : y = 1 ∨ y = 2
    · rw [if_pos h0] at h
      rcases List.mem_cons.1 hx with rfl | hx
      · exact h0
      · exact kindE_ok l h x hx
    · rw [if_neg h0] at h; omega

set_option maxHeartbeats 1000000 in
theorem checkStrokes_any (a : Option Addr) (n c : Nat) (l : List Int) (w : World) (hn : n = l.length) (hm : n ≤ 9223372036854775807) (h : Is w w.heap.size a l) :
    Calls Try.prog 74 #[.slice a n c] w fun e w' => e = .returned (.int .i64 (strokesE l)) ∧ w = w' := by
  have Hn : Hid (n = l.length) := hn
  have Hh : Hid (Is w w.heap.size a l) := h
  clear hn h
  by_cases h6 : 6 < n
  · have He : Hid (strokesE l = 6) := by show strokesE l = 6; unfold strokesE; rw [if_pos (by rw [← Hn.out]; exact h6)]
    go_enter Try.func74, Try.ntmps74
    go_wp2
    go_ret
    exact ⟨ret_i (by rw [He.out]), rfl⟩
  · have He : Hid (strokesE l = kindE l) := by show strokesE l = kindE l; unfold strokesE; rw [if_neg (by rw [← Hn.out]; exact h6)]
    go_enter Try.func74, Try.ntmps74
    go_wp2
    go_loop [10] (fun i => ∃ k : Nat, k ≤ n ∧ i = .int .i64 k ∧ Hid (kindE l = kindE (l.drop k))) (fun i => n - (intOf i).toNat)
    case atStart => exact ⟨0, Nat.zero_le _, rfl, hidMk rfl⟩
    case round =>
      obtain ⟨k, hk, rfl, Hf⟩ := hrel
      by_cases hlt : k < n
      · have hkl : k < l.length := by rw [← Hn.out]; exact hlt
        obtain ⟨b, off, rfl, hbl, e0⟩ := Hh.out k l[k] (List.getElem?_eq_getElem hkl)
        obtain ⟨x, Hx⟩ : ∃ x, Hid (x = l[k]) := ⟨_, hidMk rfl⟩
        rw [← Hx.out] at e0
        have Hd : Hid (l.drop k = x :: l.drop (k + 1)) := by show _ = _; rw [Hx.out]; exact List.drop_eq_getElem_cons hkl
        by_cases h1 : x = 1
        · have h1b : (x == 1) = true := by simp [h1]
          have Hi : Hid (x = 1 ∨ x = 2) := .inl h1
          clear h1
          go_wp2
          go_round
          case rel => exact ⟨k + 1, by omega, by go_num, hidMk (by rw [Hf.out, Hd.out, kindE, if_pos Hi.out])⟩
          case measure => simp [intOf]; omega
        · have h1b : (x == 1) = false := by simp [h1]
          by_cases h2 : x = 2
          · have h2b : (x == 2) = true := by simp [h2]
            have Hi : Hid (x = 1 ∨ x = 2) := .inr h2
            clear h1 h2
            go_wp2
            go_round
            case rel => exact ⟨k + 1, by omega, by go_num, hidMk (by rw [Hf.out, Hd.out, kindE, if_pos Hi.out])⟩
            case measure => simp [intOf]; omega
          · have h2b : (x == 2) = false := by simp [h2]
            have Hi : Hid (¬ (x = 1 ∨ x = 2)) := by show ¬ _; omega
            clear h1 h2
            go_wp2
            go_ret
            exact ⟨ret_i (by rw [He.out, Hf.out, Hd.out, kindE, if_neg Hi.out]), rfl⟩
      · obtain rfl : k = n := by omega
        go_wp2
        go_ret
        exact ⟨ret_i (by rw [He.out, Hf.out, List.drop_of_length_le (by rw [← Hn.out]; omega)]; rfl), rfl⟩

/-- The error of a job and strokes. -/
def filedE (J : Jb) (l : List Int) : Int := if J.check = 0 then strokesE l else J.check
def zeroJ : Jb := ⟨0, 0, 0, 0, 0, 0, 0, 0, 0, 0, 0, 0, 0, 0, 0, 0, 0, []⟩
/-- What 'filed' hands back: the work after the strokes, or none. -/
def FiledEnd (J : Jb) (l : List Int) (a : Option Addr) (n c : Nat) (w : World) (e : Ending) (w' : World) : Prop :=
  (if filedE J l = 0 then e = .returned (.tuple #[.agg (jobC (J.setTg (afterS J J.tg l)) (.slice a n c)), .int .i64 0])
    else e = .returned (.tuple #[.agg (jobC zeroJ (.slice none 0 0)), .int .i64 (filedE J l)])) ∧ Below w.heap.size w w'

theorem filed_first (J : Jb) (l : List Int) : firstE [J.check, strokesE l] = filedE J l := by
  unfold filedE firstE firstE firstE
  by_cases h : J.check = 0
  · rw [if_pos h, if_pos h]
    by_cases h2 : strokesE l = 0
    · rw [if_pos h2, h2]
    · rw [if_neg h2]
  · rw [if_neg h, if_neg h]

set_option maxHeartbeats 1000000 in
set_option maxRecDepth 100000 in
theorem filed_any (J : Jb) (a : Option Addr) (n c : Nat) (b : Option Addr) (m d : Nat) (l : List Int) (w : World) (hn : n = J.sh.length) (hm : n ≤ 9223372036854775807) (h : Rg w w.heap.size a J.sh)
    (hmn : m = l.length) (hmm : m ≤ 9223372036854775807) (hl : Is w w.heap.size b l) :
    Calls Try.prog 56 #[.agg (jobC J (.slice a n c)), .slice b m d] w (FiledEnd J l a n c w) := by
  have Hn : Hid (n = J.sh.length) := hn
  have Hh : Hid (Rg w w.heap.size a J.sh) := h
  have Hm : Hid (m = l.length) := hmn
  have Hl : Hid (Is w w.heap.size b l) := hl
  clear hn h hmn hl
  have b0 : Bk ((w.alloc (.cells (jobC J (.slice a n c)) 30)).alloc (.cells #[.int .i64 0, .int .i64 0, .int .i64 0, .int .i64 0, .int .i64 0, .int .i64 0, .int .i64 0, .int .i64 0, .int .i64 0, .int .i64 0, .int .i64 0, .int .i64 0, .int .i64 0, .int .i64 0, .int .i64 0, .slice none 0 0, .int .i64 0, .int .i64 0] 85)) w.heap.size 30 (jobC J (.slice a n c)) := (Bk.new w _ _).alloc _
  have b1 : Bk ((w.alloc (.cells (jobC J (.slice a n c)) 30)).alloc (.cells #[.int .i64 0, .int .i64 0, .int .i64 0, .int .i64 0, .int .i64 0, .int .i64 0, .int .i64 0, .int .i64 0, .int .i64 0, .int .i64 0, .int .i64 0, .int .i64 0, .int .i64 0, .int .i64 0, .int .i64 0, .slice none 0 0, .int .i64 0, .int .i64 0] 85)) (w.heap.size + 1) 85 #[.int .i64 0, .int .i64 0, .int .i64 0, .int .i64 0, .int .i64 0, .int .i64 0, .int .i64 0, .int .i64 0, .int .i64 0, .int .i64 0, .int .i64 0, .int .i64 0, .int .i64 0, .int .i64 0, .int .i64 0, .slice none 0 0, .int .i64 0, .int .i64 0] := Bk.newAt _ _ _ _ (by simp)
  have hW : Below w.heap.size w ((w.alloc (.cells (jobC J (.slice a n c)) 30)).alloc (.cells #[.int .i64 0, .int .i64 0, .int .i64 0, .int .i64 0, .int .i64 0, .int .i64 0, .int .i64 0, .int .i64 0, .int .i64 0, .int .i64 0, .int .i64 0, .int .i64 0, .int .i64 0, .int .i64 0, .int .i64 0, .slice none 0 0, .int .i64 0, .int .i64 0] 85)) := ((Below.refl _ _).alloc (Nat.le_refl _) _).alloc (by simp) _
  by_cases hc : filedE J l = 0
  · have hcb : (firstE [J.check, strokesE l] != 0) = false := by rw [filed_first]; simp [hc]
    have Hc := hidMk hc
    have hc0 : J.check = 0 := by
      by_cases h0 : J.check = 0
      · exact h0
      · unfold filedE at hc; rw [if_neg h0] at hc; exact absurd hc h0
    have hs0 : strokesE l = 0 := by unfold filedE at hc; rw [if_pos hc0] at hc; exact hc
    have HJ := hidMk ((check_ok hc0).inn.mono (by decide : (100 : Int) ≤ 200))
    have Hs := hidMk hs0
    have h6 : m ≤ 6 := by
      unfold strokesE at hs0
      rw [Hm.out]
      by_cases h6 : 6 < l.length
      · rw [if_pos h6] at hs0; omega
      · omega
    have Hk : Hid (∀ x ∈ l, x = 1 ∨ x = 2) := by
      show ∀ x ∈ l, x = 1 ∨ x = 2
      unfold strokesE at hs0
      by_cases h6 : 6 < l.length
      · rw [if_pos h6] at hs0; omega
      · rw [if_neg h6] at hs0; exact kindE_ok l hs0
    clear hc hc0 hs0
    go_enter Try.func56, Try.ntmps56
    go_wp2_with (refine wpList_load_row rfl 30 _ rfl w.heap.size rfl _ (jobC J (.slice a n c)) _ _ b0 Try.underlying30 rfl szJob ?_)
    refine (check_any J a n c _ Hn.out hm (Hh.out.up hW)).mono ?_
    rintro e w1 ⟨rfl, hb1⟩
    have hz1 := hb1.size
    simp only [World.size_alloc] at hz1
    have k0 := b0.below hb1 (by simp; omega)
    have k1 := b1.below hb1 (by simp)
    have hB1 : Below w.heap.size w w1 := hW.trans (hb1.mono (by simp; omega))
    clear hb1 b0 b1 hW
    go_wp2_with (first | (go_at_call 74; refine (checkStrokes_any _ _ _ l _ Hm.out hmm (Hl.out.up hB1)).mono ?_; rintro e w2 ⟨rfl, rfl⟩) | (go_at_call 50; refine (first_any _ _ _ [J.check, strokesE l] _ rfl (by simp) (Is.of_bk _ (Bk.new _ _ _) (by simp))).mono ?_; rintro e w2 ⟨rfl, rfl⟩) | (refine wpList_load_row rfl 30 _ rfl w.heap.size rfl _ (jobC J (.slice a n c)) _ _ (k0.alloc _) Try.underlying30 rfl szJob ?_))
    refine (after_any J a n c b m d l _ HJ.out Hm.out h6 Hk.out (Hl.out.up (hB1.alloc (by omega) _))).mono ?_
    rintro e w3 ⟨rfl, hb3⟩
    have hz3 := hb3.size
    simp only [World.size_alloc] at hz3
    have q1 := (k1.alloc _).below hb3 (by simp; omega)
    have hB3 : Below w.heap.size w w3 := (hB1.alloc (by omega) _).trans (hb3.mono (by simp; omega))
    clear hb3 k0 k1 hB1
    go_wp2_with (refine wpList_store_row rfl 85 _ _ rfl (w.heap.size + 1) (jobC (J.setTg (afterS J J.tg l)) (.slice a n c)) rfl rfl _ _ q1 szWork rfl (oneJob _ _ _ _) ?_)
    refine bodyPost_ret (results_row_tmp Try.results56 _ _ _ _ _ _ rfl rfl (q1.row _) Try.underlying85 szWork) rfl ⟨?_, below_setRow hB3 (by simp) _⟩
    rw [if_pos Hc.out]
    rfl
  · have hcb : (firstE [J.check, strokesE l] != 0) = true := by rw [filed_first]; simpa using hc
    have Hc := hidMk hc
    clear hc
    go_enter Try.func56, Try.ntmps56
    go_wp2_with (refine wpList_load_row rfl 30 _ rfl w.heap.size rfl _ (jobC J (.slice a n c)) _ _ b0 Try.underlying30 rfl szJob ?_)
    refine (check_any J a n c _ Hn.out hm (Hh.out.up hW)).mono ?_
    rintro e w1 ⟨rfl, hb1⟩
    have hz1 := hb1.size
    simp only [World.size_alloc] at hz1
    have k0 := b0.below hb1 (by simp; omega)
    have k1 := b1.below hb1 (by simp)
    have hB1 : Below w.heap.size w w1 := hW.trans (hb1.mono (by simp; omega))
    clear hb1 b0 b1 hW
    have q1 := k1.alloc (.cells #[.int .i64 J.check, .int .i64 (strokesE l)] 39)
    go_wp2_with (first | (go_at_call 74; refine (checkStrokes_any _ _ _ l _ Hm.out hmm (Hl.out.up hB1)).mono ?_; rintro e w2 ⟨rfl, rfl⟩) | (go_at_call 50; refine (first_any _ _ _ [J.check, strokesE l] _ rfl (by simp) (Is.of_bk _ (Bk.new _ _ _) (by simp))).mono ?_; rintro e w2 ⟨rfl, rfl⟩) | (refine wpList_store_row rfl 85 _ _ rfl (w.heap.size + 1) (jobC zeroJ (.slice none 0 0)) rfl rfl _ _ q1 szWork rfl (oneJob _ _ _ _) ?_))
    refine bodyPost_ret (results_row_tmp Try.results56 _ _ _ _ _ _ rfl rfl (q1.row _) Try.underlying85 szWork) rfl ⟨?_, below_setRow (hB1.alloc (by omega) _) (by simp) _⟩
    rw [if_neg Hc.out, ← filed_first]
    rfl

/-- What After answers. -/
def AfterAns (J : Jb) (l : List Int) (w : World) (e : Ending) (w' : World) : Prop :=
  (if filedE J l = 0 then e = .returned (.tuple #[.agg (tonC (afterS J J.tg l)), .int .i64 0])
    else e = .returned (.tuple #[.agg (tonC zeroJ.tg), .int .i64 (filedE J l)])) ∧ Below w.heap.size w w'
end Go.Proofs.Ytbndjijlinpkmaa
/- The contract of work.spoiled (package reed). -/
namespace Go.Proofs.Ytbndjijlinpkmaa
set_option linter.all false
open Go.RowKit

set_option maxHeartbeats 1000000 in
theorem spoiled_any (J : Jb) (s : Value) (w : World) :
    Calls Try.prog 61 #[.agg (jobC J s)] w fun e w' => e = .returned (.int .i64 (spoilI J.le J.tg)) ∧ w.alloc (.cells (jobC J s) 85) = w' := by
  by_cases h1 : J.t2 < J.le
  · have H : Hid (spoilI J.le J.tg = 1) := by show spoilI J.le J.tg = 1; simp [spoilI, Jb.tg, h1]
    go_enter Try.func61, Try.ntmps61
    go_wp2
    go_ret
    exact ⟨by rw [H.out]; rfl, rfl⟩
  · by_cases h2 : J.r2 < J.le
    · have H : Hid (spoilI J.le J.tg = 1) := by show spoilI J.le J.tg = 1; simp [spoilI, Jb.tg, h2]
      go_enter Try.func61, Try.ntmps61
      go_wp2
      go_ret
      exact ⟨by rw [H.out]; rfl, rfl⟩
    · by_cases h3 : J.le ≤ J.t1
      · by_cases h4 : J.le ≤ J.r1
        · have H : Hid (spoilI J.le J.tg = 2) := by show spoilI J.le J.tg = 2; simp [spoilI, Jb.tg, h1, h2, h3, h4]
          go_enter Try.func61, Try.ntmps61
          go_wp2
          go_ret
          exact ⟨by rw [H.out]; rfl, rfl⟩
        · have H : Hid (spoilI J.le J.tg = 3) := by show spoilI J.le J.tg = 3; simp [spoilI, Jb.tg, h1, h2, h4]
          go_enter Try.func61, Try.ntmps61
          go_wp2
          go_ret
          exact ⟨by rw [H.out]; rfl, rfl⟩
      · have H : Hid (spoilI J.le J.tg = 3) := by show spoilI J.le J.tg = 3; simp [spoilI, Jb.tg, h1, h2, h3]
        go_enter Try.func61, Try.ntmps61
        go_wp2
        go_ret
        exact ⟨by rw [H.out]; rfl, rfl⟩
end Go.Proofs.Ytbndjijlinpkmaa
/- Contracts of reed.passes and work.fine. -/
namespace Go.Proofs.Ytbndjijlinpkmaa
set_option linter.all false
open Go.RowKit

theorem holds_any (a b c d : Int) (w : World) :
    Calls Try.prog 72 #[.agg #[.int .i64 a, .int .i64 b], .agg #[.int .i64 c, .int .i64 d]] w fun e w' => e = .returned (.bool (decide (a ≤ c ∧ d ≤ b))) ∧ (w.alloc (.cells #[.int .i64 a, .int .i64 b] 23)).alloc (.cells #[.int .i64 c, .int .i64 d] 23) = w' := by
  by_cases h : a ≤ c ∧ d ≤ b
  · rw [decide_eq_true h]; exact holds_yes a b c d h w
  · rw [decide_eq_false h]; exact holds_no a b c d h w

set_option maxHeartbeats 1000000 in
set_option maxRecDepth 100000 in
theorem passes_any (J : Jb) (a : Option Addr) (n c : Nat) (w : World) (hJ : J.In 1000) (hn : n = J.sh.length) (h : Rg w w.heap.size a J.sh) :
    Calls Try.prog 45 #[.agg (jobC J (.slice a n c))] w fun e w' => e = .returned (.int .i64 (passI J.wi J.sh J.p1 J.p2)) ∧ Below w.heap.size w w' := by
  have HJ : Hid (J.In 1000) := hJ
  have Hn : Hid (n = J.sh.length) := hn
  have Hh : Hid (Rg w w.heap.size a J.sh) := h
  clear hJ hn h
  have b0 : Bk (w.alloc (.cells (jobC J (.slice a n c)) 30)) w.heap.size 30 (jobC J (.slice a n c)) := Bk.new w _ _
  by_cases h1 : (win J.wi J.sh).1 ≤ J.p1 ∧ J.p2 ≤ (win J.wi J.sh).2
  · have He : Hid (passI J.wi J.sh J.p1 J.p2 = 1) := by show passI J.wi J.sh J.p1 J.p2 = 1; unfold passI; rw [if_pos h1]
    have hd : decide ((win J.wi J.sh).1 ≤ J.p1 ∧ J.p2 ≤ (win J.wi J.sh).2) = true := decide_eq_true h1
    clear h1
    go_enter Try.func45, Try.ntmps45
    go_wp2_with (refine wpList_load_row rfl 30 _ rfl w.heap.size rfl _ (jobC J (.slice a n c)) _ _ b0 Try.underlying30 rfl szJob ?_)
    refine (windows_any J a n c _ HJ.out Hn.out (Hh.out.up ((Below.refl _ _).alloc (Nat.le_refl _) _))).mono ?_
    rintro e w1 ⟨rfl, hb⟩
    have hz := hb.size
    simp only [World.size_alloc] at hz
    have hz' : w.heap.size < w1.heap.size := by omega
    have hz1 : w.heap.size < w1.heap.size + 1 := by omega
    have hz2 : w.heap.size < w1.heap.size + 1 + 1 := by omega
    have hz3 : w.heap.size < w1.heap.size + 1 + 1 + 1 := by omega
    have hz4 : w.heap.size < w1.heap.size + 1 + 1 + 1 + 1 := by omega
    have k0 := b0.below hb (by simp)
    have hB1 : Below w.heap.size w w1 := ((Below.refl _ _).alloc (Nat.le_refl _) _).trans (hb.mono (by simp))
    clear hb b0
    have c0 := k0.at_ 0 _ rfl
    have c1 := k0.at_ 1 _ rfl
    go_wp2_with (go_at_call 72; refine (holds_any _ _ _ _ _).mono ?_; rintro e w2 ⟨rfl, rfl⟩)
    go_ret
    exact ⟨by rw [He.out]; rfl, (((hB1.alloc (by omega) _).alloc (by simp; omega) _).alloc (by simp; omega) _).alloc (by simp; omega) _⟩
  · have hd : decide ((win J.wi J.sh).1 ≤ J.p1 ∧ J.p2 ≤ (win J.wi J.sh).2) = false := decide_eq_false h1
    rcases Bool.eq_false_or_eq_true (decide ((meetL ((pos J.wi J.sh).1, (pos J.wi J.sh).2) [(J.p1, J.p2)]).2 < (meetL ((pos J.wi J.sh).1, (pos J.wi J.sh).2) [(J.p1, J.p2)]).1)) with hv | hv
    · have He : Hid (passI J.wi J.sh J.p1 J.p2 = 2) := by
        show passI J.wi J.sh J.p1 J.p2 = 2
        unfold passI
        rw [if_neg h1]
        have hv' := hv
        simp only [decide_eq_true_eq] at hv'
        have h2 : (meet2 (pos J.wi J.sh) (J.p1, J.p2)).2 < (meet2 (pos J.wi J.sh) (J.p1, J.p2)).1 := hv'
        rw [if_pos h2]
      clear h1
      go_enter Try.func45, Try.ntmps45
      go_wp2_with (refine wpList_load_row rfl 30 _ rfl w.heap.size rfl _ (jobC J (.slice a n c)) _ _ b0 Try.underlying30 rfl szJob ?_)
      refine (windows_any J a n c _ HJ.out Hn.out (Hh.out.up ((Below.refl _ _).alloc (Nat.le_refl _) _))).mono ?_
      rintro e w1 ⟨rfl, hb⟩
      have hz := hb.size
      simp only [World.size_alloc] at hz
      have hz' : w.heap.size < w1.heap.size := by omega
      have hz1 : w.heap.size < w1.heap.size + 1 := by omega
      have hz2 : w.heap.size < w1.heap.size + 1 + 1 := by omega
      have hz3 : w.heap.size < w1.heap.size + 1 + 1 + 1 := by omega
      have hz4 : w.heap.size < w1.heap.size + 1 + 1 + 1 + 1 := by omega
      have k0 := b0.below hb (by simp)
      have hB1 : Below w.heap.size w w1 := ((Below.refl _ _).alloc (Nat.le_refl _) _).trans (hb.mono (by simp))
      clear hb b0
      have c0 := k0.at_ 0 _ rfl
      have c1 := k0.at_ 1 _ rfl
      go_wp2_with (first | (go_at_call 72; refine (holds_any _ _ _ _ _).mono ?_; rintro e w2 ⟨rfl, rfl⟩))
      refine (meet_any _ _ _ _ _ [(J.p1, J.p2)] _ rfl (by simp) ?hrg).mono ?_
      case hrg => exact Rg.of_bk [(J.p1, J.p2)] (Bk.newAt _ _ _ _ (by simp)) (by simp)
      rintro e w3 ⟨rfl, hb3⟩
      go_wp2_with (go_at_call 43; refine (empty_any _ _ _).mono ?_; rintro e w4 ⟨rfl, rfl⟩)
      go_ret
      refine ⟨by rw [He.out]; rfl, ?_⟩
      exact ((((((hB1.alloc (by omega) _).alloc (by simp; omega) _).alloc (by simp; omega) _).alloc (by simp; omega) _).alloc (by simp; omega) _).trans (hb3.mono (by simp; omega))).alloc (by have := hb3.size; simp at this; omega) _
    · have He : Hid (passI J.wi J.sh J.p1 J.p2 = 3) := by
        show passI J.wi J.sh J.p1 J.p2 = 3
        unfold passI
        rw [if_neg h1]
        have hv' := hv
        simp only [decide_eq_false_iff_not] at hv'
        have h2 : ¬ (meet2 (pos J.wi J.sh) (J.p1, J.p2)).2 < (meet2 (pos J.wi J.sh) (J.p1, J.p2)).1 := hv'
        rw [if_neg h2]
      clear h1
      go_enter Try.func45, Try.ntmps45
      go_wp2_with (refine wpList_load_row rfl 30 _ rfl w.heap.size rfl _ (jobC J (.slice a n c)) _ _ b0 Try.underlying30 rfl szJob ?_)
      refine (windows_any J a n c _ HJ.out Hn.out (Hh.out.up ((Below.refl _ _).alloc (Nat.le_refl _) _))).mono ?_
      rintro e w1 ⟨rfl, hb⟩
      have hz := hb.size
      simp only [World.size_alloc] at hz
      have hz' : w.heap.size < w1.heap.size := by omega
      have hz1 : w.heap.size < w1.heap.size + 1 := by omega
      have hz2 : w.heap.size < w1.heap.size + 1 + 1 := by omega
      have hz3 : w.heap.size < w1.heap.size + 1 + 1 + 1 := by omega
      have hz4 : w.heap.size < w1.heap.size + 1 + 1 + 1 + 1 := by omega
      have k0 := b0.below hb (by simp)
      have hB1 : Below w.heap.size w w1 := ((Below.refl _ _).alloc (Nat.le_refl _) _).trans (hb.mono (by simp))
      clear hb b0
      have c0 := k0.at_ 0 _ rfl
      have c1 := k0.at_ 1 _ rfl
      go_wp2_with (first | (go_at_call 72; refine (holds_any _ _ _ _ _).mono ?_; rintro e w2 ⟨rfl, rfl⟩))
      refine (meet_any _ _ _ _ _ [(J.p1, J.p2)] _ rfl (by simp) ?hrg).mono ?_
      case hrg => exact Rg.of_bk [(J.p1, J.p2)] (Bk.newAt _ _ _ _ (by simp)) (by simp)
      rintro e w3 ⟨rfl, hb3⟩
      go_wp2_with (go_at_call 43; refine (empty_any _ _ _).mono ?_; rintro e w4 ⟨rfl, rfl⟩)
      go_ret
      refine ⟨by rw [He.out]; rfl, ?_⟩
      exact ((((((hB1.alloc (by omega) _).alloc (by simp; omega) _).alloc (by simp; omega) _).alloc (by simp; omega) _).alloc (by simp; omega) _).trans (hb3.mono (by simp; omega))).alloc (by have := hb3.size; simp at this; omega) _
end Go.Proofs.Ytbndjijlinpkmaa
/- The contract of reed.Passes on valid jobs. -/
namespace Go.Proofs.Ytbndjijlinpkmaa
set_option linter.all false
open Go.RowKit

set_option maxHeartbeats 1000000 in
set_option maxRecDepth 100000 in
theorem passesF_ok (J : Jb) (hc : J.check = 0) (a : Option Addr) (n c : Nat) (w : World) (hn : n = J.sh.length) (hm : n ≤ 9223372036854775807) (h : Rg w w.heap.size a J.sh) :
    Calls Try.prog 12 #[.agg (jobC J (.slice a n c))] w fun e w' => e = .returned (.tuple #[.int .i64 (passI J.wi J.sh J.p1 J.p2), .int .i64 0]) ∧ Below w.heap.size w w' := by
  have Hn : Hid (n = J.sh.length) := hn
  have Hh : Hid (Rg w w.heap.size a J.sh) := h
  have HJ := hidMk ((check_ok hc).inn.mono (by decide : (100 : Int) ≤ 1000))
  have hcb : (J.check != 0) = false := by simp [hc]
  clear hn h hc
  have b0 : Bk (w.alloc (.cells (jobC J (.slice a n c)) 30)) w.heap.size 30 (jobC J (.slice a n c)) := Bk.new w _ _
  have hW : Below w.heap.size w (w.alloc (.cells (jobC J (.slice a n c)) 30)) := (Below.refl _ _).alloc (Nat.le_refl _) _
  go_enter Try.func12, Try.ntmps12
  go_wp2_with (refine wpList_load_row rfl 30 _ rfl w.heap.size rfl _ (jobC J (.slice a n c)) _ _ b0 Try.underlying30 rfl szJob ?_)
  refine (check_any J a n c _ Hn.out hm (Hh.out.up hW)).mono ?_
  rintro e w1 ⟨rfl, hb1⟩
  have hz1 := hb1.size
  simp only [World.size_alloc] at hz1
  have k0 := b0.below hb1 (by simp)
  have hB1 : Below w.heap.size w w1 := hW.trans (hb1.mono (by simp))
  clear hb1 b0 hW
  go_wp2_with (refine wpList_load_row rfl 30 _ rfl w.heap.size rfl _ (jobC J (.slice a n c)) _ _ k0 Try.underlying30 rfl szJob ?_)
  refine (passes_any J a n c _ HJ.out Hn.out (Hh.out.up hB1)).mono ?_
  rintro e w2 ⟨rfl, hb2⟩
  have hB2 : Below w.heap.size w w2 := hB1.trans (hb2.mono (by omega))
  go_wp2
  refine bodyPost_ret (v := .tuple #[.int .i64 (passI J.wi J.sh J.p1 J.p2), .int .i64 0]) (by simp [results, Try.results12, go_sem]) rfl ⟨rfl, hB2⟩
end Go.Proofs.Ytbndjijlinpkmaa
/- Drawn regions gone through by hand. -/
namespace Go.Proofs.Ytbndjijlinpkmaa
set_option linter.all false
open Go.RowKit

theorem region_via {P : Program} {id : Nat} {ops : Array Oper} {b : Bool} {Q : Exit → Act → World → Prop} {a : Act} {w : World} (R : Act → Exit → Act → World → Prop) (h : (Code.region id ops b).wp P (R a) a w) (hR : ∀ e a' w', R a e a' w' → Q e a' w') : (Code.region id ops b).wp P Q a w :=
  Code.wp_mono hR h
theorem yields_row {P : Program} {ops : Array Oper} {S : World → Prop} {op : Oper} {a : Act} (hw : Region.wanted op (yielded ops a.tmps) = true) (ty : TypeId) (x : Operand) (ho : op.op = .load ty x)
    (g : Nat) (cs : Array Value) (hx : a.eval x = .pointer (some ⟨g, 0, none⟩)) (t : TypeId) (hS : ∀ w, S w → Bk w g t cs) {fs : Array Field} (hu : P.underlying ty = some (.struct fs)) (hi : (P.info? ty).map (·.size) = some cs.size) : YieldsIf P ops S op (.agg cs) a :=
  .inl ⟨hw, fun w hw' => by
    have hg := hS w hw'
    unfold execOp
    simp only [ho, hx, Instr.loadAt, Instr.sureAddr, Sem.run_bind, Sem.run_pure, Result.andThen_ok, run_loadVar_row w g _ ty cs _ _ hg hu rfl hi]⟩
end Go.Proofs.Ytbndjijlinpkmaa
