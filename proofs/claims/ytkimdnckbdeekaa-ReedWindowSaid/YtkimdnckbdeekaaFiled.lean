/- Contracts of reed.checkStrokes, reed.filed and reed.After. -/
import Derived.Test.YtkimdnckbdeekaaWindow
import Derived.Test.YtkimdnckbdeekaaAfter
namespace Go.Proofs.Ytkimdnckbdeekaa
open Go.RowKit

def kindE : List Int → Int
  | [] => 0
  | x :: l => if x = 1 ∨ x = 2 then kindE l else 8
def strokesE (l : List Int) : Int := if 6 < l.length then 6 else kindE l
theorem kindE_ok : ∀ (l : List Int), kindE l = 0 → ∀ x ∈ l, x = 1 ∨ x = 2
  | [], _, x, h => by simp at h
  | y :: l, h, x, hx => by
    unfold kindE at h
    by_cases h0 : y = 1 ∨ y = 2
    · rw [if_pos h0] at h
      rcases List.mem_cons.1 hx with rfl | hx
      · exact h0
      · exact kindE_ok l h x hx
    · rw [if_neg h0] at h; omega

set_option maxHeartbeats 1000000 in
theorem checkStrokes_any (a : Option Addr) (n c : Nat) (l : List Int) (w : World) (hn : n = l.length) (hm : n ≤ 9223372036854775807) (h : Is w w.heap.size a l) :
    Calls Try.prog 37 #[.slice a n c] w fun e w' => e = .returned (.int .i64 (strokesE l)) ∧ w = w' := by
  have Hn : Hid (n = l.length) := hn
  have Hh : Hid (Is w w.heap.size a l) := h
  clear hn h
  by_cases h6 : 6 < n
  · have He : Hid (strokesE l = 6) := by show strokesE l = 6; unfold strokesE; rw [if_pos (by rw [← Hn.out]; exact h6)]
    go_enter Try.func37, Try.ntmps37
    go_wp2
    go_ret
    exact ⟨ret_i (by rw [He.out]), rfl⟩
  · have He : Hid (strokesE l = kindE l) := by show strokesE l = kindE l; unfold strokesE; rw [if_neg (by rw [← Hn.out]; exact h6)]
    go_enter Try.func37, Try.ntmps37
    go_wp2
    go_loop [10] (fun i => ∃ k : Nat, k ≤ n ∧ i = .int .i64 k ∧ Hid (kindE l = kindE (l.drop k))) (fun i => n - (intOf i).toNat)
    case atStart => exact ⟨0, Nat.zero_le _, rfl, hidMk rfl⟩
    case round =>
      obtain ⟨k, hk, rfl, Hf⟩ := hrel
      by_cases hlt : k < n
      · have hkl : k < l.length := by rw [← Hn.out]; exact hlt
        obtain ⟨b, off, rfl, hbl, e0⟩ := Hh.out k l[k] (List.getElem?_eq_getElem hkl)
        obtain ⟨x, Hx⟩ : ∃ x, Hid (x = l[k]) := ⟨_, hidMk rfl⟩
        rw [← Hx.out] at e0
        have Hd : Hid (l.drop k = x :: l.drop (k + 1)) := by show _ = _; rw [Hx.out]; exact List.drop_eq_getElem_cons hkl
        by_cases h1 : x = 1
        · have h1b : (x == 1) = true := by simp [h1]
          have Hi : Hid (x = 1 ∨ x = 2) := .inl h1
          clear h1
          go_wp2
          go_round
          case rel => exact ⟨k + 1, by omega, by go_num, hidMk (by rw [Hf.out, Hd.out, kindE, if_pos Hi.out])⟩
          case measure => simp [intOf]; omega
        · have h1b : (x == 1) = false := by simp [h1]
          by_cases h2 : x = 2
          · have h2b : (x == 2) = true := by simp [h2]
            have Hi : Hid (x = 1 ∨ x = 2) := .inr h2
            clear h1 h2
            go_wp2
            go_round
            case rel => exact ⟨k + 1, by omega, by go_num, hidMk (by rw [Hf.out, Hd.out, kindE, if_pos Hi.out])⟩
            case measure => simp [intOf]; omega
          · have h2b : (x == 2) = false := by simp [h2]
            have Hi : Hid (¬ (x = 1 ∨ x = 2)) := by show ¬ _; omega
            clear h1 h2
            go_wp2
            go_ret
            exact ⟨ret_i (by rw [He.out, Hf.out, Hd.out, kindE, if_neg Hi.out]), rfl⟩
      · obtain rfl : k = n := by omega
        go_wp2
        go_ret
        exact ⟨ret_i (by rw [He.out, Hf.out, List.drop_of_length_le (by rw [← Hn.out]; omega)]; rfl), rfl⟩

/-- The error of a job and strokes. -/
def filedE (J : Jb) (l : List Int) : Int := if J.check = 0 then strokesE l else J.check
def zeroJ : Jb := ⟨0, 0, 0, 0, 0, 0, 0, 0, 0, 0, 0, 0, 0, 0, 0, 0, 0, []⟩
/-- What 'filed' hands back: the work after the strokes, or none. -/
def FiledEnd (J : Jb) (l : List Int) (a : Option Addr) (n c : Nat) (w : World) (e : Ending) (w' : World) : Prop :=
  (if filedE J l = 0 then e = .returned (.tuple #[.agg (jobC (J.setTg (afterS J J.tg l)) (.slice a n c)), .int .i64 0])
    else e = .returned (.tuple #[.agg (jobC zeroJ (.slice none 0 0)), .int .i64 (filedE J l)])) ∧ Below w.heap.size w w'

theorem filed_first (J : Jb) (l : List Int) : firstE [J.check, strokesE l] = filedE J l := by
  unfold filedE firstE firstE firstE
  by_cases h : J.check = 0
  · rw [if_pos h, if_pos h]
    by_cases h2 : strokesE l = 0
    · rw [if_pos h2, h2]
    · rw [if_neg h2]
  · rw [if_neg h, if_neg h]

set_option maxHeartbeats 1000000 in
set_option maxRecDepth 100000 in
theorem filed_any (J : Jb) (a : Option Addr) (n c : Nat) (b : Option Addr) (m d : Nat) (l : List Int) (w : World) (hn : n = J.sh.length) (hm : n ≤ 9223372036854775807) (h : Rg w w.heap.size a J.sh)
    (hmn : m = l.length) (hmm : m ≤ 9223372036854775807) (hl : Is w w.heap.size b l) :
    Calls Try.prog 20 #[.agg (jobC J (.slice a n c)), .slice b m d] w (FiledEnd J l a n c w) := by
  have Hn : Hid (n = J.sh.length) := hn
  have Hh : Hid (Rg w w.heap.size a J.sh) := h
  have Hm : Hid (m = l.length) := hmn
  have Hl : Hid (Is w w.heap.size b l) := hl
  clear hn h hmn hl
  have b0 : Bk ((w.alloc (.cells (jobC J (.slice a n c)) 31)).alloc (.cells #[.int .i64 0, .int .i64 0, .int .i64 0, .int .i64 0, .int .i64 0, .int .i64 0, .int .i64 0, .int .i64 0, .int .i64 0, .int .i64 0, .int .i64 0, .int .i64 0, .int .i64 0, .int .i64 0, .int .i64 0, .slice none 0 0, .int .i64 0, .int .i64 0] 59)) w.heap.size 31 (jobC J (.slice a n c)) := (Bk.new w _ _).alloc _
  have b1 : Bk ((w.alloc (.cells (jobC J (.slice a n c)) 31)).alloc (.cells #[.int .i64 0, .int .i64 0, .int .i64 0, .int .i64 0, .int .i64 0, .int .i64 0, .int .i64 0, .int .i64 0, .int .i64 0, .int .i64 0, .int .i64 0, .int .i64 0, .int .i64 0, .int .i64 0, .int .i64 0, .slice none 0 0, .int .i64 0, .int .i64 0] 59)) (w.heap.size + 1) 59 #[.int .i64 0, .int .i64 0, .int .i64 0, .int .i64 0, .int .i64 0, .int .i64 0, .int .i64 0, .int .i64 0, .int .i64 0, .int .i64 0, .int .i64 0, .int .i64 0, .int .i64 0, .int .i64 0, .int .i64 0, .slice none 0 0, .int .i64 0, .int .i64 0] := Bk.newAt _ _ _ _ (by simp)
  have hW : Below w.heap.size w ((w.alloc (.cells (jobC J (.slice a n c)) 31)).alloc (.cells #[.int .i64 0, .int .i64 0, .int .i64 0, .int .i64 0, .int .i64 0, .int .i64 0, .int .i64 0, .int .i64 0, .int .i64 0, .int .i64 0, .int .i64 0, .int .i64 0, .int .i64 0, .int .i64 0, .int .i64 0, .slice none 0 0, .int .i64 0, .int .i64 0] 59)) := ((Below.refl _ _).alloc (Nat.le_refl _) _).alloc (by simp) _
  by_cases hc : filedE J l = 0
  · have hcb : (firstE [J.check, strokesE l] != 0) = false := by rw [filed_first]; simp [hc]
    have Hc := hidMk hc
    have hc0 : J.check = 0 := by
      by_cases h0 : J.check = 0
      · exact h0
      · unfold filedE at hc; rw [if_neg h0] at hc; exact absurd hc h0
    have hs0 : strokesE l = 0 := by unfold filedE at hc; rw [if_pos hc0] at hc; exact hc
    have HJ := hidMk ((check_ok hc0).inn.mono (by decide : (100 : Int) ≤ 200))
    have Hs := hidMk hs0
    have h6 : m ≤ 6 := by
      unfold strokesE at hs0
      rw [Hm.out]
      by_cases h6 : 6 < l.length
      · rw [if_pos h6] at hs0; omega
      · omega
    have Hk : Hid (∀ x ∈ l, x = 1 ∨ x = 2) := by
      show ∀ x ∈ l, x = 1 ∨ x = 2
      unfold strokesE at hs0
      by_cases h6 : 6 < l.length
      · rw [if_pos h6] at hs0; omega
      · rw [if_neg h6] at hs0; exact kindE_ok l hs0
    clear hc hc0 hs0
    go_enter Try.func20, Try.ntmps20
    go_wp2_with (refine wpList_load_row rfl 31 _ rfl w.heap.size rfl _ (jobC J (.slice a n c)) _ _ b0 Try.underlying31 rfl szJob ?_)
    refine (check_any J a n c _ Hn.out hm (Hh.out.up hW)).mono ?_
    rintro e w1 ⟨rfl, hb1⟩
    have hz1 := hb1.size
    simp only [World.size_alloc] at hz1
    have k0 := b0.below hb1 (by simp; omega)
    have k1 := b1.below hb1 (by simp)
    have hB1 : Below w.heap.size w w1 := hW.trans (hb1.mono (by simp; omega))
    clear hb1 b0 b1 hW
    go_wp2_with (first | (go_at_call 37; refine (checkStrokes_any _ _ _ l _ Hm.out hmm (Hl.out.up hB1)).mono ?_; rintro e w2 ⟨rfl, rfl⟩) | (go_at_call 31; refine (first_any _ _ _ [J.check, strokesE l] _ rfl (by simp) (Is.of_bk _ (Bk.new _ _ _) (by simp))).mono ?_; rintro e w2 ⟨rfl, rfl⟩) | (refine wpList_load_row rfl 31 _ rfl w.heap.size rfl _ (jobC J (.slice a n c)) _ _ (k0.alloc _) Try.underlying31 rfl szJob ?_))
    refine (after_any J a n c b m d l _ HJ.out Hm.out h6 Hk.out (Hl.out.up (hB1.alloc (by omega) _))).mono ?_
    rintro e w3 ⟨rfl, hb3⟩
    have hz3 := hb3.size
    simp only [World.size_alloc] at hz3
    have q1 := (k1.alloc _).below hb3 (by simp; omega)
    have hB3 : Below w.heap.size w w3 := (hB1.alloc (by omega) _).trans (hb3.mono (by simp; omega))
    clear hb3 k0 k1 hB1
    go_wp2_with (refine wpList_store_row rfl 59 _ _ rfl (w.heap.size + 1) (jobC (J.setTg (afterS J J.tg l)) (.slice a n c)) rfl rfl _ _ q1 szWork rfl (oneJob _ _ _ _) ?_)
    refine bodyPost_ret (results_row_tmp Try.results20 _ _ _ _ _ _ rfl rfl (q1.row _) Try.underlying59 szWork) rfl ⟨?_, below_setRow hB3 (by simp) _⟩
    rw [if_pos Hc.out]
    rfl
  · have hcb : (firstE [J.check, strokesE l] != 0) = true := by rw [filed_first]; simpa using hc
    have Hc := hidMk hc
    clear hc
    go_enter Try.func20, Try.ntmps20
    go_wp2_with (refine wpList_load_row rfl 31 _ rfl w.heap.size rfl _ (jobC J (.slice a n c)) _ _ b0 Try.underlying31 rfl szJob ?_)
    refine (check_any J a n c _ Hn.out hm (Hh.out.up hW)).mono ?_
    rintro e w1 ⟨rfl, hb1⟩
    have hz1 := hb1.size
    simp only [World.size_alloc] at hz1
    have k0 := b0.below hb1 (by simp; omega)
    have k1 := b1.below hb1 (by simp)
    have hB1 : Below w.heap.size w w1 := hW.trans (hb1.mono (by simp; omega))
    clear hb1 b0 b1 hW
    have q1 := k1.alloc (.cells #[.int .i64 J.check, .int .i64 (strokesE l)] 35)
    go_wp2_with (first | (go_at_call 37; refine (checkStrokes_any _ _ _ l _ Hm.out hmm (Hl.out.up hB1)).mono ?_; rintro e w2 ⟨rfl, rfl⟩) | (go_at_call 31; refine (first_any _ _ _ [J.check, strokesE l] _ rfl (by simp) (Is.of_bk _ (Bk.new _ _ _) (by simp))).mono ?_; rintro e w2 ⟨rfl, rfl⟩) | (refine wpList_store_row rfl 59 _ _ rfl (w.heap.size + 1) (jobC zeroJ (.slice none 0 0)) rfl rfl _ _ q1 szWork rfl (oneJob _ _ _ _) ?_))
    refine bodyPost_ret (results_row_tmp Try.results20 _ _ _ _ _ _ rfl rfl (q1.row _) Try.underlying59 szWork) rfl ⟨?_, below_setRow (hB1.alloc (by omega) _) (by simp) _⟩
    rw [if_neg Hc.out, ← filed_first]
    rfl

/-- What After answers. -/
def AfterAns (J : Jb) (l : List Int) (w : World) (e : Ending) (w' : World) : Prop :=
  (if filedE J l = 0 then e = .returned (.tuple #[.agg (tonC (afterS J J.tg l)), .int .i64 0])
    else e = .returned (.tuple #[.agg (tonC zeroJ.tg), .int .i64 (filedE J l)])) ∧ Below w.heap.size w w'
end Go.Proofs.Ytkimdnckbdeekaa
