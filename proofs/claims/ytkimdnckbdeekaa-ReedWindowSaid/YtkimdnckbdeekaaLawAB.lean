/- The law ReedWindow, from the contracts of what it calls. -/
import Derived.Test.YtkimdnckbdeekaaLawN
namespace Go.Proofs.Ytkimdnckbdeekaa
set_option linter.all false
open Go.RowKit

set_option maxHeartbeats 2000000 in
set_option maxRecDepth 100000 in
theorem law_any (hjob : ∀ (s : Int) (b : Nat) (t : TypeId) (w : World), Bk w b t #[.int .u64 s] → Calls Try.prog 4 #[.pointer (some ⟨b, 0, none⟩), .int .i64 5, .int .i64 2] w (JobPost b w))
    (htun : ∀ w : World, Calls Try.prog 11 #[] w fun e w' => e = .returned (.bool true) ∧ Below w.heap.size w w')
    (a : Option Addr) (n c : Nat) (l : List Int) (w : World) (hn : n = l.length) (hm : n ≤ 9223372036854775807) (h : Is w w.heap.size a l) :
    Calls Try.prog 3 #[.slice a n c] w fun e w' => e = .returned (.bool true) ∧ Below w.heap.size w w' := by
  have Hjob := hidMk hjob
  have Htun := hidMk htun
  have Hh := hidMk h
  have Hn := hidMk hn
  clear hjob htun h hn
  go_enter Try.func3, Try.ntmps3
  go_wp2_with fail
  refine (newPot_any a n c l _ Hn.out hm Hh.out).mono ?_
  rintro e w1 ⟨s, t, rfl, hb, hB1⟩
  go_wp2_with fail
  refine (Hjob.out s _ t _ hb).mono ?_
  rintro e w2 ⟨J, ja, jn, jc, rfl, hjn, hrg, hck, hchk, ho1, ho2, ho3, ho4, ho5⟩
  have hB2 : Below w.heap.size w w2 := hB1.trans ⟨ho1, ho2, ho3, ho4, fun k hk => ho5 k (Nat.lt_of_lt_of_le hk hB1.size) (Nat.ne_of_lt hk)⟩
  have HB2 := hidMk hB2
  have hz2 := hB2.size
  have Hck := hidMk hck
  have Hrg := hidMk hrg
  have Hchk := hidMk hchk
  have Hjn := hidMk hjn
  have hjm : jn ≤ 9223372036854775807 := by have h4 := (check_ok hck).inn.len; omega
  have hwi := (check_ok hck).inn.wi
  have hwn : windowI J = if (win J.wi J.sh).2 < (win J.wi J.sh).1 then ((0, 0), 11) else (win J.wi J.sh, 0) := by
    unfold windowI
    rw [if_neg (by rw [hck]; decide)]
  clear hB1 hb hck hrg hchk hjn ho1 ho2 ho3 ho4 ho5 hB2
  have k0 : Bk (w2.alloc (.cells (jobC J (.slice ja jn jc)) 31)) w2.heap.size 31 (jobC J (.slice ja jn jc)) := Bk.new w2 _ _
  have hW2 : Below w2.heap.size w2 (w2.alloc (.cells (jobC J (.slice ja jn jc)) 31)) := (Below.refl _ _).alloc (Nat.le_refl _) _
  go_wp2_with (first | (refine wpList_store_row rfl 31 _ _ rfl w2.heap.size (jobC J (.slice ja jn jc)) rfl rfl _ _ (Bk.new _ _ _) szJob rfl (oneJob _ _ _ _) ?_; rw [World.setRow_alloc_new]) | (refine wpList_load_row rfl 31 _ rfl w2.heap.size rfl _ (jobC J (.slice ja jn jc)) _ _ k0 Try.underlying31 rfl szJob ?_))
  refine (window_any J ja jn jc _ Hjn.out hjm (Hrg.out.up hW2)).mono ?_
  rintro e w3 ⟨rfl, hb3⟩
  have hz3 := hb3.size
  simp only [World.size_alloc] at hz3
  have k3 := k0.below hb3 (by simp)
  have hB3 : Below w2.heap.size w2 w3 := hW2.trans (hb3.mono (by simp))
  clear hb3 hW2 k0
  by_cases hem : (win J.wi J.sh).2 < (win J.wi J.sh).1
  · rw [if_pos hem] at hwn
    rw [hwn]
    clear hwn
    have kx : Bk (w3.alloc (.cells #[.int .i64 0, .int .i64 0] 24)) w3.heap.size 24 #[.int .i64 0, .int .i64 0] := Bk.new w3 _ _
    have kj := k3.alloc (.cells #[.int .i64 0, .int .i64 0] 24)
    have hB3' := hB3.alloc (by omega) (.cells #[.int .i64 0, .int .i64 0] 24)
    go_wp2_with fail
    refine (to_any _ _ _).mono ?_
    rintro e w4 ⟨rfl, hb4⟩
    have hz4 := hb4.size
    simp only [World.size_alloc] at hz4
    have x4 := kx.below hb4 (by simp)
    have j4 := kj.below hb4 (by simp; omega)
    have hB4 : Below w2.heap.size w2 w4 := hB3'.trans (hb4.mono (by simp; omega))
    have hd0 := x4.at_ 0 _ rfl
    have hd1 := x4.at_ 1 _ rfl
    have hf0 := x4.free 0
    have hf1 := x4.free 1
    have HX0 := hidMk (x4.put2 (.int .i64 1) (.int .i64 0))
    have HJ0 := hidMk ((j4.other (p := ⟨w3.heap.size, 0, none⟩) (by show w2.heap.size ≠ w3.heap.size; omega) (.int .i64 1)).other (p := ⟨w3.heap.size, 1, none⟩) (by show w2.heap.size ≠ w3.heap.size; omega) (.int .i64 0))
    have HB0 := hidMk ((hB4.setCell (p := ⟨w3.heap.size, 0, none⟩) (by show w2.heap.size ≤ w3.heap.size; omega) (.int .i64 1)).setCell (p := ⟨w3.heap.size, 1, none⟩) (by show w2.heap.size ≤ w3.heap.size; omega) (.int .i64 0))
    clear kx kj hB3' hb4 x4 j4 hB4 k3 hB3
    go_wp2_with fail
    go_loopw [6, 7, 8, 9, 10] (fun i _ _ _ _ wr => ∃ (m q1 q2 : Int), (-20 ≤ m ∧ m ≤ 21) ∧ i = .int .i64 m ∧ Bk wr w2.heap.size 31 (jobC { J with p1 := q1, p2 := q2 } (.slice ja jn jc)) ∧ Bk wr w3.heap.size 24 #[.int .i64 (1), .int .i64 (0)] ∧ Below w2.heap.size w2 wr) (fun i _ _ _ _ _ => (21 - intOf i).toNat)
    case atStart => exact ⟨-20, J.p1, J.p2, by decide, rfl, HJ0.out, HX0.out, HB0.out⟩
    case round =>
      obtain ⟨m, q1, q2, ⟨h1, h2⟩, rfl, hj, hx, hB⟩ := hrel
      have hs := hB.size
      have hl1 := hj.lt
      have hl2 := hx.lt
      by_cases hlt : m ≤ 20
      · have Hc : Hid (({ J with p1 := m, p2 := m } : Jb).check = 0) := Hchk.out m h1 hlt
        have hd0 := hj.at_ 0 _ rfl
        have hd1 := hj.at_ 1 _ rfl
        have hf0 := hj.free 0
        have hf1 := hj.free 1
        go_wp2_with fail
        refine (to_any _ _ _).mono ?_
        rintro e wA ⟨rfl, hbA⟩
        have hzA := hbA.size
        have hBA : Below w2.heap.size w2 wA := hB.trans (hbA.mono hs)
        have hjA := hj.below hbA hl1
        have hxA := hx.below hbA hl2
        clear hd0 hd1 hf0 hf1 hbA hj hx hB
        have hd0 := hjA.at_ 0 _ rfl
        have hd1 := hjA.at_ 1 _ rfl
        have hf0 := hjA.free 0
        have hf1 := hjA.free 1
        have kA : Bk ((wA.setCell ⟨w2.heap.size, 0, none⟩ (.int .i64 m)).setCell ⟨w2.heap.size, 1, none⟩ (.int .i64 m)) w2.heap.size 31 (jobC { J with p1 := m, p2 := m } (.slice ja jn jc)) := (hjA.put 0 _).put 1 _
        have xA : Bk ((wA.setCell ⟨w2.heap.size, 0, none⟩ (.int .i64 m)).setCell ⟨w2.heap.size, 1, none⟩ (.int .i64 m)) w3.heap.size 24 #[.int .i64 (1), .int .i64 (0)] := (hxA.other (by show w3.heap.size ≠ w2.heap.size; omega) _).other (by show w3.heap.size ≠ w2.heap.size; omega) _
        have hBA' : Below w2.heap.size w2 ((wA.setCell ⟨w2.heap.size, 0, none⟩ (.int .i64 m)).setCell ⟨w2.heap.size, 1, none⟩ (.int .i64 m)) := (hBA.setCell (Nat.le_refl _) _).setCell (Nat.le_refl _) _
        clear hjA hxA hBA
        go_wp2_with (refine wpList_load_row rfl 31 _ rfl w2.heap.size rfl _ (jobC { J with p1 := m, p2 := m } (.slice ja jn jc)) _ _ kA Try.underlying31 rfl szJob ?_)
        refine (passesF_ok { J with p1 := m, p2 := m } Hc.out ja jn jc _ Hjn.out hjm (Hrg.out.up hBA')).mono ?_
        rintro e w5 ⟨rfl, hb5⟩
        have hz5 := hb5.size
        simp only [World.size_setCell] at hz5
        have k5 := kA.below hb5 (by simp only [World.size_setCell]; omega)
        have x5 := xA.below hb5 (by simp only [World.size_setCell]; omega)
        have hB5 : Below w2.heap.size w2 w5 := hBA'.trans (hb5.mono (by simp only [World.size_setCell]; omega))
        clear hb5 kA xA hBA' hd0 hd1 hf0 hf1
        go_wp2_with (refine wpList_load_row rfl 31 _ rfl w2.heap.size rfl _ (jobC { J with p1 := m, p2 := m } (.slice ja jn jc)) _ _ k5 Try.underlying31 rfl szJob ?_)
        refine (worstF_ok { J with p1 := m, p2 := m } Hc.out ja jn jc _ Hjn.out hjm (Hrg.out.up hB5)).mono ?_
        rintro e w6 ⟨rfl, hb6⟩
        have hz6 := hb6.size
        have k6 := k5.below hb6 (by omega)
        have x6 := x5.below hb6 (by omega)
        have hB6 : Below w2.heap.size w2 w6 := hB5.trans (hb6.mono (by omega))
        clear hb6 k5 x5 hB5
        have c16 := k6.at_ 16 _ rfl
        have y0 := x6.at_ 0 _ rfl
        have y1 := x6.at_ 1 _ rfl
        have hl6 := k6.lt
        have hl7 := x6.lt
        have HK6 := hidMk k6
        have HX6 := hidMk x6
        have HB6 := hidMk hB6
        clear k6 x6 hB6
        obtain ⟨V, hV⟩ : ∃ V, passI J.wi J.sh m m = V := ⟨_, rfl⟩
        obtain ⟨U, hU⟩ : ∃ U, worstI { J with p1 := m, p2 := m } ({ J with p1 := m, p2 := m } : Jb).tg = U := ⟨_, rfl⟩
        have hfacts := pass_cases J.wi J.sh m
        have hwf := worst_iff J m hwi.1
        rw [hV] at hfacts
        rw [hU] at hwf
        have hvv : passI ({ J with p1 := m, p2 := m } : Jb).wi ({ J with p1 := m, p2 := m } : Jb).sh ({ J with p1 := m, p2 := m } : Jb).p1 ({ J with p1 := m, p2 := m } : Jb).p2 = V := hV
        rw [hvv, hU]
        clear hvv hV hU
        have c16' : w6.cell? ⟨w2.heap.size, 16, none⟩ = some (.int .i64 J.wi) := c16
        clear c16
        rcases hfacts with ⟨rfl, hin⟩ | ⟨hV23, hin⟩
        · have hUle : U ≤ J.wi := hwf.2 hin
          have hD : decide ((1) ≤ m ∧ m ≤ (0)) = true := decide_eq_true (absurd hin (by omega))
          clear hwf hin
          go_wp2_with (go_at_call 10; refine (in_any _ _ _ _).mono ?_; rintro e w7 ⟨rfl, hb7⟩; rw [hD]; have hz7 := hb7.size; have c16 := (HK6.out.below hb7 (by omega)).at_ 16 _ rfl)
          go_roundw
          case rel => exact ⟨m + 1, m, m, by omega, by go_num, HK6.out.below hb7 (by omega), HX6.out.below hb7 (by omega), HB6.out.trans (hb7.mono (by omega))⟩
          case measure => simp [intOf]; omega
        · have hUgt : ¬ U ≤ J.wi := fun h => hin (hwf.1 h)
          have hD : decide ((1) ≤ m ∧ m ≤ (0)) = false := decide_eq_false (by omega)
          clear hwf hin
          rcases hV23 with rfl | rfl
          · go_wp2_with (go_at_call 10; refine (in_any _ _ _ _).mono ?_; rintro e w7 ⟨rfl, hb7⟩; rw [hD]; have hz7 := hb7.size; have c16 := (HK6.out.below hb7 (by omega)).at_ 16 _ rfl)
            go_roundw
            case rel => exact ⟨m + 1, m, m, by omega, by go_num, HK6.out.below hb7 (by omega), HX6.out.below hb7 (by omega), HB6.out.trans (hb7.mono (by omega))⟩
            case measure => simp [intOf]; omega
          · go_wp2_with (go_at_call 10; refine (in_any _ _ _ _).mono ?_; rintro e w7 ⟨rfl, hb7⟩; rw [hD]; have hz7 := hb7.size; have c16 := (HK6.out.below hb7 (by omega)).at_ 16 _ rfl)
            go_roundw
            case rel => exact ⟨m + 1, m, m, by omega, by go_num, HK6.out.below hb7 (by omega), HX6.out.below hb7 (by omega), HB6.out.trans (hb7.mono (by omega))⟩
            case measure => simp [intOf]; omega
      · obtain rfl : m = 21 := by omega
        go_wp2_with fail
        refine (Htun.out _).mono ?_
        rintro e w8 ⟨rfl, hb8⟩
        go_wp2
        go_ret
        exact ⟨rfl, (HB2.out.trans (hB.mono hz2)).trans (hb8.mono (by omega))⟩
  · rw [if_neg hem] at hwn
    rw [hwn]
    clear hwn
    have HX0 := hidMk (Bk.new w3 24 #[.int .i64 (win J.wi J.sh).1, .int .i64 (win J.wi J.sh).2])
    have HJ0 := hidMk (k3.alloc (.cells #[.int .i64 (win J.wi J.sh).1, .int .i64 (win J.wi J.sh).2] 24))
    have HB0 := hidMk (hB3.alloc (by omega) (.cells #[.int .i64 (win J.wi J.sh).1, .int .i64 (win J.wi J.sh).2] 24))
    clear k3 hB3
    go_wp2_with fail
    go_loopw [6, 7, 8, 9, 10] (fun i _ _ _ _ wr => ∃ (m q1 q2 : Int), (-20 ≤ m ∧ m ≤ 21) ∧ i = .int .i64 m ∧ Bk wr w2.heap.size 31 (jobC { J with p1 := q1, p2 := q2 } (.slice ja jn jc)) ∧ Bk wr w3.heap.size 24 #[.int .i64 ((win J.wi J.sh).1), .int .i64 ((win J.wi J.sh).2)] ∧ Below w2.heap.size w2 wr) (fun i _ _ _ _ _ => (21 - intOf i).toNat)
    case atStart => exact ⟨-20, J.p1, J.p2, by decide, rfl, HJ0.out, HX0.out, HB0.out⟩
    case round =>
      obtain ⟨m, q1, q2, ⟨h1, h2⟩, rfl, hj, hx, hB⟩ := hrel
      have hs := hB.size
      have hl1 := hj.lt
      have hl2 := hx.lt
      by_cases hlt : m ≤ 20
      · have Hc : Hid (({ J with p1 := m, p2 := m } : Jb).check = 0) := Hchk.out m h1 hlt
        have hd0 := hj.at_ 0 _ rfl
        have hd1 := hj.at_ 1 _ rfl
        have hf0 := hj.free 0
        have hf1 := hj.free 1
        go_wp2_with fail
        refine (to_any _ _ _).mono ?_
        rintro e wA ⟨rfl, hbA⟩
        have hzA := hbA.size
        have hBA : Below w2.heap.size w2 wA := hB.trans (hbA.mono hs)
        have hjA := hj.below hbA hl1
        have hxA := hx.below hbA hl2
        clear hd0 hd1 hf0 hf1 hbA hj hx hB
        have hd0 := hjA.at_ 0 _ rfl
        have hd1 := hjA.at_ 1 _ rfl
        have hf0 := hjA.free 0
        have hf1 := hjA.free 1
        have kA : Bk ((wA.setCell ⟨w2.heap.size, 0, none⟩ (.int .i64 m)).setCell ⟨w2.heap.size, 1, none⟩ (.int .i64 m)) w2.heap.size 31 (jobC { J with p1 := m, p2 := m } (.slice ja jn jc)) := (hjA.put 0 _).put 1 _
        have xA : Bk ((wA.setCell ⟨w2.heap.size, 0, none⟩ (.int .i64 m)).setCell ⟨w2.heap.size, 1, none⟩ (.int .i64 m)) w3.heap.size 24 #[.int .i64 ((win J.wi J.sh).1), .int .i64 ((win J.wi J.sh).2)] := (hxA.other (by show w3.heap.size ≠ w2.heap.size; omega) _).other (by show w3.heap.size ≠ w2.heap.size; omega) _
        have hBA' : Below w2.heap.size w2 ((wA.setCell ⟨w2.heap.size, 0, none⟩ (.int .i64 m)).setCell ⟨w2.heap.size, 1, none⟩ (.int .i64 m)) := (hBA.setCell (Nat.le_refl _) _).setCell (Nat.le_refl _) _
        clear hjA hxA hBA
        go_wp2_with (refine wpList_load_row rfl 31 _ rfl w2.heap.size rfl _ (jobC { J with p1 := m, p2 := m } (.slice ja jn jc)) _ _ kA Try.underlying31 rfl szJob ?_)
        refine (passesF_ok { J with p1 := m, p2 := m } Hc.out ja jn jc _ Hjn.out hjm (Hrg.out.up hBA')).mono ?_
        rintro e w5 ⟨rfl, hb5⟩
        have hz5 := hb5.size
        simp only [World.size_setCell] at hz5
        have k5 := kA.below hb5 (by simp only [World.size_setCell]; omega)
        have x5 := xA.below hb5 (by simp only [World.size_setCell]; omega)
        have hB5 : Below w2.heap.size w2 w5 := hBA'.trans (hb5.mono (by simp only [World.size_setCell]; omega))
        clear hb5 kA xA hBA' hd0 hd1 hf0 hf1
        go_wp2_with (refine wpList_load_row rfl 31 _ rfl w2.heap.size rfl _ (jobC { J with p1 := m, p2 := m } (.slice ja jn jc)) _ _ k5 Try.underlying31 rfl szJob ?_)
        refine (worstF_ok { J with p1 := m, p2 := m } Hc.out ja jn jc _ Hjn.out hjm (Hrg.out.up hB5)).mono ?_
        rintro e w6 ⟨rfl, hb6⟩
        have hz6 := hb6.size
        have k6 := k5.below hb6 (by omega)
        have x6 := x5.below hb6 (by omega)
        have hB6 : Below w2.heap.size w2 w6 := hB5.trans (hb6.mono (by omega))
        clear hb6 k5 x5 hB5
        have c16 := k6.at_ 16 _ rfl
        have y0 := x6.at_ 0 _ rfl
        have y1 := x6.at_ 1 _ rfl
        have hl6 := k6.lt
        have hl7 := x6.lt
        have HK6 := hidMk k6
        have HX6 := hidMk x6
        have HB6 := hidMk hB6
        clear k6 x6 hB6
        obtain ⟨V, hV⟩ : ∃ V, passI J.wi J.sh m m = V := ⟨_, rfl⟩
        obtain ⟨U, hU⟩ : ∃ U, worstI { J with p1 := m, p2 := m } ({ J with p1 := m, p2 := m } : Jb).tg = U := ⟨_, rfl⟩
        have hfacts := pass_cases J.wi J.sh m
        have hwf := worst_iff J m hwi.1
        rw [hV] at hfacts
        rw [hU] at hwf
        have hvv : passI ({ J with p1 := m, p2 := m } : Jb).wi ({ J with p1 := m, p2 := m } : Jb).sh ({ J with p1 := m, p2 := m } : Jb).p1 ({ J with p1 := m, p2 := m } : Jb).p2 = V := hV
        rw [hvv, hU]
        clear hvv hV hU
        have c16' : w6.cell? ⟨w2.heap.size, 16, none⟩ = some (.int .i64 J.wi) := c16
        clear c16
        rcases hfacts with ⟨rfl, hin⟩ | ⟨hV23, hin⟩
        · have hUle : U ≤ J.wi := hwf.2 hin
          have hD : decide (((win J.wi J.sh).1) ≤ m ∧ m ≤ ((win J.wi J.sh).2)) = true := decide_eq_true hin
          clear hwf hin
          go_wp2_with (go_at_call 10; refine (in_any _ _ _ _).mono ?_; rintro e w7 ⟨rfl, hb7⟩; rw [hD]; have hz7 := hb7.size; have c16 := (HK6.out.below hb7 (by omega)).at_ 16 _ rfl)
          go_roundw
          case rel => exact ⟨m + 1, m, m, by omega, by go_num, HK6.out.below hb7 (by omega), HX6.out.below hb7 (by omega), HB6.out.trans (hb7.mono (by omega))⟩
          case measure => simp [intOf]; omega
        · have hUgt : ¬ U ≤ J.wi := fun h => hin (hwf.1 h)
          have hD : decide (((win J.wi J.sh).1) ≤ m ∧ m ≤ ((win J.wi J.sh).2)) = false := decide_eq_false hin
          clear hwf hin
          rcases hV23 with rfl | rfl
          · go_wp2_with (go_at_call 10; refine (in_any _ _ _ _).mono ?_; rintro e w7 ⟨rfl, hb7⟩; rw [hD]; have hz7 := hb7.size; have c16 := (HK6.out.below hb7 (by omega)).at_ 16 _ rfl)
            go_roundw
            case rel => exact ⟨m + 1, m, m, by omega, by go_num, HK6.out.below hb7 (by omega), HX6.out.below hb7 (by omega), HB6.out.trans (hb7.mono (by omega))⟩
            case measure => simp [intOf]; omega
          · go_wp2_with (go_at_call 10; refine (in_any _ _ _ _).mono ?_; rintro e w7 ⟨rfl, hb7⟩; rw [hD]; have hz7 := hb7.size; have c16 := (HK6.out.below hb7 (by omega)).at_ 16 _ rfl)
            go_roundw
            case rel => exact ⟨m + 1, m, m, by omega, by go_num, HK6.out.below hb7 (by omega), HX6.out.below hb7 (by omega), HB6.out.trans (hb7.mono (by omega))⟩
            case measure => simp [intOf]; omega
      · obtain rfl : m = 21 := by omega
        go_wp2_with fail
        refine (Htun.out _).mono ?_
        rintro e w8 ⟨rfl, hb8⟩
        go_wp2
        go_ret
        exact ⟨rfl, (HB2.out.trans (hB.mono hz2)).trans (hb8.mono (by omega))⟩
end Go.Proofs.Ytkimdnckbdeekaa
