/- Part 18 of the proof: RefF, RefG. -/
import Derived.Test.YtbndjijlinpkmaaT17
import Derived.Test.YtbndjijlinpkmaaT12
import Derived.Test.YtbndjijlinpkmaaT10
/- Contracts of Window, Passes and Hear, of the program and of the reference, on any job. -/
namespace Go.Proofs.Ytbndjijlinpkmaa
set_option linter.all false
open Go.RowKit
def passesI (J : Jb) : Int × Int := if J.check ≠ 0 then (0, J.check) else (passI J.wi J.sh J.p1 J.p2, 0)
def hearJ (J : Jb) (r : Int) : R2 × Int := if J.check ≠ 0 then ((0, 0), J.check) else hearI J r
set_option maxHeartbeats 1000000 in
set_option maxRecDepth 100000 in
theorem passesX_any (J : Jb) (a : Option Addr) (n c : Nat) (w : World) (hn : n = J.sh.length) (hm : n ≤ 9223372036854775807) (h : Rg w w.heap.size a J.sh) :
    Calls Try.prog 12 #[.agg (jobC J (.slice a n c))] w fun e w' => e = .returned (.tuple #[.int .i64 (passesI J).1, .int .i64 (passesI J).2]) ∧ Below w.heap.size w w' := by
  by_cases hc : J.check ≠ 0
  · have hcb : (J.check != 0) = true := by simpa using hc
    have He : Hid (passesI J = (0, J.check)) := by
      show passesI J = (0, J.check)
      unfold passesI
      rw [if_pos hc]
    clear hc
    have Hn := hidMk hn
    have Hh := hidMk h
    clear hn h
    have b0 : Bk (w.alloc (.cells (jobC J (.slice a n c)) 30)) w.heap.size 30 (jobC J (.slice a n c)) := Bk.new w _ _
    have hW : Below w.heap.size w (w.alloc (.cells (jobC J (.slice a n c)) 30)) := (Below.refl _ _).alloc (Nat.le_refl _) _
    go_enter Try.func12, Try.ntmps12
    go_wp2_with (refine wpList_load_row rfl 30 _ rfl w.heap.size rfl _ (jobC J (.slice a n c)) _ _ b0 Try.underlying30 rfl szJob ?_)
    refine (check_any J a n c _ Hn.out hm (Hh.out.up hW)).mono ?_
    rintro e w1 ⟨rfl, hb1⟩
    have hz1 := hb1.size
    simp only [World.size_alloc] at hz1
    have k0 := b0.below hb1 (by simp)
    have hB1 : Below w.heap.size w w1 := hW.trans (hb1.mono (by simp))
    clear hb1 b0 hW
    go_wp2
    refine bodyPost_ret (v := .tuple #[.int .i64 0, .int .i64 J.check]) (by simp [results, Try.results12, go_sem]) rfl ⟨by rw [He.out], hB1⟩
  · have hc0 : J.check = 0 := by omega
    have He : passesI J = (passI J.wi J.sh J.p1 J.p2, 0) := by
      unfold passesI
      rw [if_neg hc]
    rw [He]
    exact passesF_ok J hc0 a n c w hn hm h
set_option maxHeartbeats 1000000 in
set_option maxRecDepth 100000 in
theorem refPasses_any (J : Jb) (a : Option Addr) (n c : Nat) (w : World) (hn : n = J.sh.length) (hm : n ≤ 9223372036854775807) (h : Rg w w.heap.size a J.sh) :
    Calls Try.prog 13 #[.agg (jobC J (.slice a n c))] w fun e w' => e = .returned (.tuple #[.int .i64 (passesI J).1, .int .i64 (passesI J).2]) ∧ Below w.heap.size w w' := by
  by_cases hc : J.check ≠ 0
  · have hcb : (J.check != 0) = true := by simpa using hc
    have He : Hid (passesI J = (0, J.check)) := by
      show passesI J = (0, J.check)
      unfold passesI
      rw [if_pos hc]
    clear hc
    have Hn := hidMk hn
    have Hh := hidMk h
    clear hn h
    have b0 : Bk (w.alloc (.cells (jobC J (.slice a n c)) 30)) w.heap.size 30 (jobC J (.slice a n c)) := Bk.new w _ _
    have hW : Below w.heap.size w (w.alloc (.cells (jobC J (.slice a n c)) 30)) := (Below.refl _ _).alloc (Nat.le_refl _) _
    go_enter Try.func13, Try.ntmps13
    go_wp2_with (refine wpList_load_row rfl 30 _ rfl w.heap.size rfl _ (jobC J (.slice a n c)) _ _ b0 Try.underlying30 rfl szJob ?_)
    refine (refCheck_any J a n c _ Hn.out hm (Hh.out.up hW)).mono ?_
    rintro e w1 ⟨rfl, hb1⟩
    have hz1 := hb1.size
    simp only [World.size_alloc] at hz1
    have k0 := b0.below hb1 (by simp)
    have hB1 : Below w.heap.size w w1 := hW.trans (hb1.mono (by simp))
    clear hb1 b0 hW
    go_wp2
    refine bodyPost_ret (v := .tuple #[.int .i64 0, .int .i64 J.check]) (by simp [results, Try.results13, go_sem]) rfl ⟨by rw [He.out], hB1⟩
  · have hc0 : J.check = 0 := by omega
    have He : Hid (passesI J = (passI J.wi J.sh J.p1 J.p2, 0)) := by
      show _ = _
      unfold passesI
      rw [if_neg hc]
    have hcb : (J.check != 0) = false := by simp [hc0]
    have HJ := hidMk ((check_ok hc0).inn.mono (by decide : (100 : Int) ≤ 200))
    have hp1 := (check_ok hc0).inn.p1
    have hp2 := (check_ok hc0).inn.p2
    have Hn := hidMk hn
    have Hh := hidMk h
    clear hn h hc hc0
    have b0 : Bk (w.alloc (.cells (jobC J (.slice a n c)) 30)) w.heap.size 30 (jobC J (.slice a n c)) := Bk.new w _ _
    have hW : Below w.heap.size w (w.alloc (.cells (jobC J (.slice a n c)) 30)) := (Below.refl _ _).alloc (Nat.le_refl _) _
    go_enter Try.func13, Try.ntmps13
    go_wp2_with (refine wpList_load_row rfl 30 _ rfl w.heap.size rfl _ (jobC J (.slice a n c)) _ _ b0 Try.underlying30 rfl szJob ?_)
    refine (refCheck_any J a n c _ Hn.out hm (Hh.out.up hW)).mono ?_
    rintro e w1 ⟨rfl, hb1⟩
    have hz1 := hb1.size
    simp only [World.size_alloc] at hz1
    have k0 := b0.below hb1 (by simp)
    have hB1 : Below w.heap.size w w1 := hW.trans (hb1.mono (by simp))
    clear hb1 b0 hW
    have c0 := k0.at_ 0 (.int .i64 J.p1) rfl
    have c1 := k0.at_ 1 (.int .i64 J.p2) rfl
    go_wp2_with (refine wpList_load_row rfl 30 _ rfl w.heap.size rfl _ (jobC J (.slice a n c)) _ _ k0 Try.underlying30 rfl szJob ?_)
    refine (refPasses0_any J HJ.out a n c J.p1 J.p2 (by omega) _ Hn.out (Hh.out.up hB1)).mono ?_
    rintro e w2 ⟨rfl, hb2⟩
    go_wp2
    refine bodyPost_ret (v := .tuple #[.int .i64 (passI J.wi J.sh J.p1 J.p2), .int .i64 0]) (by simp [results, Try.results13, go_sem]) rfl ⟨by rw [He.out], hB1.trans (hb2.mono (by omega))⟩
set_option maxHeartbeats 1000000 in
set_option maxRecDepth 100000 in
theorem refWindow_any (J : Jb) (a : Option Addr) (n c : Nat) (w : World) (hn : n = J.sh.length) (hm : n ≤ 9223372036854775807) (h : Rg w w.heap.size a J.sh) :
    Calls Try.prog 11 #[.agg (jobC J (.slice a n c))] w (WindowEnd J w) := by
  by_cases hc : J.check ≠ 0
  · have hcb : (J.check != 0) = true := by simpa using hc
    have He : Hid (windowI J = ((0, 0), J.check)) := by
      show windowI J = ((0, 0), J.check)
      unfold windowI
      rw [if_pos hc]
    clear hc
    have Hn := hidMk hn
    have Hh := hidMk h
    clear hn h
    have b0 : Bk ((w.alloc (.cells (jobC J (.slice a n c)) 30)).alloc (.cells #[.int .i64 0, .int .i64 0] 23)) w.heap.size 30 (jobC J (.slice a n c)) := (Bk.new w _ _).alloc _
    have b1 : Bk ((w.alloc (.cells (jobC J (.slice a n c)) 30)).alloc (.cells #[.int .i64 0, .int .i64 0] 23)) (w.heap.size + 1) 23 #[.int .i64 0, .int .i64 0] := Bk.newAt _ _ _ _ (by simp)
    have hW : Below w.heap.size w ((w.alloc (.cells (jobC J (.slice a n c)) 30)).alloc (.cells #[.int .i64 0, .int .i64 0] 23)) := ((Below.refl _ _).alloc (Nat.le_refl _) _).alloc (by simp) _
    go_enter Try.func11, Try.ntmps11
    go_wp2_with (refine wpList_load_row rfl 30 _ rfl w.heap.size rfl _ (jobC J (.slice a n c)) _ _ b0 Try.underlying30 rfl szJob ?_)
    refine (refCheck_any J a n c _ Hn.out hm (Hh.out.up hW)).mono ?_
    rintro e w1 ⟨rfl, hb1⟩
    have hz1 := hb1.size
    simp only [World.size_alloc] at hz1
    have k0 := b0.below hb1 (by simp; omega)
    have k1 := b1.below hb1 (by simp)
    have hB1 : Below w.heap.size w w1 := hW.trans (hb1.mono (by simp; omega))
    clear hb1 b0 b1 hW
    have c0 := k1.at_ 0 _ rfl
    have c1 := k1.at_ 1 _ rfl
    have f0 := k1.free 0
    have f1 := k1.free 1
    go_wp2
    refine bodyPost_ret (results_row_tmp Try.results11 _ _ _ _ _ _ rfl rfl (k1.put2 _ _) Try.underlying23 szRange) rfl ⟨by rw [He.out]; rfl, ?_⟩
    exact (hB1.setCell (by simp) _).setCell (by simp) _
  · have hc0 : J.check = 0 := by omega
    have hcb : (J.check != 0) = false := by simp [hc0]
    have HJ := hidMk ((check_ok hc0).inn.mono (by decide : (100 : Int) ≤ 200))
    have Hn := hidMk hn
    have Hh := hidMk h
    have Hc := hidMk hc
    obtain ⟨V, HVV⟩ : ∃ V, Hid (win J.wi J.sh = V) := ⟨_, rfl⟩
    have Hw : Hid (windowI J = if V.2 < V.1 then ((0, 0), 11) else (V, 0)) := by
      show _ = _
      unfold windowI
      rw [if_neg hc, HVV.out]
    clear hn h hc hc0
    by_cases hv : V.2 < V.1
    · have He : Hid (windowI J = ((0, 0), 11)) := by
        show _ = _
        rw [Hw.out, if_pos hv]
      have b0 : Bk ((w.alloc (.cells (jobC J (.slice a n c)) 30)).alloc (.cells #[.int .i64 0, .int .i64 0] 23)) w.heap.size 30 (jobC J (.slice a n c)) := (Bk.new w _ _).alloc _
      have b1 : Bk ((w.alloc (.cells (jobC J (.slice a n c)) 30)).alloc (.cells #[.int .i64 0, .int .i64 0] 23)) (w.heap.size + 1) 23 #[.int .i64 0, .int .i64 0] := Bk.newAt _ _ _ _ (by simp)
      have hW : Below w.heap.size w ((w.alloc (.cells (jobC J (.slice a n c)) 30)).alloc (.cells #[.int .i64 0, .int .i64 0] 23)) := ((Below.refl _ _).alloc (Nat.le_refl _) _).alloc (by simp) _
      go_enter Try.func11, Try.ntmps11
      go_wp2_with (refine wpList_load_row rfl 30 _ rfl w.heap.size rfl _ (jobC J (.slice a n c)) _ _ b0 Try.underlying30 rfl szJob ?_)
      refine (refCheck_any J a n c _ Hn.out hm (Hh.out.up hW)).mono ?_
      rintro e w1 ⟨rfl, hb1⟩
      have hz1 := hb1.size
      simp only [World.size_alloc] at hz1
      have k0 := b0.below hb1 (by simp; omega)
      have k1 := b1.below hb1 (by simp)
      have hB1 : Below w.heap.size w w1 := hW.trans (hb1.mono (by simp; omega))
      clear hb1 b0 b1 hW
      go_wp2_with (refine wpList_load_row rfl 30 _ rfl w.heap.size rfl _ (jobC J (.slice a n c)) _ _ k0 Try.underlying30 rfl szJob ?_)
      refine (refWindow0_any J HJ.out a n c _ Hn.out (Hh.out.up hB1)).mono ?_
      rintro e w2 ⟨rfl, hb2⟩
      rw [HVV.out]
      have hz2 := hb2.size
      have q1 := k1.below hb2 (by omega)
      have hB2 : Below w.heap.size w w2 := hB1.trans (hb2.mono (by omega))
      clear hb2 k0 k1 hB1
      have q2 := q1.alloc (.cells #[.int .i64 V.1, .int .i64 V.2] 23)
      have hB3 := hB2.alloc (by omega) (.cells #[.int .i64 V.1, .int .i64 V.2] 23)
      have c0 := q1.at_ 0 _ rfl
      have c1 := q1.at_ 1 _ rfl
      have f0 := q1.free 0
      have f1 := q1.free 1
      have g0 : w.heap.size + 1 < w2.heap.size := by omega
      go_wp2
      refine bodyPost_ret (results_row_tmp Try.results11 _ _ _ _ _ _ rfl rfl ((q1.put2 _ _).alloc _) Try.underlying23 szRange) rfl ⟨by rw [He.out]; rfl, ?_⟩
      exact ((hB2.setCell (by simp) _).setCell (by simp) _).alloc (by simp; omega) _
    · have He : Hid (windowI J = (V, 0)) := by
        show _ = _
        rw [Hw.out, if_neg hv]
      have b0 : Bk ((w.alloc (.cells (jobC J (.slice a n c)) 30)).alloc (.cells #[.int .i64 0, .int .i64 0] 23)) w.heap.size 30 (jobC J (.slice a n c)) := (Bk.new w _ _).alloc _
      have b1 : Bk ((w.alloc (.cells (jobC J (.slice a n c)) 30)).alloc (.cells #[.int .i64 0, .int .i64 0] 23)) (w.heap.size + 1) 23 #[.int .i64 0, .int .i64 0] := Bk.newAt _ _ _ _ (by simp)
      have hW : Below w.heap.size w ((w.alloc (.cells (jobC J (.slice a n c)) 30)).alloc (.cells #[.int .i64 0, .int .i64 0] 23)) := ((Below.refl _ _).alloc (Nat.le_refl _) _).alloc (by simp) _
      go_enter Try.func11, Try.ntmps11
      go_wp2_with (refine wpList_load_row rfl 30 _ rfl w.heap.size rfl _ (jobC J (.slice a n c)) _ _ b0 Try.underlying30 rfl szJob ?_)
      refine (refCheck_any J a n c _ Hn.out hm (Hh.out.up hW)).mono ?_
      rintro e w1 ⟨rfl, hb1⟩
      have hz1 := hb1.size
      simp only [World.size_alloc] at hz1
      have k0 := b0.below hb1 (by simp; omega)
      have k1 := b1.below hb1 (by simp)
      have hB1 : Below w.heap.size w w1 := hW.trans (hb1.mono (by simp; omega))
      clear hb1 b0 b1 hW
      go_wp2_with (refine wpList_load_row rfl 30 _ rfl w.heap.size rfl _ (jobC J (.slice a n c)) _ _ k0 Try.underlying30 rfl szJob ?_)
      refine (refWindow0_any J HJ.out a n c _ Hn.out (Hh.out.up hB1)).mono ?_
      rintro e w2 ⟨rfl, hb2⟩
      rw [HVV.out]
      have hz2 := hb2.size
      have q1 := k1.below hb2 (by omega)
      have hB2 : Below w.heap.size w w2 := hB1.trans (hb2.mono (by omega))
      clear hb2 k0 k1 hB1
      have q2 := q1.alloc (.cells #[.int .i64 V.1, .int .i64 V.2] 23)
      have hB3 := hB2.alloc (by omega) (.cells #[.int .i64 V.1, .int .i64 V.2] 23)
      have c0 := q1.at_ 0 _ rfl
      have c1 := q1.at_ 1 _ rfl
      have f0 := q1.free 0
      have f1 := q1.free 1
      have g0 : w.heap.size + 1 < w2.heap.size := by omega
      go_wp2
      refine bodyPost_ret (results_row_tmp Try.results11 _ _ _ _ _ _ rfl rfl ((q1.put2 _ _).alloc _) Try.underlying23 szRange) rfl ⟨by rw [He.out]; rfl, ?_⟩
      exact ((hB2.setCell (by simp) _).setCell (by simp) _).alloc (by simp; omega) _
set_option maxHeartbeats 1000000 in
set_option maxRecDepth 100000 in
theorem hearX_any (J : Jb) (r : Int) (hr : -9223372036854775808 ≤ r ∧ r ≤ 9223372036854775807) (a : Option Addr) (n c : Nat) (w : World) (hn : n = J.sh.length) (hm : n ≤ 9223372036854775807) (h : Rg w w.heap.size a J.sh) :
    Calls Try.prog 14 #[.agg (jobC J (.slice a n c)), .int .i64 r] w fun e w' => e = .returned (.tuple #[.agg #[.int .i64 (hearJ J r).1.1, .int .i64 (hearJ J r).1.2], .int .i64 (hearJ J r).2]) ∧ Below w.heap.size w w' := by
  by_cases hc : J.check ≠ 0
  · have hcb : (J.check != 0) = true := by simpa using hc
    have He : Hid (hearJ J r = ((0, 0), J.check)) := by
      show hearJ J r = ((0, 0), J.check)
      unfold hearJ
      rw [if_pos hc]
    clear hc
    have Hn := hidMk hn
    have Hh := hidMk h
    clear hn h
    have b0 : Bk ((w.alloc (.cells (jobC J (.slice a n c)) 30)).alloc (.cells #[.int .i64 0, .int .i64 0] 23)) w.heap.size 30 (jobC J (.slice a n c)) := (Bk.new w _ _).alloc _
    have b1 : Bk ((w.alloc (.cells (jobC J (.slice a n c)) 30)).alloc (.cells #[.int .i64 0, .int .i64 0] 23)) (w.heap.size + 1) 23 #[.int .i64 0, .int .i64 0] := Bk.newAt _ _ _ _ (by simp)
    have hW : Below w.heap.size w ((w.alloc (.cells (jobC J (.slice a n c)) 30)).alloc (.cells #[.int .i64 0, .int .i64 0] 23)) := ((Below.refl _ _).alloc (Nat.le_refl _) _).alloc (by simp) _
    go_enter Try.func14, Try.ntmps14
    go_wp2_with (refine wpList_load_row rfl 30 _ rfl w.heap.size rfl _ (jobC J (.slice a n c)) _ _ b0 Try.underlying30 rfl szJob ?_)
    refine (check_any J a n c _ Hn.out hm (Hh.out.up hW)).mono ?_
    rintro e w1 ⟨rfl, hb1⟩
    have hz1 := hb1.size
    simp only [World.size_alloc] at hz1
    have k0 := b0.below hb1 (by simp; omega)
    have k1 := b1.below hb1 (by simp)
    have hB1 : Below w.heap.size w w1 := hW.trans (hb1.mono (by simp; omega))
    clear hb1 b0 b1 hW
    have c0 := k1.at_ 0 _ rfl
    have c1 := k1.at_ 1 _ rfl
    have f0 := k1.free 0
    have f1 := k1.free 1
    go_wp2
    refine bodyPost_ret (results_row_tmp Try.results14 _ _ _ _ _ _ rfl rfl (k1.put2 _ _) Try.underlying23 szRange) rfl ⟨by rw [He.out]; rfl, ?_⟩
    exact (hB1.setCell (by simp) _).setCell (by simp) _
  · have hc0 : J.check = 0 := by omega
    have He : hearJ J r = hearI J r := by
      unfold hearJ
      rw [if_neg hc]
    rw [He]
    exact hearF_ok J hc0 r a n c w hn hm h
set_option maxHeartbeats 1000000 in
set_option maxRecDepth 100000 in
theorem refHear_any (J : Jb) (r : Int) (hr : -9223372036854775808 ≤ r ∧ r ≤ 9223372036854775807) (a : Option Addr) (n c : Nat) (w : World) (hn : n = J.sh.length) (hm : n ≤ 9223372036854775807) (h : Rg w w.heap.size a J.sh) :
    Calls Try.prog 15 #[.agg (jobC J (.slice a n c)), .int .i64 r] w fun e w' => e = .returned (.tuple #[.agg #[.int .i64 (hearJ J r).1.1, .int .i64 (hearJ J r).1.2], .int .i64 (hearJ J r).2]) ∧ Below w.heap.size w w' := by
  by_cases hc : J.check ≠ 0
  · have hcb : (J.check != 0) = true := by simpa using hc
    have He : Hid (hearJ J r = ((0, 0), J.check)) := by
      show hearJ J r = ((0, 0), J.check)
      unfold hearJ
      rw [if_pos hc]
    clear hc
    have Hn := hidMk hn
    have Hh := hidMk h
    clear hn h
    have b0 : Bk ((w.alloc (.cells (jobC J (.slice a n c)) 30)).alloc (.cells #[.int .i64 0, .int .i64 0] 23)) w.heap.size 30 (jobC J (.slice a n c)) := (Bk.new w _ _).alloc _
    have b1 : Bk ((w.alloc (.cells (jobC J (.slice a n c)) 30)).alloc (.cells #[.int .i64 0, .int .i64 0] 23)) (w.heap.size + 1) 23 #[.int .i64 0, .int .i64 0] := Bk.newAt _ _ _ _ (by simp)
    have hW : Below w.heap.size w ((w.alloc (.cells (jobC J (.slice a n c)) 30)).alloc (.cells #[.int .i64 0, .int .i64 0] 23)) := ((Below.refl _ _).alloc (Nat.le_refl _) _).alloc (by simp) _
    go_enter Try.func15, Try.ntmps15
    go_wp2_with (refine wpList_load_row rfl 30 _ rfl w.heap.size rfl _ (jobC J (.slice a n c)) _ _ b0 Try.underlying30 rfl szJob ?_)
    refine (refCheck_any J a n c _ Hn.out hm (Hh.out.up hW)).mono ?_
    rintro e w1 ⟨rfl, hb1⟩
    have hz1 := hb1.size
    simp only [World.size_alloc] at hz1
    have k0 := b0.below hb1 (by simp; omega)
    have k1 := b1.below hb1 (by simp)
    have hB1 : Below w.heap.size w w1 := hW.trans (hb1.mono (by simp; omega))
    clear hb1 b0 b1 hW
    have c0 := k1.at_ 0 _ rfl
    have c1 := k1.at_ 1 _ rfl
    have f0 := k1.free 0
    have f1 := k1.free 1
    go_wp2
    refine bodyPost_ret (results_row_tmp Try.results15 _ _ _ _ _ _ rfl rfl (k1.put2 _ _) Try.underlying23 szRange) rfl ⟨by rw [He.out]; rfl, ?_⟩
    exact (hB1.setCell (by simp) _).setCell (by simp) _
  · have hc0 : J.check = 0 := by omega
    have hcb : (J.check != 0) = false := by simp [hc0]
    have He0 : Hid (hearJ J r = hearI J r) := by
      show _ = _
      unfold hearJ
      rw [if_neg hc]
    have hp1 := (check_ok hc0).inn.p1
    have hp2 := (check_ok hc0).inn.p2
    have hme := (check_ok hc0).inn.me
    have Hn := hidMk hn
    have Hh := hidMk h
    clear hn h hc hc0
    have ew1 : IntKind.i64.wrap (J.p1 - J.me) = J.p1 - J.me := IntWalk.i64_in _ (by omega)
    have ew2 : IntKind.i64.wrap (J.p2 + J.me) = J.p2 + J.me := IntWalk.i64_in _ (by omega)
    by_cases hv : r < J.p1 - J.me ∨ J.p2 + J.me < r
    · have He : Hid (hearJ J r = ((0, 0), 9)) := by
        show _ = _
        rw [He0.out]
        unfold hearI
        rw [if_pos hv]
      have hq : (numE r (J.p1 - J.me) (J.p2 + J.me) == 0) = false := by
        unfold numE
        rw [if_pos hv]
        rfl
      have hrb : True := by trivial
      clear hv
      have b0 : Bk ((w.alloc (.cells (jobC J (.slice a n c)) 30)).alloc (.cells #[.int .i64 0, .int .i64 0] 23)) w.heap.size 30 (jobC J (.slice a n c)) := (Bk.new w _ _).alloc _
      have b1 : Bk ((w.alloc (.cells (jobC J (.slice a n c)) 30)).alloc (.cells #[.int .i64 0, .int .i64 0] 23)) (w.heap.size + 1) 23 #[.int .i64 0, .int .i64 0] := Bk.newAt _ _ _ _ (by simp)
      have hW : Below w.heap.size w ((w.alloc (.cells (jobC J (.slice a n c)) 30)).alloc (.cells #[.int .i64 0, .int .i64 0] 23)) := ((Below.refl _ _).alloc (Nat.le_refl _) _).alloc (by simp) _
      go_enter Try.func15, Try.ntmps15
      go_wp2_with (refine wpList_load_row rfl 30 _ rfl w.heap.size rfl _ (jobC J (.slice a n c)) _ _ b0 Try.underlying30 rfl szJob ?_)
      refine (refCheck_any J a n c _ Hn.out hm (Hh.out.up hW)).mono ?_
      rintro e w1 ⟨rfl, hb1⟩
      have hz1 := hb1.size
      simp only [World.size_alloc] at hz1
      have k0 := b0.below hb1 (by simp; omega)
      have k1 := b1.below hb1 (by simp)
      have hB1 : Below w.heap.size w w1 := hW.trans (hb1.mono (by simp; omega))
      clear hb1 b0 b1 hW
      have d0 := k0.at_ 0 (.int .i64 J.p1) rfl
      have d1 := k0.at_ 1 (.int .i64 J.p2) rfl
      have d17 := k0.at_ 17 (.int .i64 J.me) rfl
      have c0 := k1.at_ 0 _ rfl
      have c1 := k1.at_ 1 _ rfl
      have f0 := k1.free 0
      have f1 := k1.free 1
      go_wp2_with (go_at_call 48; refine (among_any _ _ _ _).mono ?_; rintro e w2 ⟨rfl, rfl⟩)
      refine bodyPost_ret (results_row_tmp Try.results15 _ _ _ _ _ _ rfl rfl (k1.put2 _ _) Try.underlying23 szRange) rfl ⟨by rw [He.out]; rfl, ?_⟩
      exact (hB1.setCell (by simp) _).setCell (by simp) _
    · have He : Hid (hearJ J r = (heardR J.p1 J.p2 r J.me, 0)) := by
        show _ = _
        rw [He0.out]
        unfold hearI
        rw [if_neg hv]
      have hq : (numE r (J.p1 - J.me) (J.p2 + J.me) == 0) = true := by
        unfold numE
        rw [if_neg hv]
        rfl
      have hrb : -1000 ≤ r ∧ r ≤ 1000 := by omega
      clear hv
      have b0 : Bk ((w.alloc (.cells (jobC J (.slice a n c)) 30)).alloc (.cells #[.int .i64 0, .int .i64 0] 23)) w.heap.size 30 (jobC J (.slice a n c)) := (Bk.new w _ _).alloc _
      have b1 : Bk ((w.alloc (.cells (jobC J (.slice a n c)) 30)).alloc (.cells #[.int .i64 0, .int .i64 0] 23)) (w.heap.size + 1) 23 #[.int .i64 0, .int .i64 0] := Bk.newAt _ _ _ _ (by simp)
      have hW : Below w.heap.size w ((w.alloc (.cells (jobC J (.slice a n c)) 30)).alloc (.cells #[.int .i64 0, .int .i64 0] 23)) := ((Below.refl _ _).alloc (Nat.le_refl _) _).alloc (by simp) _
      go_enter Try.func15, Try.ntmps15
      go_wp2_with (refine wpList_load_row rfl 30 _ rfl w.heap.size rfl _ (jobC J (.slice a n c)) _ _ b0 Try.underlying30 rfl szJob ?_)
      refine (refCheck_any J a n c _ Hn.out hm (Hh.out.up hW)).mono ?_
      rintro e w1 ⟨rfl, hb1⟩
      have hz1 := hb1.size
      simp only [World.size_alloc] at hz1
      have k0 := b0.below hb1 (by simp; omega)
      have k1 := b1.below hb1 (by simp)
      have hB1 : Below w.heap.size w w1 := hW.trans (hb1.mono (by simp; omega))
      clear hb1 b0 b1 hW
      have d0 := k0.at_ 0 (.int .i64 J.p1) rfl
      have d1 := k0.at_ 1 (.int .i64 J.p2) rfl
      have d17 := k0.at_ 17 (.int .i64 J.me) rfl
      have c0 := k1.at_ 0 _ rfl
      have c1 := k1.at_ 1 _ rfl
      have f0 := k1.free 0
      have f1 := k1.free 1
      have K1 := hidMk k1
      have HB1 := hidMk hB1
      clear k1 c0 c1 f0 f1
      go_wp2_with (first
        | (go_at_call 48; refine (among_any _ _ _ _).mono ?_; rintro e w2 ⟨rfl, rfl⟩)
        | (go_at_call 49; refine (refHeard_any _ _ _ _ _ ⟨by omega, by omega, by omega, by omega⟩).mono ?_; rintro e w2 ⟨rfl, hb2⟩; have hz2 := hb2.size; have k2 := K1.out.below hb2 (by omega); have hB2 := HB1.out.trans (hb2.mono (by omega)); have c0 := k2.at_ 0 _ rfl; have c1 := k2.at_ 1 _ rfl; have f0 := k2.free 0; have f1 := k2.free 1))
      refine bodyPost_ret (results_row_tmp Try.results15 _ _ _ _ _ _ rfl rfl (k2.put2 _ _) Try.underlying23 szRange) rfl ⟨by rw [He.out]; rfl, ?_⟩
      exact (hB2.setCell (by simp) _).setCell (by simp) _
end Go.Proofs.Ytbndjijlinpkmaa
/- Contracts of the kit's copies and comparisons of jobs. -/
namespace Go.Proofs.Ytbndjijlinpkmaa
set_option linter.all false
open Go.RowKit

theorem rg_one (l : List R2) : ∀ u ∈ rgCells l, u.oneCell' = true := by
  induction l with
  | nil => intro u h; cases h
  | cons x l ih =>
    intro u h
    rcases List.mem_cons.1 h with rfl | h
    · rfl
    · rcases List.mem_cons.1 h with rfl | h
      · rfl
      · exact ih u h
theorem rg_news {W : World} {B : Nat} {ad : Addr} {l : List R2} (h : Rg W B (some ad) l) : ∀ j u, (rgCells l)[j]? = some u → W.cell? (ad.add j) = some u := by
  intro j u hj
  have hjl := (List.getElem?_eq_some_iff.1 hj).1
  rw [rgCells_len] at hjl
  have hk : j / 2 < l.length := by omega
  obtain ⟨b, off, e, _, e0, e1⟩ := h (j / 2) l[j / 2] (List.getElem?_eq_getElem hk)
  cases e
  obtain ⟨h0, h1⟩ := rgCells_at l (j / 2) l[j / 2] (List.getElem?_eq_getElem hk)
  have ha : ∀ k, (⟨b, off, none⟩ : Addr).add k = ⟨b, off + k, none⟩ := by
    intro k
    unfold Addr.add
    split
    · rename_i hk0; subst hk0; rfl
    · rfl
  rw [ha]
  rcases Nat.mod_two_eq_zero_or_one j with hm | hm
  · have : j = j / 2 * 2 := by omega
    rw [this] at hj ⊢
    rw [h0] at hj
    cases hj
    exact e0
  · have hj' : j = j / 2 * 2 + 1 := by omega
    have h2 : W.cell? ⟨b, off + j, none⟩ = W.cell? ⟨b, off + j / 2 * 2 + 1, none⟩ := by
      have : off + j = off + j / 2 * 2 + 1 := by omega
      rw [this]
    rw [h2, e1, ← h1, ← hj', hj]
theorem Rg.of_own {w : World} {B e n : Nat} {v : Value} {l : List R2} (h : w.ownsRow B e 2 v n (rgCells l)) : ∃ a c, v = .slice a n c ∧ n = l.length ∧ Rg w w.heap.size a l := by
  have hl := h.1
  rw [rgCells_len] at hl
  rcases h.2 with ⟨rfl, rfl⟩ | ⟨g, cap, cur, rfl, hb, hg, hnc, hcm, hcs, htk⟩
  · have e : l = [] := List.length_eq_zero_iff.1 (by omega)
    subst e
    exact ⟨none, 0, rfl, rfl, Rg.nil _ _ _⟩
  · refine ⟨some ⟨g, 0, none⟩, cap, rfl, by omega, fun k x hk => ⟨g, 0, rfl, (Array.getElem?_eq_some_iff.1 hg).1, ?_, ?_⟩⟩
    all_goals
      have hkl := (List.getElem?_eq_some_iff.1 hk).1
      obtain ⟨h0, h1⟩ := rgCells_at l k x hk
    · rw [cell_of_row w g (0 + k * 2) cur e (0, 0) hg, Nat.zero_add, ← Array.getElem?_toList]
      have h2 : (cur.toList.take (n * 2))[k * 2]? = some (.int .i64 x.1) := by rw [htk]; exact h0
      rw [List.getElem?_take_of_lt (by omega)] at h2
      exact h2
    · rw [cell_of_row w g (0 + k * 2 + 1) cur e (0, 0) hg, Nat.zero_add, ← Array.getElem?_toList]
      have h2 : (cur.toList.take (n * 2))[k * 2 + 1]? = some (.int .i64 x.2) := by rw [htk]; exact h1
      rw [List.getElem?_take_of_lt (by omega)] at h2
      exact h2
theorem own_lo {w : World} {B B' e n : Nat} {v : Value} {xs : List Value} (h : w.ownsRow B e 2 v n xs) (hB : B' ≤ B) : w.ownsRow B' e 2 v n xs :=
  ⟨h.1, h.2.imp id fun ⟨g, cap, cur, a, b, c⟩ => ⟨g, cap, cur, a, Nat.le_trans hB b, c⟩⟩
theorem own_keep {w w' : World} {B e n : Nat} {v : Value} {xs : List Value} (h : w.ownsRow B e 2 v n xs) (hk : ∀ g, B ≤ g → w'.heap[g]? = w.heap[g]?) : w'.ownsRow B e 2 v n xs :=
  ⟨h.1, h.2.imp id fun ⟨g, cap, cur, a, b, c, d⟩ => ⟨g, cap, cur, a, b, (hk g b).trans c, d⟩⟩
set_option maxHeartbeats 1000000 in
set_option maxRecDepth 100000 in
theorem ranges_some (ad : Addr) (n c : Nat) (l : List R2) (w : World) (hn : n = l.length) (hm : n ≤ 1000) (h : Rg w w.heap.size (some ad) l) :
    Calls Try.prog 41 #[.slice (some ad) n c] w fun e w' => ∃ v, e = .returned v ∧ w'.ownsRow w.heap.size 23 2 v n (rgCells l) ∧ Below w.heap.size w w' := by
  obtain ⟨i0, hi, hz0, hz1, hz2⟩ := info_parts infoRange
  have Hi : Hid (Try.prog.info? 23 = some i0) := hi
  have Hz0 := hidMk hz0
  have Hz1 := hidMk hz1
  have Hz2 := hidMk hz2
  clear hi hz0 hz1 hz2
  have Hn := hidMk hn
  have Hh := hidMk h
  clear hn h
  go_enter Try.func41, Try.ntmps41
  have own0 : (w.alloc (.cells #[] 23)).ownsRow w.heap.size 23 2 (.slice (some ⟨w.heap.size, 0, none⟩) 0 0) 0 [] :=
    ⟨rfl, .inr ⟨w.heap.size, 0, #[], rfl, Nat.le_refl _, Bk.new _ _ _, Nat.le_refl _, Nat.zero_le _, rfl, rfl⟩⟩
  have Ho := hidMk own0
  clear own0
  go_wp2_with (at_builtin; refine wpList_append_own_at _ rfl (.tmp 3) (.tmp 4) 28 rfl w.heap.size 23 i0 (.agg #[.int .i64 0, .int .i64 0]) 2 16 Try.underlying28 Hi.out Hz0.out Hz1.out Hz2.out rfl (by decide) _ 0 [] rfl Ho.out ad n c (rgCells l) rfl (by rw [rgCells_len, Hn.out]) (rg_news (Hh.out.up ((Below.refl _ _).alloc (Nat.le_refl _) _))) (rg_one l) (by unfold maxLen; omega) (by omega) (by simp) ?_; intro v' w3 own' hg _ at_)
  go_ret
  refine ⟨v', rfl, by simpa using own', ?_⟩
  exact ((Below.refl _ _).alloc (Nat.le_refl _) (.cells #[] 23)).grown hg (by simp) (fun g e => by cases e; exact Nat.le_refl _)
theorem ranges_none (n c : Nat) (hn : n = 0) (w : World) :
    Calls Try.prog 41 #[.slice none n c] w fun e w' => ∃ v, e = .returned v ∧ w'.ownsRow w.heap.size 23 2 v n [] ∧ Below w.heap.size w w' := by
  subst hn
  go_enter Try.func41, Try.ntmps41
  go_wp2_with fail
  go_ret
  exact ⟨_, rfl, ⟨rfl, .inr ⟨w.heap.size, 0, #[], rfl, Nat.le_refl _, Bk.new _ _ _, Nat.le_refl _, Nat.zero_le _, rfl, rfl⟩⟩, (Below.refl _ _).alloc (Nat.le_refl _) _⟩
theorem ranges_any (a : Option Addr) (n c : Nat) (l : List R2) (w : World) (hn : n = l.length) (hm : n ≤ 1000) (h : Rg w w.heap.size a l) :
    Calls Try.prog 41 #[.slice a n c] w fun e w' => ∃ v, e = .returned v ∧ w'.ownsRow w.heap.size 23 2 v n (rgCells l) ∧ Below w.heap.size w w' := by
  cases a with
  | some ad => exact ranges_some ad n c l w hn hm h
  | none =>
    have hl : l = [] := by
      cases l with
      | nil => rfl
      | cons x l =>
        obtain ⟨b, off, e, _⟩ := h 0 x rfl
        cases e
    subst hl
    exact ranges_none n c (by simpa using hn) w
set_option maxHeartbeats 1000000 in
set_option maxRecDepth 100000 in
theorem copyJob_any (J : Jb) (a : Option Addr) (n c : Nat) (w : World) (hn : n = J.sh.length) (hm : n ≤ 1000) (h : Rg w w.heap.size a J.sh) :
    Calls Try.prog 8 #[.agg (jobC J (.slice a n c))] w fun e w' => ∃ a' c', e = .returned (.agg (jobC J (.slice a' n c'))) ∧ w'.ownsRow w.heap.size 23 2 (.slice a' n c') n (rgCells J.sh) ∧ Below w.heap.size w w' := by
  have Hn := hidMk hn
  have Hh := hidMk h
  clear hn h
  have b0 : Bk ((w.alloc (.cells (jobC J (.slice a n c)) 30)).alloc (.cells (jobC zeroJ (.slice none 0 0)) 30)) w.heap.size 30 (jobC J (.slice a n c)) := (Bk.new w _ _).alloc _
  have b1 : Bk ((w.alloc (.cells (jobC J (.slice a n c)) 30)).alloc (.cells (jobC zeroJ (.slice none 0 0)) 30)) (w.heap.size + 1) 30 (jobC zeroJ (.slice none 0 0)) := Bk.newAt _ _ _ _ (by simp)
  have hW : Below w.heap.size w ((w.alloc (.cells (jobC J (.slice a n c)) 30)).alloc (.cells (jobC zeroJ (.slice none 0 0)) 30)) := ((Below.refl _ _).alloc (Nat.le_refl _) _).alloc (by simp) _
  have s15 := b0.at_ 15 (.slice a n c) rfl
  go_enter Try.func8, Try.ntmps8
  go_wp2_with fail
  refine (ranges_any a n c J.sh _ Hn.out hm (Hh.out.up hW)).mono ?_
  rintro e w1 ⟨v, rfl, own, hb1⟩
  obtain ⟨a', c', rfl, -, -⟩ := Rg.of_own own
  have hz1 := hb1.size
  simp only [World.size_alloc] at hz1
  have k0 := b0.below hb1 (by simp; omega)
  have k1 := b1.below hb1 (by simp)
  have hB1 : Below w.heap.size w w1 := hW.trans (hb1.mono (by simp; omega))
  have own1 : w1.ownsRow (w.heap.size + 1 + 1) 23 2 (.slice a' n c') n (rgCells J.sh) := by simpa using own
  have Own := hidMk own1
  have d15 := k0.at_ 15 (.slice a n c) rfl
  have f15 := k0.free 15
  clear own own1 hb1 b0 b1 hW s15
  have k0' : Bk (w1.setCell ⟨w.heap.size, 15, none⟩ (.slice a' n c')) w.heap.size 30 (jobC J (.slice a' n c')) := k0.put 15 _
  have k1' : Bk (w1.setCell ⟨w.heap.size, 15, none⟩ (.slice a' n c')) (w.heap.size + 1) 30 (jobC zeroJ (.slice none 0 0)) := k1.other (by simp) _
  go_wp2_with (first | (refine wpList_load_row rfl 30 _ rfl w.heap.size rfl _ (jobC J (.slice a' n c')) _ _ k0' Try.underlying30 rfl szJob ?_) | (refine wpList_store_row rfl 30 _ _ rfl (w.heap.size + 1) (jobC J (.slice a' n c')) rfl rfl _ _ k1' szJob rfl (oneJob _ _ _ _) ?_))
  refine bodyPost_ret (v := .agg (jobC J (.slice a' n c'))) (results_cell_row Try.results8 _ _ _ _ _ _ _ rfl (k1'.row _) Try.underlying30 rfl szJob) rfl ⟨a', c', rfl, ?_, ?_⟩
  · exact own_lo (own_keep Own.out fun g hg => (setRow_other _ _ _ _ (by omega)).trans (Below.heap_setCell _ _ _ _ (by show g ≠ w.heap.size; omega))) (by omega)
  · exact below_setRow (hB1.setCell (by simp) _) (by simp) _
end Go.Proofs.Ytbndjijlinpkmaa
