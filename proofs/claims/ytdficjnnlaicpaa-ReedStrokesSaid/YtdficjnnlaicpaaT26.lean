/- Part 26 of the proof: RefJ, RefK, RefL, RefM, RefN, RefO. -/
import Derived.Deep.WholeRow
import Derived.Test.YtdficjnnlaicpaaT25
import Derived.Test.YtdficjnnlaicpaaT13
import Derived.Test.YtdficjnnlaicpaaT20
/- The contract of the reference's after. -/
namespace Go.Proofs.Ytdficjnnlaicpaa
set_option linter.all false
open Go.RowKit
/-- What stays as it is while the strokes are gone through. -/
def RS (w w' : World) (J : Jb) (s : Value) : Prop := Below w.heap.size w w' ∧ Bk w' w.heap.size 30 (jobC J s) ∧ Bk w' (w.heap.size + 1) 25 #[.int .i64 0, .int .i64 0, .int .i64 0, .int .i64 0, .int .i64 0, .int .i64 0]
theorem RS.drew {w w' : World} {J : Jb} {s : Value} (h : RS w w' J s) : RS w w'.drew J s := ⟨h.1.drew, h.2.1.drew, h.2.2.drew⟩
theorem RS.six {w w' : World} {J : Jb} {s : Value} (h : RS w w' J s) (a b c d e f : Value) : RS w ((((((w'.setCell ⟨w.heap.size + 2, 0, none⟩ a).setCell ⟨w.heap.size + 2, 1, none⟩ b).setCell ⟨w.heap.size + 2, 2, none⟩ c).setCell ⟨w.heap.size + 2, 3, none⟩ d).setCell ⟨w.heap.size + 2, 4, none⟩ e).setCell ⟨w.heap.size + 2, 5, none⟩ f) J s := by
  obtain ⟨h1, h2, h3⟩ := h
  refine ⟨?_, ?_, ?_⟩
  · iterate 6 (refine Below.setCell ?_ (by simp) _)
    exact h1
  · iterate 6 (refine Bk.other ?_ (by simp) _)
    exact h2
  · iterate 6 (refine Bk.other ?_ (by simp) _)
    exact h3
theorem three_tongues (w : World) (J : Jb) (s : Value) : Bk (((w.alloc (.cells (jobC J s) 30)).alloc (.cells #[.int .i64 0, .int .i64 0, .int .i64 0, .int .i64 0, .int .i64 0, .int .i64 0] 25)).alloc (.cells (tgV J.tg) 25)) w.heap.size 30 (jobC J s) ∧ Bk (((w.alloc (.cells (jobC J s) 30)).alloc (.cells #[.int .i64 0, .int .i64 0, .int .i64 0, .int .i64 0, .int .i64 0, .int .i64 0] 25)).alloc (.cells (tgV J.tg) 25)) (w.heap.size + 1) 25 #[.int .i64 0, .int .i64 0, .int .i64 0, .int .i64 0, .int .i64 0, .int .i64 0] ∧ Bk (((w.alloc (.cells (jobC J s) 30)).alloc (.cells #[.int .i64 0, .int .i64 0, .int .i64 0, .int .i64 0, .int .i64 0, .int .i64 0] 25)).alloc (.cells (tgV J.tg) 25)) (w.heap.size + 2) 25 (tgV J.tg) := three_new w _ _ _ _ _ _
set_option maxHeartbeats 2000000 in
set_option maxRecDepth 100000 in
theorem refAfter_any (J : Jb) (sa : Option Addr) (sn sc : Nat) (a : Option Addr) (n c : Nat) (l : List Int) (w : World) (h : J.In 200) (hn : n = l.length) (hm : n ≤ 6) (hl : ∀ x ∈ l, x = 1 ∨ x = 2) (hr : Is w w.heap.size a l) :
    Calls Try.prog 58 #[.agg (jobC J (.slice sa sn sc)), .slice a n c] w fun e w' => e = .returned (.agg (tgV (afterS J J.tg l))) ∧ Below w.heap.size w w' := by
  have Hn := hidMk hn
  have Hh := hidMk hr
  have HJ := hidMk h
  have Hl := hidMk hl
  clear hn hr h hl
  obtain ⟨b0, b1, b2⟩ := three_tongues w J (.slice sa sn sc)
  unfold tgV at b2
  go_enter Try.func58, Try.ntmps58
  have c0 := (Bk.new w 30 (jobC J (.slice sa sn sc))).alloc (.cells #[.int .i64 0, .int .i64 0, .int .i64 0, .int .i64 0, .int .i64 0, .int .i64 0] 25)
  go_wp2_with fail
  clear c0
  go_loopw [6] (fun i wr => ∃ (k : Nat) (t : Tg), k ≤ n ∧ i = .int .i64 k ∧ Hid (t = afterS J J.tg (l.take k)) ∧ RS w wr J (.slice sa sn sc) ∧ Bk wr (w.heap.size + 2) 25 #[.int .i64 t.p1, .int .i64 t.p2, .int .i64 t.t1, .int .i64 t.t2, .int .i64 t.r1, .int .i64 t.r2]) (fun i _ => n - (intOf i).toNat)
  case atStart => exact ⟨0, J.tg, Nat.zero_le _, rfl, hidMk rfl, ⟨below_three _ _ _ _, b0, b1⟩, b2⟩
  case round =>
    clear b0 b1 b2
    obtain ⟨k, t, hk, rfl, HK, hS, ht⟩ := hrel
    have hz := hS.1.size
    by_cases hlt : k < n
    · have hkl : k < l.length := by rw [← Hn.out]; exact hlt
      obtain ⟨b, off, rfl, hbl, e1⟩ := Hh.out k l[k] (List.getElem?_eq_getElem hkl)
      have HT : Hid (t.In 1000) := by
        show t.In 1000
        have h1 := afterS_in J (HJ.out.mono (by decide)) (l.take k) J.tg 200 HJ.out.tg
        rw [HK.out]
        refine h1.mono ?_
        have := List.length_take_le k l
        omega
      go_wp2_with fail
      refine region_via (R := fun a_ e a' w' => e = .normal ∧ ∃ (v15 v16 v17 v18 v19 v20 v21 v22 : Value), a' = ((((((((a_.put (some 15) v15).put (some 16) v16).put (some 17) v17).put (some 18) v18).put (some 19) v19).put (some 20) v20).put (some 21) v21).put (some 22) v22) ∧ RS w w' J (.slice sa sn sc) ∧ Bk w' (w.heap.size + 2) 25 #[.int .i64 (strk J t l[k]).p1, .int .i64 (strk J t l[k]).p2, .int .i64 (strk J t l[k]).t1, .int .i64 (strk J t l[k]).t2, .int .i64 (strk J t l[k]).r1, .int .i64 (strk J t l[k]).r2]) ?_ ?_
      rotate_left
      · rintro e a' w' ⟨rfl, v15, v16, v17, v18, v19, v20, v21, v22, rfl, hs', ht'⟩
        simp only [Act.put, aT, aZ, aS]
        have HS' := hidMk hs'
        have HT' := hidMk ht'
        clear hS hs' ht' ht e1
        go_wp2_with fail
        go_roundw
        case rel => exact ⟨k + 1, strk J t l[k], by omega, by go_num, (by show _ = _; rw [take_snoc l k hkl, afterS_snoc, HK.out]), HS'.out, HT'.out⟩
        case measure => simp [intOf]; omega
      refine wp_region_held_drew (S := fun w' => RS w w' J (.slice sa sn sc)) (by kernel_rfl) hS.drew (fun hS0 => ?_)
      replace ht := ht.drew
      generalize hWd : wr.drew = wd at hS0 ht ⊢
      clear hWd hS
      refine wpAnyH_take (i := 0) (v := ?_) rfl (by kernel_rfl) (by kernel_rfl) (by kernel_rfl) (fun _ _ _ h => by cases h.1) (.inl ⟨by rfl, ?_⟩) (by assumption) ?_
      rotate_left
      · (intro w' hSw; (try dsimp only at hSw); (have j6 := hSw.2.1.at_ 6 (.int .i64 J.u1) rfl; have j7 := hSw.2.1.at_ 7 (.int .i64 J.u2) rfl; have j8 := hSw.2.1.at_ 8 (.int .i64 J.d1) rfl; have j9 := hSw.2.1.at_ 9 (.int .i64 J.d2) rfl; have j10 := hSw.2.1.at_ 10 (.int .i64 J.x1) rfl; have j11 := hSw.2.1.at_ 11 (.int .i64 J.x2) rfl; have j12 := hSw.2.1.at_ 12 (.int .i64 J.y1) rfl; have j13 := hSw.2.1.at_ 13 (.int .i64 J.y2) rfl; have j14 := hSw.2.1.at_ 14 (.int .i64 J.le) rfl; have s0 := (hSw.1.cell (p := ⟨b, off + k, none⟩) hbl).trans e1); go_simp <;> with_reducible rfl)
      (try simp only [Act.put, aT, aZ, aS])
      refine wpAnyH_take (i := 1) (v := ?_) rfl (by kernel_rfl) (by kernel_rfl) (by kernel_rfl) (fun _ _ _ h => by cases h.1) (.inl ⟨by rfl, ?_⟩) (by assumption) ?_
      rotate_left
      · (intro w' hSw; (try dsimp only at hSw); (have j6 := hSw.2.1.at_ 6 (.int .i64 J.u1) rfl; have j7 := hSw.2.1.at_ 7 (.int .i64 J.u2) rfl; have j8 := hSw.2.1.at_ 8 (.int .i64 J.d1) rfl; have j9 := hSw.2.1.at_ 9 (.int .i64 J.d2) rfl; have j10 := hSw.2.1.at_ 10 (.int .i64 J.x1) rfl; have j11 := hSw.2.1.at_ 11 (.int .i64 J.x2) rfl; have j12 := hSw.2.1.at_ 12 (.int .i64 J.y1) rfl; have j13 := hSw.2.1.at_ 13 (.int .i64 J.y2) rfl; have j14 := hSw.2.1.at_ 14 (.int .i64 J.le) rfl; have s0 := (hSw.1.cell (p := ⟨b, off + k, none⟩) hbl).trans e1); go_simp <;> with_reducible rfl)
      (try simp only [Act.put, aT, aZ, aS])
      refine wpAnyH_take (i := 3) (v := ?_) rfl (by kernel_rfl) (by kernel_rfl) (by kernel_rfl) (fun _ _ _ h => by cases h.1) (.inl ⟨by rfl, ?_⟩) (by assumption) ?_
      rotate_left
      · (intro w' hSw; (try dsimp only at hSw); (have j6 := hSw.2.1.at_ 6 (.int .i64 J.u1) rfl; have j7 := hSw.2.1.at_ 7 (.int .i64 J.u2) rfl; have j8 := hSw.2.1.at_ 8 (.int .i64 J.d1) rfl; have j9 := hSw.2.1.at_ 9 (.int .i64 J.d2) rfl; have j10 := hSw.2.1.at_ 10 (.int .i64 J.x1) rfl; have j11 := hSw.2.1.at_ 11 (.int .i64 J.x2) rfl; have j12 := hSw.2.1.at_ 12 (.int .i64 J.y1) rfl; have j13 := hSw.2.1.at_ 13 (.int .i64 J.y2) rfl; have j14 := hSw.2.1.at_ 14 (.int .i64 J.le) rfl; have s0 := (hSw.1.cell (p := ⟨b, off + k, none⟩) hbl).trans e1); go_simp <;> with_reducible rfl)
      (try simp only [Act.put, aT, aZ, aS])
      refine wpAnyH_take (i := 4) (v := ?_) rfl (by kernel_rfl) (by kernel_rfl) (by kernel_rfl) (fun _ _ _ h => by cases h.1) (.inl ⟨by rfl, ?_⟩) (by assumption) ?_
      rotate_left
      · (intro w' hSw; (try dsimp only at hSw); (have j6 := hSw.2.1.at_ 6 (.int .i64 J.u1) rfl; have j7 := hSw.2.1.at_ 7 (.int .i64 J.u2) rfl; have j8 := hSw.2.1.at_ 8 (.int .i64 J.d1) rfl; have j9 := hSw.2.1.at_ 9 (.int .i64 J.d2) rfl; have j10 := hSw.2.1.at_ 10 (.int .i64 J.x1) rfl; have j11 := hSw.2.1.at_ 11 (.int .i64 J.x2) rfl; have j12 := hSw.2.1.at_ 12 (.int .i64 J.y1) rfl; have j13 := hSw.2.1.at_ 13 (.int .i64 J.y2) rfl; have j14 := hSw.2.1.at_ 14 (.int .i64 J.le) rfl; have s0 := (hSw.1.cell (p := ⟨b, off + k, none⟩) hbl).trans e1); go_simp <;> with_reducible rfl)
      (try simp only [Act.put, aT, aZ, aS])
      refine wpAnyH_take (i := 5) (v := ?_) rfl (by kernel_rfl) (by kernel_rfl) (by kernel_rfl) (fun _ _ _ h => by cases h.1) (.inl ⟨by rfl, ?_⟩) (by assumption) ?_
      rotate_left
      · (intro w' hSw; (try dsimp only at hSw); (have j6 := hSw.2.1.at_ 6 (.int .i64 J.u1) rfl; have j7 := hSw.2.1.at_ 7 (.int .i64 J.u2) rfl; have j8 := hSw.2.1.at_ 8 (.int .i64 J.d1) rfl; have j9 := hSw.2.1.at_ 9 (.int .i64 J.d2) rfl; have j10 := hSw.2.1.at_ 10 (.int .i64 J.x1) rfl; have j11 := hSw.2.1.at_ 11 (.int .i64 J.x2) rfl; have j12 := hSw.2.1.at_ 12 (.int .i64 J.y1) rfl; have j13 := hSw.2.1.at_ 13 (.int .i64 J.y2) rfl; have j14 := hSw.2.1.at_ 14 (.int .i64 J.le) rfl; have s0 := (hSw.1.cell (p := ⟨b, off + k, none⟩) hbl).trans e1); go_simp <;> with_reducible rfl)
      (try simp only [Act.put, aT, aZ, aS])
      refine wpAnyH_take (i := 6) (v := ?_) rfl (by kernel_rfl) (by kernel_rfl) (by kernel_rfl) (fun _ _ _ h => by cases h.1) (.inl ⟨by rfl, ?_⟩) (by assumption) ?_
      rotate_left
      · (intro w' hSw; (try dsimp only at hSw); (have j6 := hSw.2.1.at_ 6 (.int .i64 J.u1) rfl; have j7 := hSw.2.1.at_ 7 (.int .i64 J.u2) rfl; have j8 := hSw.2.1.at_ 8 (.int .i64 J.d1) rfl; have j9 := hSw.2.1.at_ 9 (.int .i64 J.d2) rfl; have j10 := hSw.2.1.at_ 10 (.int .i64 J.x1) rfl; have j11 := hSw.2.1.at_ 11 (.int .i64 J.x2) rfl; have j12 := hSw.2.1.at_ 12 (.int .i64 J.y1) rfl; have j13 := hSw.2.1.at_ 13 (.int .i64 J.y2) rfl; have j14 := hSw.2.1.at_ 14 (.int .i64 J.le) rfl; have s0 := (hSw.1.cell (p := ⟨b, off + k, none⟩) hbl).trans e1); go_simp <;> with_reducible rfl)
      (try simp only [Act.put, aT, aZ, aS])
      refine wpAnyH_ready (rs := [2]) (by kernel_rfl) (by simp) ?_
      refine AllReadyH.cons rfl (fun K hK => ?_) ?_
      · have t0 := ht.at_ 0 (.int .i64 t.p1) rfl
        have t1 := ht.at_ 1 (.int .i64 t.p2) rfl
        have t2 := ht.at_ 2 (.int .i64 t.t1) rfl
        have t3 := ht.at_ 3 (.int .i64 t.t2) rfl
        have t4 := ht.at_ 4 (.int .i64 t.r1) rfl
        have t5 := ht.at_ 5 (.int .i64 t.r2) rfl
        go_simp
        clear t0 t1 t2 t3 t4 t5
        refine hK.out _ _ hS0 (fun _ => ?_)
        clear hK K
        (try simp only [Act.put, aT, aZ, aS])
        refine wpAnyH_ready (rs := [7]) (by kernel_rfl) (by simp) ?_
        refine AllReadyH.cons rfl (fun K hK => ?_) ?_
        · go_simp
          go_at_call 75
          refine (refStroke_any J t _ (Hl.out _ (List.getElem_mem hkl)) _ (HJ.out.mono (by decide)) HT.out).mono ?_
          rintro e w2 ⟨rfl, hb2⟩
          go_wp2_with fail
          have hz2 := hb2.size
          have ht2 := ht.below hb2 ht.lt
          have hS2 : RS w w2 J (.slice sa sn sc) := ⟨hS0.1.trans (hb2.mono hS0.1.size), hS0.2.1.below hb2 hS0.2.1.lt, hS0.2.2.below hb2 hS0.2.2.lt⟩
          refine hK.out _ _ hS2 (fun _ => ?_)
          clear hK K
          (try simp only [Act.put, aT, aZ, aS])
          refine wpAnyH_ready (rs := [8]) (by kernel_rfl) (by simp) ?_
          refine AllReadyH.cons rfl (fun K hK => ?_) ?_
          · have t0 := ht2.at_ 0 (.int .i64 t.p1) rfl
            have t1 := ht2.at_ 1 (.int .i64 t.p2) rfl
            have t2 := ht2.at_ 2 (.int .i64 t.t1) rfl
            have t3 := ht2.at_ 3 (.int .i64 t.t2) rfl
            have t4 := ht2.at_ 4 (.int .i64 t.r1) rfl
            have t5 := ht2.at_ 5 (.int .i64 t.r2) rfl
            have f0 := ht2.free 0
            have f1 := ht2.free 1
            have f2 := ht2.free 2
            have f3 := ht2.free 3
            have f4 := ht2.free 4
            have f5 := ht2.free 5
            unfold tgV
            go_wp2_with fail
            clear t0 t1 t2 t3 t4 t5 f0 f1 f2 f3 f4 f5
            have ht3 := ((((((ht2.put 0 (.int .i64 (strk J t l[k]).p1)).put 1 (.int .i64 (strk J t l[k]).p2)).put 2 (.int .i64 (strk J t l[k]).t1)).put 3 (.int .i64 (strk J t l[k]).t2)).put 4 (.int .i64 (strk J t l[k]).r1)).put 5 (.int .i64 (strk J t l[k]).r2))
            have hS3 : RS w ((((((w2.setCell ⟨w.heap.size + 2, 0, none⟩ (.int .i64 (strk J t l[k]).p1)).setCell ⟨w.heap.size + 2, 1, none⟩ (.int .i64 (strk J t l[k]).p2)).setCell ⟨w.heap.size + 2, 2, none⟩ (.int .i64 (strk J t l[k]).t1)).setCell ⟨w.heap.size + 2, 3, none⟩ (.int .i64 (strk J t l[k]).t2)).setCell ⟨w.heap.size + 2, 4, none⟩ (.int .i64 (strk J t l[k]).r1)).setCell ⟨w.heap.size + 2, 5, none⟩ (.int .i64 (strk J t l[k]).r2)) J (.slice sa sn sc) := hS2.six _ _ _ _ _ _
            refine hK.out _ _ hS3 (fun _ => ?_)
            clear hK K
            (try simp only [Act.put, aT, aZ, aS])
            refine wpAnyH_done (by kernel_rfl) ?_ _
            exact ⟨rfl, _, _, _, _, _, _, _, _, rfl, hS3, ht3⟩
          exact AllReadyH.nil
        exact AllReadyH.nil
      exact AllReadyH.nil
    · obtain rfl : k = n := by omega
      have t0 := ht.at_ 0 (.int .i64 t.p1) rfl
      have t1 := ht.at_ 1 (.int .i64 t.p2) rfl
      have t2 := ht.at_ 2 (.int .i64 t.t1) rfl
      have t3 := ht.at_ 3 (.int .i64 t.t2) rfl
      have t4 := ht.at_ 4 (.int .i64 t.r1) rfl
      have t5 := ht.at_ 5 (.int .i64 t.r2) rfl
      have z0 := hS.2.2.at_ 0 _ rfl
      have z1 := hS.2.2.at_ 1 _ rfl
      have z2 := hS.2.2.at_ 2 _ rfl
      have z3 := hS.2.2.at_ 3 _ rfl
      have z4 := hS.2.2.at_ 4 _ rfl
      have z5 := hS.2.2.at_ 5 _ rfl
      have f0 := hS.2.2.free 0
      have f1 := hS.2.2.free 1
      have f2 := hS.2.2.free 2
      have f3 := hS.2.2.free 3
      have f4 := hS.2.2.free 4
      have f5 := hS.2.2.free 5
      go_wp2
      have e : l.take k = l := by rw [Hn.out]; exact List.take_length
      refine bodyPost_ret (results_cell_row Try.results58 _ _ _ _ _ _ _ rfl ((((((hS.2.2.put 0 _).put 1 _).put 2 _).put 3 _).put 4 _).put 5 _) Try.underlying25 rfl szTongue) rfl ⟨?_, ?_⟩
      · have HK' := HK.out
        rw [e] at HK'
        rw [← HK']; rfl
      · iterate 6 (refine Below.setCell ?_ (by simp) _)
        exact hS.1
end Go.Proofs.Ytdficjnnlaicpaa
/- The contract of the reference's checkStrokes. -/
namespace Go.Proofs.Ytdficjnnlaicpaa
set_option linter.all false
open Go.RowKit
theorem num12 (x : Int) : (numE x 1 2 == 0) = decide (x = 1 ∨ x = 2) := by
  unfold numE
  by_cases h : x = 1 ∨ x = 2
  · rw [if_neg (by omega), decide_eq_true h]; rfl
  · rw [if_pos (by omega), decide_eq_false h]; rfl
set_option maxHeartbeats 2000000 in
set_option maxRecDepth 100000 in
theorem refStrokes_any (J : Jb) (a : Option Addr) (n c : Nat) (b : Option Addr) (m d : Nat) (l : List Int) (w : World) (hn : n = J.sh.length) (hm : n ≤ 9223372036854775807) (h : Rg w w.heap.size a J.sh)
    (hmn : m = l.length) (hmm : m ≤ 9223372036854775807) (hl : Is w w.heap.size b l) :
    Calls Try.prog 57 #[.agg (jobC J (.slice a n c)), .slice b m d] w fun e w' => e = .returned (.int .i64 (filedE J l)) ∧ Below w.heap.size w w' := by
  have Hn := hidMk hn
  have Hh := hidMk h
  have Hm := hidMk hmn
  have Hl := hidMk hl
  clear hn h hmn hl
  have b0 := Bk.new w 30 (jobC J (.slice a n c))
  have hW : Below w.heap.size w (w.alloc (.cells (jobC J (.slice a n c)) 30)) := (Below.refl _ _).alloc (Nat.le_refl _) _
  by_cases hc : J.check = 0
  · have hcb : (J.check != 0) = false := by simp [hc]
    have HF : Hid (filedE J l = strokesE l) := by show filedE J l = strokesE l; unfold filedE; rw [if_pos hc]
    clear hc
    by_cases h6 : 6 < m
    · have He : Hid (strokesE l = 6) := by show strokesE l = 6; unfold strokesE; rw [if_pos (by rw [← Hm.out]; exact h6)]
      go_enter Try.func57, Try.ntmps57
      go_wp2_with (refine wpList_load_row rfl 30 _ rfl w.heap.size rfl _ (jobC J (.slice a n c)) _ _ b0 Try.underlying30 rfl szJob ?_)
      refine (refCheck_any J a n c _ Hn.out hm (Hh.out.up hW)).mono ?_
      rintro e w1 ⟨rfl, hb⟩
      have hB := hW.trans (hb.mono hW.size)
      clear hb b0 hW
      go_wp2
      go_ret
      exact ⟨ret_i (by rw [HF.out, He.out]), hB⟩
    · have He : Hid (strokesE l = kindE l) := by show strokesE l = kindE l; unfold strokesE; rw [if_neg (by rw [← Hm.out]; exact h6)]
      go_enter Try.func57, Try.ntmps57
      go_wp2_with (refine wpList_load_row rfl 30 _ rfl w.heap.size rfl _ (jobC J (.slice a n c)) _ _ b0 Try.underlying30 rfl szJob ?_)
      refine (refCheck_any J a n c _ Hn.out hm (Hh.out.up hW)).mono ?_
      rintro e w1 ⟨rfl, hb⟩
      have hB1 := hW.trans (hb.mono hW.size)
      clear hb b0 hW
      go_wp2_with fail
      go_loopw [6] (fun i wr => ∃ k : Nat, k ≤ m ∧ i = .int .i64 k ∧ Hid (kindE l = kindE (l.drop k)) ∧ Below w.heap.size w wr) (fun i _ => m - (intOf i).toNat)
      case atStart => exact ⟨0, Nat.zero_le _, rfl, hidMk rfl, hB1⟩
      case round =>
        clear hB1
        obtain ⟨k, hk, rfl, Hf, hB⟩ := hrel
        by_cases hlt : k < m
        · have hkl : k < l.length := by rw [← Hm.out]; exact hlt
          obtain ⟨q, off, rfl, hbl, e0⟩ := Hl.out k l[k] (List.getElem?_eq_getElem hkl)
          obtain ⟨x, Hx⟩ : ∃ x, Hid (x = l[k]) := ⟨_, hidMk rfl⟩
          rw [← Hx.out] at e0
          have Hd : Hid (l.drop k = x :: l.drop (k + 1)) := by show _ = _; rw [Hx.out]; exact List.drop_eq_getElem_cons hkl
          replace e0 := (hB.cell (p := ⟨q, off + k, none⟩) hbl).trans e0
          have hz := hB.size
          have hbl' : q < wr.heap.size := by omega
          by_cases hi : x = 1 ∨ x = 2
          · have hv : (numE x 1 2 == 0) = true := by rw [num12, decide_eq_true hi]
            have Hi := hidMk hi
            clear hi
            go_wp2_with (go_at_call 48; refine (among_any _ _ _ _).mono ?_; rw [hv]; rintro e w2 ⟨rfl, rfl⟩)
            go_roundw
            case rel => exact ⟨k + 1, by omega, by go_num, hidMk (by rw [Hf.out, Hd.out, kindE, if_pos Hi.out]), hB⟩
            case measure => simp [intOf]; omega
          · have hv : (numE x 1 2 == 0) = false := by rw [num12, decide_eq_false hi]
            have Hi := hidMk hi
            clear hi
            go_wp2_with (go_at_call 48; refine (among_any _ _ _ _).mono ?_; rw [hv]; rintro e w2 ⟨rfl, rfl⟩)
            go_ret
            exact ⟨ret_i (by rw [HF.out, He.out, Hf.out, Hd.out, kindE, if_neg Hi.out]), hB⟩
        · obtain rfl : k = m := by omega
          go_wp2_with fail
          go_ret
          exact ⟨ret_i (by rw [HF.out, He.out, Hf.out, List.drop_of_length_le (by rw [← Hm.out]; omega)]; rfl), hB⟩
  · have hcb : (J.check != 0) = true := by simpa using hc
    have HF : Hid (filedE J l = J.check) := by show filedE J l = J.check; unfold filedE; rw [if_neg hc]
    clear hc
    go_enter Try.func57, Try.ntmps57
    go_wp2_with (refine wpList_load_row rfl 30 _ rfl w.heap.size rfl _ (jobC J (.slice a n c)) _ _ b0 Try.underlying30 rfl szJob ?_)
    refine (refCheck_any J a n c _ Hn.out hm (Hh.out.up hW)).mono ?_
    rintro e w1 ⟨rfl, hb⟩
    have hB := hW.trans (hb.mono hW.size)
    clear hb b0 hW
    go_wp2
    go_ret
    exact ⟨ret_i (by rw [HF.out]), hB⟩
end Go.Proofs.Ytdficjnnlaicpaa
/- The contract of the reference's After. -/
namespace Go.Proofs.Ytdficjnnlaicpaa
set_option linter.all false
open Go.RowKit
set_option maxHeartbeats 2000000 in
set_option maxRecDepth 100000 in
theorem refAfterX_any (J : Jb) (a : Option Addr) (n c : Nat) (b : Option Addr) (m d : Nat) (l : List Int) (w : World) (hn : n = J.sh.length) (hm : n ≤ 9223372036854775807) (h : Rg w w.heap.size a J.sh)
    (hmn : m = l.length) (hmm : m ≤ 9223372036854775807) (hl : Is w w.heap.size b l) :
    Calls Try.prog 23 #[.agg (jobC J (.slice a n c)), .slice b m d] w (AfterAns J l w) := by
  have Hn := hidMk hn
  have Hh := hidMk h
  have Hm := hidMk hmn
  have Hl := hidMk hl
  clear hn h hmn hl
  have b0 : Bk ((w.alloc (.cells (jobC J (.slice a n c)) 30)).alloc (.cells #[.int .i64 0, .int .i64 0, .int .i64 0, .int .i64 0, .int .i64 0, .int .i64 0] 25)) w.heap.size 30 (jobC J (.slice a n c)) := (Bk.new w _ _).alloc _
  have b1 : Bk ((w.alloc (.cells (jobC J (.slice a n c)) 30)).alloc (.cells #[.int .i64 0, .int .i64 0, .int .i64 0, .int .i64 0, .int .i64 0, .int .i64 0] 25)) (w.heap.size + 1) 25 #[.int .i64 0, .int .i64 0, .int .i64 0, .int .i64 0, .int .i64 0, .int .i64 0] := Bk.newAt _ _ _ _ (by simp)
  have hW : Below w.heap.size w ((w.alloc (.cells (jobC J (.slice a n c)) 30)).alloc (.cells #[.int .i64 0, .int .i64 0, .int .i64 0, .int .i64 0, .int .i64 0, .int .i64 0] 25)) := below_two _ _ _
  by_cases hc : filedE J l = 0
  · have hcb : (filedE J l != 0) = false := by simp [hc]
    have hok := filed_ok hc
    have hkd := hidMk (kindE_ok l (by have h2 := hc; unfold filedE strokesE at h2; rw [if_pos hok.1, if_neg (by omega)] at h2; exact h2))
    have HIN := hidMk ((check_ok hok.1).inn.mono (by decide : (100 : Int) ≤ 200))
    have hm6 : m ≤ 6 := by rw [Hm.out]; exact hok.2
    have HA : Hid (filedE J l = 0) := hc
    clear hc hok
    go_enter Try.func23, Try.ntmps23
    go_wp2_with (refine wpList_load_row rfl 30 _ rfl w.heap.size rfl _ (jobC J (.slice a n c)) _ _ b0 Try.underlying30 rfl szJob ?_)
    refine (refStrokes_any J a n c b m d l _ Hn.out hm (Hh.out.up hW) Hm.out hmm (Hl.out.up hW)).mono ?_
    rintro e w1 ⟨rfl, hb⟩
    have hz1 := hb.size
    simp only [World.size_alloc] at hz1
    have k0 := b0.below hb (by simp; omega)
    have k1 := b1.below hb (by simp)
    have hB1 := hW.trans (hb.mono hW.size)
    clear hb b0 b1 hW
    go_wp2_with (refine wpList_load_row rfl 30 _ rfl w.heap.size rfl _ (jobC J (.slice a n c)) _ _ k0 Try.underlying30 rfl szJob ?_)
    refine (refAfter_any J a n c b m d l _ HIN.out Hm.out hm6 hkd.out (Hl.out.up hB1)).mono ?_
    rintro e w2 ⟨rfl, hb⟩
    have q1 := k1.below hb k1.lt
    have hB2 := hB1.trans (hb.mono hB1.size)
    clear hb k0 k1 hB1
    have z0 := q1.at_ 0 _ rfl
    have z1 := q1.at_ 1 _ rfl
    have z2 := q1.at_ 2 _ rfl
    have z3 := q1.at_ 3 _ rfl
    have z4 := q1.at_ 4 _ rfl
    have z5 := q1.at_ 5 _ rfl
    have f0 := q1.free 0
    have f1 := q1.free 1
    have f2 := q1.free 2
    have f3 := q1.free 3
    have f4 := q1.free 4
    have f5 := q1.free 5
    unfold tgV
    go_wp2
    refine bodyPost_ret (results_row_tmp Try.results23 _ _ _ _ _ _ rfl rfl ((((((q1.put 0 _).put 1 _).put 2 _).put 3 _).put 4 _).put 5 _) Try.underlying25 szTongue) rfl ⟨by rw [if_pos HA.out]; rfl, ?_⟩
    iterate 6 (refine Below.setCell ?_ (by simp) _)
    exact hB2
  · have hcb : (filedE J l != 0) = true := by simpa using hc
    have HA := hidMk hc
    clear hc
    go_enter Try.func23, Try.ntmps23
    go_wp2_with (refine wpList_load_row rfl 30 _ rfl w.heap.size rfl _ (jobC J (.slice a n c)) _ _ b0 Try.underlying30 rfl szJob ?_)
    refine (refStrokes_any J a n c b m d l _ Hn.out hm (Hh.out.up hW) Hm.out hmm (Hl.out.up hW)).mono ?_
    rintro e w1 ⟨rfl, hb⟩
    have hz1 := hb.size
    simp only [World.size_alloc] at hz1
    have q1 := b1.below hb (by simp)
    have hB2 := hW.trans (hb.mono hW.size)
    clear hb b0 b1 hW
    have z0 := q1.at_ 0 _ rfl
    have z1 := q1.at_ 1 _ rfl
    have z2 := q1.at_ 2 _ rfl
    have z3 := q1.at_ 3 _ rfl
    have z4 := q1.at_ 4 _ rfl
    have z5 := q1.at_ 5 _ rfl
    have f0 := q1.free 0
    have f1 := q1.free 1
    have f2 := q1.free 2
    have f3 := q1.free 3
    have f4 := q1.free 4
    have f5 := q1.free 5
    go_wp2
    refine bodyPost_ret (results_row_tmp Try.results23 _ _ _ _ _ _ rfl rfl ((((((q1.put 0 _).put 1 _).put 2 _).put 3 _).put 4 _).put 5 _) Try.underlying25 szTongue) rfl ⟨by rw [if_neg HA.out]; rfl, ?_⟩
    iterate 6 (refine Below.setCell ?_ (by simp) _)
    exact hB2
end Go.Proofs.Ytdficjnnlaicpaa
/- The contract of the reference's Spoiled. -/
namespace Go.Proofs.Ytdficjnnlaicpaa
set_option linter.all false
open Go.RowKit
def TS (w w' : World) (J : Jb) (s : Value) : Prop := Below w.heap.size w w' ∧ Bk w' w.heap.size 30 (jobC J s)
theorem TS.drew {w w' : World} {J : Jb} {s : Value} (h : TS w w' J s) : TS w w'.drew J s := ⟨h.1.drew, h.2.drew⟩
def spoilX (J : Jb) (l : List Int) : Int × Int := if filedE J l = 0 then (spoilI J.le (afterS J J.tg l), 0) else (0, filedE J l)
set_option maxHeartbeats 2000000 in
set_option maxRecDepth 100000 in
theorem refSpoiledX_any (J : Jb) (a : Option Addr) (n c : Nat) (b : Option Addr) (m d : Nat) (l : List Int) (w : World) (hn : n = J.sh.length) (hm : n ≤ 9223372036854775807) (h : Rg w w.heap.size a J.sh)
    (hmn : m = l.length) (hmm : m ≤ 9223372036854775807) (hl : Is w w.heap.size b l) :
    Calls Try.prog 27 #[.agg (jobC J (.slice a n c)), .slice b m d] w fun e w' => e = .returned (.tuple #[.int .i64 (spoilX J l).1, .int .i64 (spoilX J l).2]) ∧ Below w.heap.size w w' := by
  have Hn := hidMk hn
  have Hh := hidMk h
  have Hm := hidMk hmn
  have Hl := hidMk hl
  clear hn h hmn hl
  have b0 := Bk.new w 30 (jobC J (.slice a n c))
  have hW : Below w.heap.size w (w.alloc (.cells (jobC J (.slice a n c)) 30)) := (Below.refl _ _).alloc (Nat.le_refl _) _
  by_cases hc : filedE J l = 0
  · have hcb : (filedE J l != 0) = false := by simp [hc]
    have hok := filed_ok hc
    have hkd := hidMk (kindE_ok l (by have h2 := hc; unfold filedE strokesE at h2; rw [if_pos hok.1, if_neg (by omega)] at h2; exact h2))
    have HIN := hidMk ((check_ok hok.1).inn.mono (by decide : (100 : Int) ≤ 200))
    have hm6 : m ≤ 6 := by rw [Hm.out]; exact hok.2
    have HV : Hid (spoilX J l = (spoilI J.le (afterS J J.tg l), 0)) := by show spoilX J l = _; unfold spoilX; rw [if_pos hc]
    clear hc hok
    go_enter Try.func27, Try.ntmps27
    go_wp2_with (refine wpList_load_row rfl 30 _ rfl w.heap.size rfl _ (jobC J (.slice a n c)) _ _ b0 Try.underlying30 rfl szJob ?_)
    refine (refStrokes_any J a n c b m d l _ Hn.out hm (Hh.out.up hW) Hm.out hmm (Hl.out.up hW)).mono ?_
    rintro e w1 ⟨rfl, hb⟩
    have hS : TS w w1 J (.slice a n c) := ⟨hW.trans (hb.mono hW.size), b0.below hb b0.lt⟩
    clear hb b0 hW
    go_wp2_with fail
    refine region_via (R := fun a_ e a' w' => e = .normal ∧ ∃ (v13 v14 v15 v16 v17 v18 : Value), a' = ((((((((a_.put (some 13) v13).put (some 14) v14).put (some 15) v15).put (some 16) v16).put (some 17) v17).put (some 18) v18).put (some 4) (.int .i64 (spoilI J.le (afterS J J.tg l)))).put (some 5) (.int .i64 0)) ∧ TS w w' J (.slice a n c)) ?_ ?_
    rotate_left
    · rintro e a' w' ⟨rfl, v13, v14, v15, v16, v17, v18, rfl, hs'⟩
      simp only [Act.put, aT, aZ, aS]
      have HS' := hidMk hs'
      clear hS hs'
      go_wp2_with fail
      refine bodyPost_ret (v := .tuple #[.int .i64 (spoilI J.le (afterS J J.tg l)), .int .i64 0]) (by simp [results, Try.results27, go_sem]) rfl ⟨by rw [HV.out], HS'.out.1⟩
    refine wp_region_held_drew (S := fun w' => TS w w' J (.slice a n c)) (by kernel_rfl) hS.drew (fun hS0 => ?_)
    generalize hWd : w1.drew = wd at hS0 ⊢
    clear hWd hS
    refine wpAnyH_take (i := 0) (v := ?_) rfl (by kernel_rfl) (by kernel_rfl) (by kernel_rfl) (fun _ _ _ h => by cases h.1) (.inl ⟨by rfl, ?_⟩) (by assumption) ?_
    rotate_left
    · (intro w' hSw; (try dsimp only at hSw); skip; go_simp <;> with_reducible rfl)
    (try simp only [Act.put, aT, aZ, aS])
    refine wpAnyH_take (i := 1) (v := ?_) rfl (by kernel_rfl) (by kernel_rfl) (by kernel_rfl) (fun _ _ _ h => by cases h.1) (.inl ⟨by rfl, ?_⟩) (by assumption) ?_
    rotate_left
    · (intro w' hSw; (try dsimp only at hSw); (have j6 := hSw.2.at_ 6 (.int .i64 J.u1) rfl; have j7 := hSw.2.at_ 7 (.int .i64 J.u2) rfl; have j8 := hSw.2.at_ 8 (.int .i64 J.d1) rfl; have j9 := hSw.2.at_ 9 (.int .i64 J.d2) rfl; have j10 := hSw.2.at_ 10 (.int .i64 J.x1) rfl; have j11 := hSw.2.at_ 11 (.int .i64 J.x2) rfl; have j12 := hSw.2.at_ 12 (.int .i64 J.y1) rfl; have j13 := hSw.2.at_ 13 (.int .i64 J.y2) rfl; have j14 := hSw.2.at_ 14 (.int .i64 J.le) rfl); go_simp <;> with_reducible rfl)
    (try simp only [Act.put, aT, aZ, aS])
    refine wpAnyH_take (i := 2) rfl (by kernel_rfl) (by kernel_rfl) (by kernel_rfl) (fun _ _ _ h => by cases h.1) (yields_row (by rfl) 30 _ rfl w.heap.size (jobC J (.slice a n c)) rfl 30 (fun w hw => hw.2) Try.underlying30 szJob) (by assumption) ?_
    (try simp only [Act.put, aT, aZ, aS])
    refine wpAnyH_take (i := 3) (v := ?_) rfl (by kernel_rfl) (by kernel_rfl) (by kernel_rfl) (fun _ _ _ h => by cases h.1) (.inl ⟨by rfl, ?_⟩) (by assumption) ?_
    rotate_left
    · (intro w' hSw; (try dsimp only at hSw); skip; go_simp <;> with_reducible rfl)
    (try simp only [Act.put, aT, aZ, aS])
    refine wpAnyH_ready (rs := [4]) (by kernel_rfl) (by simp) ?_
    refine AllReadyH.cons rfl (fun K hK => ?_) ?_
    · go_simp
      go_at_call 58
      refine (refAfter_any J a n c b m d l _ HIN.out Hm.out hm6 hkd.out (Hl.out.up hS0.1)).mono ?_
      rintro e w2 ⟨rfl, hb2⟩
      go_wp2_with fail
      have hS2 : TS w w2 J (.slice a n c) := ⟨hS0.1.trans (hb2.mono hS0.1.size), hS0.2.below hb2 hS0.2.lt⟩
      refine hK.out _ _ hS2 (fun _ => ?_)
      clear hK K
      (try simp only [Act.put, aT, aZ, aS])
      refine wpAnyH_ready (rs := [5]) (by kernel_rfl) (by simp) ?_
      refine AllReadyH.cons rfl (fun K hK => ?_) ?_
      · go_simp
        go_at_call 62
        refine (refSpoiled_any J (afterS J J.tg l) _).mono ?_
        rintro e w3 ⟨rfl, hb3⟩
        go_wp2_with fail
        have hS3 : TS w w3 J (.slice a n c) := ⟨hS2.1.trans (hb3.mono hS2.1.size), hS2.2.below hb3 hS2.2.lt⟩
        refine hK.out _ _ hS3 (fun _ => ?_)
        clear hK K
        (try simp only [Act.put, aT, aZ, aS])
        refine wpAnyH_ready (rs := [6]) (by kernel_rfl) (by simp) ?_
        refine AllReadyH.cons rfl (fun K hK => ?_) ?_
        · go_simp
          refine hK.out _ _ hS3 (fun _ => ?_)
          clear hK K
          (try simp only [Act.put, aT, aZ, aS])
          refine wpAnyH_ready (rs := [7]) (by kernel_rfl) (by simp) ?_
          refine AllReadyH.cons rfl (fun K hK => ?_) ?_
          · go_simp
            refine hK.out _ _ hS3 (fun _ => ?_)
            clear hK K
            (try simp only [Act.put, aT, aZ, aS])
            refine wpAnyH_done (by kernel_rfl) ?_ _
            exact ⟨rfl, _, _, _, _, _, _, rfl, hS3⟩
          exact AllReadyH.nil
        exact AllReadyH.nil
      exact AllReadyH.nil
    exact AllReadyH.nil
  · have hcb : (filedE J l != 0) = true := by simpa using hc
    have HV : Hid (spoilX J l = (0, filedE J l)) := by show spoilX J l = _; unfold spoilX; rw [if_neg hc]
    clear hc
    go_enter Try.func27, Try.ntmps27
    go_wp2_with (refine wpList_load_row rfl 30 _ rfl w.heap.size rfl _ (jobC J (.slice a n c)) _ _ b0 Try.underlying30 rfl szJob ?_)
    refine (refStrokes_any J a n c b m d l _ Hn.out hm (Hh.out.up hW) Hm.out hmm (Hl.out.up hW)).mono ?_
    rintro e w1 ⟨rfl, hb⟩
    have hB := hW.trans (hb.mono hW.size)
    clear hb b0 hW
    go_wp2
    refine bodyPost_ret (v := .tuple #[.int .i64 0, .int .i64 (filedE J l)]) (by simp [results, Try.results27, go_sem]) rfl ⟨by rw [HV.out], hB⟩
end Go.Proofs.Ytdficjnnlaicpaa
/- The contract of the reference's fine. -/
namespace Go.Proofs.Ytdficjnnlaicpaa
set_option linter.all false
open Go.RowKit
def FS (w w' : World) (g : Nat) (J : Jb) (s : Value) (t : Tg) : Prop := Below w.heap.size w w' ∧ Bk w' w.heap.size 30 (jobC J s) ∧ Bk w' g 25 #[.int .i64 t.p1, .int .i64 t.p2, .int .i64 t.t1, .int .i64 t.t2, .int .i64 t.r1, .int .i64 t.r2]
theorem FS.drew {w w' : World} {g : Nat} {J : Jb} {s : Value} {t : Tg} (h : FS w w' g J s t) : FS w w'.drew g J s t := ⟨h.1.drew, h.2.1.drew, h.2.2.drew⟩
set_option maxHeartbeats 2000000 in
set_option maxRecDepth 100000 in
theorem refFine_any (J : Jb) (a : Option Addr) (n c : Nat) (b : Option Addr) (m d : Nat) (l : List Int) (w : World) (hI : J.In 200) (hn : n = J.sh.length) (h : Rg w w.heap.size a J.sh) (hmn : m = l.length) (hm6 : m ≤ 6) (hk : ∀ x ∈ l, x = 1 ∨ x = 2) (hl : Is w w.heap.size b l) :
    Calls Try.prog 64 #[.agg (jobC J (.slice a n c)), .slice b m d] w fun e w' => e = .returned (.int .i64 (fineI J (afterS J J.tg l))) ∧ Below w.heap.size w w' := by
  have Hn := hidMk hn
  have Hh := hidMk h
  have Hm := hidMk hmn
  have Hl := hidMk hl
  clear hn h hmn hl
  have HIN := hidMk hI
  have hkd := hidMk hk
  clear hI hk
  have b0 := Bk.new w 30 (jobC J (.slice a n c))
  have hW : Below w.heap.size w (w.alloc (.cells (jobC J (.slice a n c)) 30)) := (Below.refl _ _).alloc (Nat.le_refl _) _
  go_enter Try.func64, Try.ntmps64
  go_wp2_with (refine wpList_load_row rfl 30 _ rfl w.heap.size rfl _ (jobC J (.slice a n c)) _ _ b0 Try.underlying30 rfl szJob ?_)
  refine (refAfter_any J a n c b m d l _ HIN.out Hm.out hm6 hkd.out (Hl.out.up hW)).mono ?_
  rintro e w1 ⟨rfl, hb⟩
  obtain ⟨t, ht⟩ : ∃ t, t = afterS J J.tg l := ⟨_, rfl⟩
  have HT : Hid (t.In 1000) := by
    show t.In 1000
    have h1 := afterS_in J (HIN.out.mono (by decide)) l J.tg 200 HIN.out.tg
    rw [ht]
    refine h1.mono ?_
    have := Hm.out
    omega
  rw [← ht]
  have HTT := hidMk ht
  clear ht
  have hB1 := hW.trans (hb.mono hW.size)
  have k0 := b0.below hb b0.lt
  have hz := k0.lt
  clear hb b0 hW
  unfold tgV
  go_wp2_with fail
  have hS : FS w (w1.alloc (.cells #[.int .i64 t.p1, .int .i64 t.p2, .int .i64 t.t1, .int .i64 t.t2, .int .i64 t.r1, .int .i64 t.r2] 25)) w1.heap.size J (.slice a n c) t := ⟨hB1.alloc (by omega) _, k0.alloc _, Bk.new _ _ _⟩
  generalize w1.alloc (.cells #[.int .i64 t.p1, .int .i64 t.p2, .int .i64 t.t1, .int .i64 t.t2, .int .i64 t.r1, .int .i64 t.r2] 25) = w2 at hS ⊢
  generalize hg : w1.heap.size = g at hS ⊢
  clear hg hB1 k0 hz w1
  obtain ⟨P, hP⟩ : ∃ P, passI J.wi J.sh t.p1 t.p2 = P := ⟨_, rfl⟩
  obtain ⟨Q, hQ⟩ : ∃ Q, spoilI J.le t = Q := ⟨_, rfl⟩
  have HF : Hid (fineI J t = if P = 1 ∧ Q = 2 then 1 else if P = 2 ∨ Q = 1 then 2 else 3) := by show _ = _; unfold fineI; rw [hP, hQ]
  have HP := hidMk hP
  have HQ := hidMk hQ
  clear hP hQ
  refine region_via (R := fun a_ e a' w' => e = .normal ∧ ∃ (v11 v12 v13 v14 v15 v16 v17 v18 : Value), a' = ((((((((((a_.put (some 11) v11).put (some 12) v12).put (some 13) v13).put (some 14) v14).put (some 15) v15).put (some 16) v16).put (some 17) v17).put (some 18) v18).put (some 6) (.int .i64 P)).put (some 7) (.int .i64 Q)) ∧ FS w w' g J (.slice a n c) t) ?_ ?_
  rotate_left
  · rintro e a' w' ⟨rfl, v11, v12, v13, v14, v15, v16, v17, v18, rfl, hs'⟩
    simp only [Act.put, aT, aZ, aS]
    have HS' := hidMk hs'
    clear hS hs'
    cases hb1 : (P == 1) <;> cases hb2 : (P == 2) <;> cases hb3 : (Q == 2) <;> cases hb4 : (Q == 1) <;>
      (go_wp2_with fail; go_ret; exact ⟨ret_i (by rw [← HTT.out, HF.out]; simp only [← @beq_iff_eq Int, hb1, hb2, hb3, hb4]; rfl), HS'.out.1⟩)
  refine wp_region_held_drew (S := fun w' => FS w w' g J (.slice a n c) t) (by kernel_rfl) hS.drew (fun hS0 => ?_)
  generalize hWd : w2.drew = wd at hS0 ⊢
  clear hWd hS
  refine wpAnyH_take (i := 0) rfl (by kernel_rfl) (by kernel_rfl) (by kernel_rfl) (fun _ _ _ h => by cases h.1) (yields_row (by rfl) 30 _ rfl w.heap.size (jobC J (.slice a n c)) rfl 30 (fun w hw => hw.2.1) Try.underlying30 szJob) (by assumption) ?_
  (try simp only [Act.put, aT, aZ, aS])
  refine wpAnyH_take (i := 1) (v := ?_) rfl (by kernel_rfl) (by kernel_rfl) (by kernel_rfl) (fun _ _ _ h => by cases h.1) (.inl ⟨by rfl, ?_⟩) (by assumption) ?_
  rotate_left
  · (intro w' hSw; (try dsimp only at hSw); skip; go_simp <;> with_reducible rfl)
  (try simp only [Act.put, aT, aZ, aS])
  refine wpAnyH_take (i := 2) (v := ?_) rfl (by kernel_rfl) (by kernel_rfl) (by kernel_rfl) (fun _ _ _ h => by cases h.1) (.inl ⟨by rfl, ?_⟩) (by assumption) ?_
  rotate_left
  · (intro w' hSw; (try dsimp only at hSw); (have t0 := hSw.2.2.at_ 0 (.int .i64 t.p1) rfl; have t1 := hSw.2.2.at_ 1 (.int .i64 t.p2) rfl); go_simp <;> with_reducible rfl)
  (try simp only [Act.put, aT, aZ, aS])
  refine wpAnyH_take (i := 4) (v := ?_) rfl (by kernel_rfl) (by kernel_rfl) (by kernel_rfl) (fun _ _ _ h => by cases h.1) (.inl ⟨by rfl, ?_⟩) (by assumption) ?_
  rotate_left
  · (intro w' hSw; (try dsimp only at hSw); skip; go_simp <;> with_reducible rfl)
  (try simp only [Act.put, aT, aZ, aS])
  refine wpAnyH_take (i := 5) (v := ?_) rfl (by kernel_rfl) (by kernel_rfl) (by kernel_rfl) (fun _ _ _ h => by cases h.1) (.inl ⟨by rfl, ?_⟩) (by assumption) ?_
  rotate_left
  · (intro w' hSw; (try dsimp only at hSw); (have j6 := hSw.2.1.at_ 6 (.int .i64 J.u1) rfl; have j7 := hSw.2.1.at_ 7 (.int .i64 J.u2) rfl; have j8 := hSw.2.1.at_ 8 (.int .i64 J.d1) rfl; have j9 := hSw.2.1.at_ 9 (.int .i64 J.d2) rfl; have j10 := hSw.2.1.at_ 10 (.int .i64 J.x1) rfl; have j11 := hSw.2.1.at_ 11 (.int .i64 J.x2) rfl; have j12 := hSw.2.1.at_ 12 (.int .i64 J.y1) rfl; have j13 := hSw.2.1.at_ 13 (.int .i64 J.y2) rfl; have j14 := hSw.2.1.at_ 14 (.int .i64 J.le) rfl); go_simp <;> with_reducible rfl)
  (try simp only [Act.put, aT, aZ, aS])
  refine wpAnyH_take (i := 6) (v := ?_) rfl (by kernel_rfl) (by kernel_rfl) (by kernel_rfl) (fun _ _ _ h => by cases h.1) (.inl ⟨by rfl, ?_⟩) (by assumption) ?_
  rotate_left
  · (intro w' hSw; (try dsimp only at hSw); (have t0 := hSw.2.2.at_ 0 (.int .i64 t.p1) rfl; have t1 := hSw.2.2.at_ 1 (.int .i64 t.p2) rfl; have t2 := hSw.2.2.at_ 2 (.int .i64 t.t1) rfl; have t3 := hSw.2.2.at_ 3 (.int .i64 t.t2) rfl; have t4 := hSw.2.2.at_ 4 (.int .i64 t.r1) rfl; have t5 := hSw.2.2.at_ 5 (.int .i64 t.r2) rfl); go_simp <;> with_reducible rfl)
  (try simp only [Act.put, aT, aZ, aS])
  refine wpAnyH_ready (rs := [3]) (by kernel_rfl) (by simp) ?_
  refine AllReadyH.cons rfl (fun K hK => ?_) ?_
  · go_simp
    go_at_call 46
    refine (refPasses0_any J HIN.out a n c t.p1 t.p2 ⟨⟨HT.out.1, HT.out.2.1⟩, HT.out.2.2.1, HT.out.2.2.2.1⟩ _ Hn.out (Hh.out.up hS0.1)).mono ?_
    rintro e w3 ⟨rfl, hb3⟩
    rw [HP.out]
    go_wp2_with fail
    have hS3 : FS w w3 g J (.slice a n c) t := ⟨hS0.1.trans (hb3.mono hS0.1.size), hS0.2.1.below hb3 hS0.2.1.lt, hS0.2.2.below hb3 hS0.2.2.lt⟩
    refine hK.out _ _ hS3 (fun _ => ?_)
    clear hK K
    (try simp only [Act.put, aT, aZ, aS])
    refine wpAnyH_ready (rs := [7]) (by kernel_rfl) (by simp) ?_
    refine AllReadyH.cons rfl (fun K hK => ?_) ?_
    · go_simp
      go_at_call 62
      refine (refSpoiled_any J t _).mono ?_
      rintro e w7 ⟨rfl, hb7⟩
      rw [HQ.out]
      go_wp2_with fail
      have hS7 : FS w w7 g J (.slice a n c) t := ⟨hS3.1.trans (hb7.mono hS3.1.size), hS3.2.1.below hb7 hS3.2.1.lt, hS3.2.2.below hb7 hS3.2.2.lt⟩
      refine hK.out _ _ hS7 (fun _ => ?_)
      clear hK K
      (try simp only [Act.put, aT, aZ, aS])
      refine wpAnyH_ready (rs := [8]) (by kernel_rfl) (by simp) ?_
      refine AllReadyH.cons rfl (fun K hK => ?_) ?_
      · go_simp
        refine hK.out _ _ hS7 (fun _ => ?_)
        clear hK K
        (try simp only [Act.put, aT, aZ, aS])
        refine wpAnyH_ready (rs := [9]) (by kernel_rfl) (by simp) ?_
        refine AllReadyH.cons rfl (fun K hK => ?_) ?_
        · go_simp
          refine hK.out _ _ hS7 (fun _ => ?_)
          clear hK K
          (try simp only [Act.put, aT, aZ, aS])
          refine wpAnyH_done (by kernel_rfl) ?_ _
          exact ⟨rfl, _, _, _, _, _, _, _, _, rfl, hS7⟩
        exact AllReadyH.nil
      exact AllReadyH.nil
    exact AllReadyH.nil
  exact AllReadyH.nil
end Go.Proofs.Ytdficjnnlaicpaa
/- The contract of the reference's Fine. -/
namespace Go.Proofs.Ytdficjnnlaicpaa
set_option linter.all false
open Go.RowKit
def fineX (J : Jb) (l : List Int) : Int × Int := if filedE J l = 0 then (fineI J (afterS J J.tg l), 0) else (0, filedE J l)
set_option maxHeartbeats 2000000 in
set_option maxRecDepth 100000 in
theorem refFineX_any (J : Jb) (a : Option Addr) (n c : Nat) (b : Option Addr) (m d : Nat) (l : List Int) (w : World) (hn : n = J.sh.length) (hm : n ≤ 9223372036854775807) (h : Rg w w.heap.size a J.sh)
    (hmn : m = l.length) (hmm : m ≤ 9223372036854775807) (hl : Is w w.heap.size b l) :
    Calls Try.prog 29 #[.agg (jobC J (.slice a n c)), .slice b m d] w fun e w' => e = .returned (.tuple #[.int .i64 (fineX J l).1, .int .i64 (fineX J l).2]) ∧ Below w.heap.size w w' := by
  have Hn := hidMk hn
  have Hh := hidMk h
  have Hm := hidMk hmn
  have Hl := hidMk hl
  clear hn h hmn hl
  have b0 := Bk.new w 30 (jobC J (.slice a n c))
  have hW : Below w.heap.size w (w.alloc (.cells (jobC J (.slice a n c)) 30)) := (Below.refl _ _).alloc (Nat.le_refl _) _
  by_cases hc : filedE J l = 0
  · have hcb : (filedE J l != 0) = false := by simp [hc]
    have hok := filed_ok hc
    have hkd := hidMk (kindE_ok l (by have h2 := hc; unfold filedE strokesE at h2; rw [if_pos hok.1, if_neg (by omega)] at h2; exact h2))
    have HIN := hidMk ((check_ok hok.1).inn.mono (by decide : (100 : Int) ≤ 200))
    have hm6 : m ≤ 6 := by rw [Hm.out]; exact hok.2
    have HV : Hid (fineX J l = (fineI J (afterS J J.tg l), 0)) := by show fineX J l = _; unfold fineX; rw [if_pos hc]
    clear hc hok
    go_enter Try.func29, Try.ntmps29
    go_wp2_with (refine wpList_load_row rfl 30 _ rfl w.heap.size rfl _ (jobC J (.slice a n c)) _ _ b0 Try.underlying30 rfl szJob ?_)
    refine (refStrokes_any J a n c b m d l _ Hn.out hm (Hh.out.up hW) Hm.out hmm (Hl.out.up hW)).mono ?_
    rintro e w1 ⟨rfl, hb⟩
    have hB1 := hW.trans (hb.mono hW.size)
    have k0 := b0.below hb b0.lt
    clear hb b0 hW
    go_wp2_with (refine wpList_load_row rfl 30 _ rfl w.heap.size rfl _ (jobC J (.slice a n c)) _ _ k0 Try.underlying30 rfl szJob ?_)
    refine (refFine_any J a n c b m d l _ HIN.out Hn.out (Hh.out.up hB1) Hm.out hm6 hkd.out (Hl.out.up hB1)).mono ?_
    rintro e w2 ⟨rfl, hb⟩
    have hB := hB1.trans (hb.mono hB1.size)
    clear hb k0 hB1
    go_wp2
    refine bodyPost_ret (v := .tuple #[.int .i64 (fineI J (afterS J J.tg l)), .int .i64 0]) (by simp [results, Try.results29, go_sem]) rfl ⟨by rw [HV.out], hB⟩
  · have hcb : (filedE J l != 0) = true := by simpa using hc
    have HV : Hid (fineX J l = (0, filedE J l)) := by show fineX J l = _; unfold fineX; rw [if_neg hc]
    clear hc
    go_enter Try.func29, Try.ntmps29
    go_wp2_with (refine wpList_load_row rfl 30 _ rfl w.heap.size rfl _ (jobC J (.slice a n c)) _ _ b0 Try.underlying30 rfl szJob ?_)
    refine (refStrokes_any J a n c b m d l _ Hn.out hm (Hh.out.up hW) Hm.out hmm (Hl.out.up hW)).mono ?_
    rintro e w1 ⟨rfl, hb⟩
    have hB := hW.trans (hb.mono hW.size)
    clear hb b0 hW
    go_wp2
    refine bodyPost_ret (v := .tuple #[.int .i64 0, .int .i64 (filedE J l)]) (by simp [results, Try.results29, go_sem]) rfl ⟨by rw [HV.out], hB⟩
end Go.Proofs.Ytdficjnnlaicpaa
