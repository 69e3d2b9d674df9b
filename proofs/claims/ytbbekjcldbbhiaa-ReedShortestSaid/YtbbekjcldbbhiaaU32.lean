/- Part 32 of the proof: RefJ, RefM. -/
import Derived.Test.YtbbekjcldbbhiaaU31
import Derived.Test.YtbbekjcldbbhiaaU27
/- The contract of the reference's after. -/
namespace Go.Proofs.Ytbbekjcldbbhiaa
set_option linter.all false
open Go.RowKit
/-- What stays as it is while the strokes are gone through. -/
def RS (w w' : World) (J : Jb) (s : Value) : Prop := Below w.heap.size w w' ∧ Bk w' w.heap.size 30 (jobC J s) ∧ Bk w' (w.heap.size + 1) 25 #[.int .i64 0, .int .i64 0, .int .i64 0, .int .i64 0, .int .i64 0, .int .i64 0]
theorem RS.drew {w w' : World} {J : Jb} {s : Value} (h : RS w w' J s) : RS w w'.drew J s := ⟨h.1.drew, h.2.1.drew, h.2.2.drew⟩
theorem RS.six {w w' : World} {J : Jb} {s : Value} (h : RS w w' J s) (a b c d e f : Value) : RS w ((((((w'.setCell ⟨w.heap.size + 2, 0, none⟩ a).setCell ⟨w.heap.size + 2, 1, none⟩ b).setCell ⟨w.heap.size + 2, 2, none⟩ c).setCell ⟨w.heap.size + 2, 3, none⟩ d).setCell ⟨w.heap.size + 2, 4, none⟩ e).setCell ⟨w.heap.size + 2, 5, none⟩ f) J s := by
  obtain ⟨h1, h2, h3⟩ := h
  refine ⟨?_, ?_, ?_⟩
  · iterate 6 (refine Below.setCell ?_ (by simp) _)
    exact h1
  · iterate 6 (refine Bk.other ?_ (by simp) _)
    exact h2
  · iterate 6 (refine Bk.other ?_ (by simp) _)
    exact h3
theorem three_tongues (w : World) (J : Jb) (s : Value) : Bk (((w.alloc (.cells (jobC J s) 30)).alloc (.cells #[.int .i64 0, .int .i64 0, .int .i64 0, .int .i64 0, .int .i64 0, .int .i64 0] 25)).alloc (.cells (tgV J.tg) 25)) w.heap.size 30 (jobC J s) ∧ Bk (((w.alloc (.cells (jobC J s) 30)).alloc (.cells #[.int .i64 0, .int .i64 0, .int .i64 0, .int .i64 0, .int .i64 0, .int .i64 0] 25)).alloc (.cells (tgV J.tg) 25)) (w.heap.size + 1) 25 #[.int .i64 0, .int .i64 0, .int .i64 0, .int .i64 0, .int .i64 0, .int .i64 0] ∧ Bk (((w.alloc (.cells (jobC J s) 30)).alloc (.cells #[.int .i64 0, .int .i64 0, .int .i64 0, .int .i64 0, .int .i64 0, .int .i64 0] 25)).alloc (.cells (tgV J.tg) 25)) (w.heap.size + 2) 25 (tgV J.tg) := three_new w _ _ _ _ _ _
set_option maxHeartbeats 2000000 in
set_option maxRecDepth 100000 in
theorem refAfter_any (J : Jb) (sa : Option Addr) (sn sc : Nat) (a : Option Addr) (n c : Nat) (l : List Int) (w : World) (h : J.In 200) (hn : n = l.length) (hm : n ≤ 6) (hl : ∀ x ∈ l, x = 1 ∨ x = 2) (hr : Is w w.heap.size a l) :
    Calls Try.prog 51 #[.agg (jobC J (.slice sa sn sc)), .slice a n c] w fun e w' => e = .returned (.agg (tgV (afterS J J.tg l))) ∧ Below w.heap.size w w' := by
  have Hn := hidMk hn
  have Hh := hidMk hr
  have HJ := hidMk h
  have Hl := hidMk hl
  clear hn hr h hl
  obtain ⟨b0, b1, b2⟩ := three_tongues w J (.slice sa sn sc)
  unfold tgV at b2
  go_enter Try.func51, Try.ntmps51
  have c0 := (Bk.new w 30 (jobC J (.slice sa sn sc))).alloc (.cells #[.int .i64 0, .int .i64 0, .int .i64 0, .int .i64 0, .int .i64 0, .int .i64 0] 25)
  go_wp2_with fail
  clear c0
  go_loopw [6] (fun i wr => ∃ (k : Nat) (t : Tg), k ≤ n ∧ i = .int .i64 k ∧ Hid (t = afterS J J.tg (l.take k)) ∧ RS w wr J (.slice sa sn sc) ∧ Bk wr (w.heap.size + 2) 25 #[.int .i64 t.p1, .int .i64 t.p2, .int .i64 t.t1, .int .i64 t.t2, .int .i64 t.r1, .int .i64 t.r2]) (fun i _ => n - (intOf i).toNat)
  case atStart => exact ⟨0, J.tg, Nat.zero_le _, rfl, hidMk rfl, ⟨below_three _ _ _ _, b0, b1⟩, b2⟩
  case round =>
    clear b0 b1 b2
    obtain ⟨k, t, hk, rfl, HK, hS, ht⟩ := hrel
    have hz := hS.1.size
    by_cases hlt : k < n
    · have hkl : k < l.length := by rw [← Hn.out]; exact hlt
      obtain ⟨b, off, rfl, hbl, e1⟩ := Hh.out k l[k] (List.getElem?_eq_getElem hkl)
      have HT : Hid (t.In 1000) := by
        show t.In 1000
        have h1 := afterS_in J (HJ.out.mono (by decide)) (l.take k) J.tg 200 HJ.out.tg
        rw [HK.out]
        refine h1.mono ?_
        have := List.length_take_le k l
        omega
      go_wp2_with fail
      refine region_via (R := fun a_ e a' w' => e = .normal ∧ ∃ (v15 v16 v17 v18 v19 v20 v21 v22 : Value), a' = ((((((((a_.put (some 15) v15).put (some 16) v16).put (some 17) v17).put (some 18) v18).put (some 19) v19).put (some 20) v20).put (some 21) v21).put (some 22) v22) ∧ RS w w' J (.slice sa sn sc) ∧ Bk w' (w.heap.size + 2) 25 #[.int .i64 (strk J t l[k]).p1, .int .i64 (strk J t l[k]).p2, .int .i64 (strk J t l[k]).t1, .int .i64 (strk J t l[k]).t2, .int .i64 (strk J t l[k]).r1, .int .i64 (strk J t l[k]).r2]) ?_ ?_
      rotate_left
      · rintro e a' w' ⟨rfl, v15, v16, v17, v18, v19, v20, v21, v22, rfl, hs', ht'⟩
        simp only [Act.put, aT, aZ, aS]
        have HS' := hidMk hs'
        have HT' := hidMk ht'
        clear hS hs' ht' ht e1
        go_wp2_with fail
        go_roundw
        case rel => exact ⟨k + 1, strk J t l[k], by omega, by go_num, (by show _ = _; rw [take_snoc l k hkl, afterS_snoc, HK.out]), HS'.out, HT'.out⟩
        case measure => simp [intOf]; omega
      refine wp_region_held_drew (S := fun w' => RS w w' J (.slice sa sn sc)) (by kernel_rfl) hS.drew (fun hS0 => ?_)
      replace ht := ht.drew
      generalize hWd : wr.drew = wd at hS0 ht ⊢
      clear hWd hS
      refine wpAnyH_take (i := 0) (oi := ⟨some 15, .fieldAddr 30 (.tmp 2) 1, 0, "stroke.go:37", #[], none⟩) (v := ?_) rfl (by kernel_rfl) (by kernel_rfl) (by kernel_rfl) (fun _ _ _ h => by cases h.1) (.inl ⟨by rfl, ?_⟩) (by assumption) ?_
      rotate_left
      · (intro w' hSw; (try dsimp only at hSw); (have j6 := hSw.2.1.at_ 6 (.int .i64 J.u1) rfl; have j7 := hSw.2.1.at_ 7 (.int .i64 J.u2) rfl; have j8 := hSw.2.1.at_ 8 (.int .i64 J.d1) rfl; have j9 := hSw.2.1.at_ 9 (.int .i64 J.d2) rfl; have j10 := hSw.2.1.at_ 10 (.int .i64 J.x1) rfl; have j11 := hSw.2.1.at_ 11 (.int .i64 J.x2) rfl; have j12 := hSw.2.1.at_ 12 (.int .i64 J.y1) rfl; have j13 := hSw.2.1.at_ 13 (.int .i64 J.y2) rfl; have j14 := hSw.2.1.at_ 14 (.int .i64 J.le) rfl; have s0 := (hSw.1.cell (p := ⟨b, off + k, none⟩) hbl).trans e1); go_simp <;> with_reducible rfl)
      (try simp only [Act.put, aT, aZ, aS])
      refine wpAnyH_take (i := 1) (oi := ⟨some 16, .load 27 (.tmp 15), 27, "stroke.go:37", #[⟨0, .data⟩], none⟩) (v := ?_) rfl (by kernel_rfl) (by kernel_rfl) (by kernel_rfl) (fun _ _ _ h => by cases h.1) (.inl ⟨by rfl, ?_⟩) (by assumption) ?_
      rotate_left
      · (intro w' hSw; (try dsimp only at hSw); (have j6 := hSw.2.1.at_ 6 (.int .i64 J.u1) rfl; have j7 := hSw.2.1.at_ 7 (.int .i64 J.u2) rfl; have j8 := hSw.2.1.at_ 8 (.int .i64 J.d1) rfl; have j9 := hSw.2.1.at_ 9 (.int .i64 J.d2) rfl; have j10 := hSw.2.1.at_ 10 (.int .i64 J.x1) rfl; have j11 := hSw.2.1.at_ 11 (.int .i64 J.x2) rfl; have j12 := hSw.2.1.at_ 12 (.int .i64 J.y1) rfl; have j13 := hSw.2.1.at_ 13 (.int .i64 J.y2) rfl; have j14 := hSw.2.1.at_ 14 (.int .i64 J.le) rfl; have s0 := (hSw.1.cell (p := ⟨b, off + k, none⟩) hbl).trans e1); go_simp <;> with_reducible rfl)
      (try simp only [Act.put, aT, aZ, aS])
      refine wpAnyH_take (i := 3) (oi := ⟨some 18, .move (.tmp 1), 31, "stroke.go:37", #[], none⟩) (v := ?_) rfl (by kernel_rfl) (by kernel_rfl) (by kernel_rfl) (fun _ _ _ h => by cases h.1) (.inl ⟨by rfl, ?_⟩) (by assumption) ?_
      rotate_left
      · (intro w' hSw; (try dsimp only at hSw); (have j6 := hSw.2.1.at_ 6 (.int .i64 J.u1) rfl; have j7 := hSw.2.1.at_ 7 (.int .i64 J.u2) rfl; have j8 := hSw.2.1.at_ 8 (.int .i64 J.d1) rfl; have j9 := hSw.2.1.at_ 9 (.int .i64 J.d2) rfl; have j10 := hSw.2.1.at_ 10 (.int .i64 J.x1) rfl; have j11 := hSw.2.1.at_ 11 (.int .i64 J.x2) rfl; have j12 := hSw.2.1.at_ 12 (.int .i64 J.y1) rfl; have j13 := hSw.2.1.at_ 13 (.int .i64 J.y2) rfl; have j14 := hSw.2.1.at_ 14 (.int .i64 J.le) rfl; have s0 := (hSw.1.cell (p := ⟨b, off + k, none⟩) hbl).trans e1); go_simp <;> with_reducible rfl)
      (try simp only [Act.put, aT, aZ, aS])
      refine wpAnyH_take (i := 4) (oi := ⟨some 19, .move (.tmp 6), 3, "stroke.go:37", #[], none⟩) (v := ?_) rfl (by kernel_rfl) (by kernel_rfl) (by kernel_rfl) (fun _ _ _ h => by cases h.1) (.inl ⟨by rfl, ?_⟩) (by assumption) ?_
      rotate_left
      · (intro w' hSw; (try dsimp only at hSw); (have j6 := hSw.2.1.at_ 6 (.int .i64 J.u1) rfl; have j7 := hSw.2.1.at_ 7 (.int .i64 J.u2) rfl; have j8 := hSw.2.1.at_ 8 (.int .i64 J.d1) rfl; have j9 := hSw.2.1.at_ 9 (.int .i64 J.d2) rfl; have j10 := hSw.2.1.at_ 10 (.int .i64 J.x1) rfl; have j11 := hSw.2.1.at_ 11 (.int .i64 J.x2) rfl; have j12 := hSw.2.1.at_ 12 (.int .i64 J.y1) rfl; have j13 := hSw.2.1.at_ 13 (.int .i64 J.y2) rfl; have j14 := hSw.2.1.at_ 14 (.int .i64 J.le) rfl; have s0 := (hSw.1.cell (p := ⟨b, off + k, none⟩) hbl).trans e1); go_simp <;> with_reducible rfl)
      (try simp only [Act.put, aT, aZ, aS])
      refine wpAnyH_take (i := 5) (oi := ⟨some 20, .indexAddr 31 (.tmp 18) (.tmp 19), 0, "stroke.go:37", #[⟨3, .data⟩, ⟨4, .data⟩], none⟩) (v := ?_) rfl (by kernel_rfl) (by kernel_rfl) (by kernel_rfl) (fun _ _ _ h => by cases h.1) (.inl ⟨by rfl, ?_⟩) (by assumption) ?_
      rotate_left
      · (intro w' hSw; (try dsimp only at hSw); (have j6 := hSw.2.1.at_ 6 (.int .i64 J.u1) rfl; have j7 := hSw.2.1.at_ 7 (.int .i64 J.u2) rfl; have j8 := hSw.2.1.at_ 8 (.int .i64 J.d1) rfl; have j9 := hSw.2.1.at_ 9 (.int .i64 J.d2) rfl; have j10 := hSw.2.1.at_ 10 (.int .i64 J.x1) rfl; have j11 := hSw.2.1.at_ 11 (.int .i64 J.x2) rfl; have j12 := hSw.2.1.at_ 12 (.int .i64 J.y1) rfl; have j13 := hSw.2.1.at_ 13 (.int .i64 J.y2) rfl; have j14 := hSw.2.1.at_ 14 (.int .i64 J.le) rfl; have s0 := (hSw.1.cell (p := ⟨b, off + k, none⟩) hbl).trans e1); go_simp <;> with_reducible rfl)
      (try simp only [Act.put, aT, aZ, aS])
      refine wpAnyH_take (i := 6) (oi := ⟨some 21, .load 3 (.tmp 20), 3, "stroke.go:37", #[⟨5, .data⟩], none⟩) (v := ?_) rfl (by kernel_rfl) (by kernel_rfl) (by kernel_rfl) (fun _ _ _ h => by cases h.1) (.inl ⟨by rfl, ?_⟩) (by assumption) ?_
      rotate_left
      · (intro w' hSw; (try dsimp only at hSw); (have j6 := hSw.2.1.at_ 6 (.int .i64 J.u1) rfl; have j7 := hSw.2.1.at_ 7 (.int .i64 J.u2) rfl; have j8 := hSw.2.1.at_ 8 (.int .i64 J.d1) rfl; have j9 := hSw.2.1.at_ 9 (.int .i64 J.d2) rfl; have j10 := hSw.2.1.at_ 10 (.int .i64 J.x1) rfl; have j11 := hSw.2.1.at_ 11 (.int .i64 J.x2) rfl; have j12 := hSw.2.1.at_ 12 (.int .i64 J.y1) rfl; have j13 := hSw.2.1.at_ 13 (.int .i64 J.y2) rfl; have j14 := hSw.2.1.at_ 14 (.int .i64 J.le) rfl; have s0 := (hSw.1.cell (p := ⟨b, off + k, none⟩) hbl).trans e1); go_simp <;> with_reducible rfl)
      (try simp only [Act.put, aT, aZ, aS])
      refine wpAnyH_ready (rs := [2]) (by kernel_rfl) (by simp) ?_
      refine AllReadyH.cons (o := ⟨some 17, .load 25 (.tmp 5), 25, "stroke.go:37", #[], none⟩) rfl (fun K hK => ?_) ?_
      · have t0 := ht.at_ 0 (.int .i64 t.p1) rfl
        have t1 := ht.at_ 1 (.int .i64 t.p2) rfl
        have t2 := ht.at_ 2 (.int .i64 t.t1) rfl
        have t3 := ht.at_ 3 (.int .i64 t.t2) rfl
        have t4 := ht.at_ 4 (.int .i64 t.r1) rfl
        have t5 := ht.at_ 5 (.int .i64 t.r2) rfl
        go_simp
        clear t0 t1 t2 t3 t4 t5
        refine hK.out _ _ hS0 (fun _ => ?_)
        clear hK K
        (try simp only [Act.put, aT, aZ, aS])
        refine wpAnyH_ready (rs := [7]) (by kernel_rfl) (by simp) ?_
        refine AllReadyH.cons (o := ⟨some 22, .call { callee := .value (.func 63), args := #[.tmp 16, .tmp 17, .tmp 21], argTypes := #[27, 25, 3] }, 25, "stroke.go:37", #[⟨1, .data⟩, ⟨2, .data⟩, ⟨6, .data⟩], none⟩) rfl (fun K hK => ?_) ?_
        · go_simp
          go_at_call 63
          refine (refStroke_any J t _ (Hl.out _ (List.getElem_mem hkl)) _ (HJ.out.mono (by decide)) HT.out).mono ?_
          rintro e w2 ⟨rfl, hb2⟩
          go_wp2_with fail
          have hz2 := hb2.size
          have ht2 := ht.below hb2 ht.lt
          have hS2 : RS w w2 J (.slice sa sn sc) := ⟨hS0.1.trans (hb2.mono hS0.1.size), hS0.2.1.below hb2 hS0.2.1.lt, hS0.2.2.below hb2 hS0.2.2.lt⟩
          refine hK.out _ _ hS2 (fun _ => ?_)
          clear hK K
          (try simp only [Act.put, aT, aZ, aS])
          refine wpAnyH_ready (rs := [8]) (by kernel_rfl) (by simp) ?_
          refine AllReadyH.cons (o := ⟨none, .store 25 (.tmp 5) (.tmp 22), 0, "stroke.go:37", #[⟨7, .data⟩, ⟨7, .chain⟩, ⟨0, .phase⟩, ⟨1, .phase⟩, ⟨2, .phase⟩, ⟨3, .phase⟩, ⟨4, .phase⟩, ⟨5, .phase⟩, ⟨6, .phase⟩, ⟨7, .phase⟩], none⟩) rfl (fun K hK => ?_) ?_
          · have t0 := ht2.at_ 0 (.int .i64 t.p1) rfl
            have t1 := ht2.at_ 1 (.int .i64 t.p2) rfl
            have t2 := ht2.at_ 2 (.int .i64 t.t1) rfl
            have t3 := ht2.at_ 3 (.int .i64 t.t2) rfl
            have t4 := ht2.at_ 4 (.int .i64 t.r1) rfl
            have t5 := ht2.at_ 5 (.int .i64 t.r2) rfl
            have f0 := ht2.free 0
            have f1 := ht2.free 1
            have f2 := ht2.free 2
            have f3 := ht2.free 3
            have f4 := ht2.free 4
            have f5 := ht2.free 5
            unfold tgV
            go_wp2_with fail
            clear t0 t1 t2 t3 t4 t5 f0 f1 f2 f3 f4 f5
            have ht3 := ((((((ht2.put 0 (.int .i64 (strk J t l[k]).p1)).put 1 (.int .i64 (strk J t l[k]).p2)).put 2 (.int .i64 (strk J t l[k]).t1)).put 3 (.int .i64 (strk J t l[k]).t2)).put 4 (.int .i64 (strk J t l[k]).r1)).put 5 (.int .i64 (strk J t l[k]).r2))
            have hS3 : RS w ((((((w2.setCell ⟨w.heap.size + 2, 0, none⟩ (.int .i64 (strk J t l[k]).p1)).setCell ⟨w.heap.size + 2, 1, none⟩ (.int .i64 (strk J t l[k]).p2)).setCell ⟨w.heap.size + 2, 2, none⟩ (.int .i64 (strk J t l[k]).t1)).setCell ⟨w.heap.size + 2, 3, none⟩ (.int .i64 (strk J t l[k]).t2)).setCell ⟨w.heap.size + 2, 4, none⟩ (.int .i64 (strk J t l[k]).r1)).setCell ⟨w.heap.size + 2, 5, none⟩ (.int .i64 (strk J t l[k]).r2)) J (.slice sa sn sc) := hS2.six _ _ _ _ _ _
            refine hK.out _ _ hS3 (fun _ => ?_)
            clear hK K
            (try simp only [Act.put, aT, aZ, aS])
            refine wpAnyH_done (by kernel_rfl) ?_ _
            exact ⟨rfl, _, _, _, _, _, _, _, _, rfl, hS3, ht3⟩
          exact AllReadyH.nil
        exact AllReadyH.nil
      exact AllReadyH.nil
    · obtain rfl : k = n := by omega
      have t0 := ht.at_ 0 (.int .i64 t.p1) rfl
      have t1 := ht.at_ 1 (.int .i64 t.p2) rfl
      have t2 := ht.at_ 2 (.int .i64 t.t1) rfl
      have t3 := ht.at_ 3 (.int .i64 t.t2) rfl
      have t4 := ht.at_ 4 (.int .i64 t.r1) rfl
      have t5 := ht.at_ 5 (.int .i64 t.r2) rfl
      have z0 := hS.2.2.at_ 0 _ rfl
      have z1 := hS.2.2.at_ 1 _ rfl
      have z2 := hS.2.2.at_ 2 _ rfl
      have z3 := hS.2.2.at_ 3 _ rfl
      have z4 := hS.2.2.at_ 4 _ rfl
      have z5 := hS.2.2.at_ 5 _ rfl
      have f0 := hS.2.2.free 0
      have f1 := hS.2.2.free 1
      have f2 := hS.2.2.free 2
      have f3 := hS.2.2.free 3
      have f4 := hS.2.2.free 4
      have f5 := hS.2.2.free 5
      go_wp2
      have e : l.take k = l := by rw [Hn.out]; exact List.take_length
      refine bodyPost_ret (results_cell_row Try.results51 _ _ _ _ _ _ _ rfl ((((((hS.2.2.put 0 _).put 1 _).put 2 _).put 3 _).put 4 _).put 5 _) Try.underlying25 rfl szTongue) rfl ⟨?_, ?_⟩
      · have HK' := HK.out
        rw [e] at HK'
        rw [← HK']; rfl
      · iterate 6 (refine Below.setCell ?_ (by simp) _)
        exact hS.1
end Go.Proofs.Ytbbekjcldbbhiaa
/- nothing of its own -/
namespace Go.Proofs.Ytbbekjcldbbhiaa
set_option linter.all false
end Go.Proofs.Ytbbekjcldbbhiaa
