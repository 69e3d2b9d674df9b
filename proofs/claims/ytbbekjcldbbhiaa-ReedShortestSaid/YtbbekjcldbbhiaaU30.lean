/- Part 30 of the proof: Filed, PlainF, RefF, RefG, StepL. -/
import Derived.Test.YtbbekjcldbbhiaaU13
import Derived.Test.YtbbekjcldbbhiaaU25
import Derived.Test.YtbbekjcldbbhiaaU24
import Derived.Test.YtbbekjcldbbhiaaU29
import Derived.Test.YtbbekjcldbbhiaaU11
import Derived.Test.YtbbekjcldbbhiaaU27
/- Contracts of reed.checkStrokes, reed.filed and reed.After. -/
namespace Go.Proofs.Ytbbekjcldbbhiaa
set_option linter.all false
open Go.RowKit

def zeroJ : Jb := ⟨0, 0, 0, 0, 0, 0, 0, 0, 0, 0, 0, 0, 0, 0, 0, 0, 0, []⟩
end Go.Proofs.Ytbbekjcldbbhiaa
/- nothing of its own -/
namespace Go.Proofs.Ytbbekjcldbbhiaa
set_option linter.all false
end Go.Proofs.Ytbbekjcldbbhiaa
/- nothing of its own -/
namespace Go.Proofs.Ytbbekjcldbbhiaa
set_option linter.all false
end Go.Proofs.Ytbbekjcldbbhiaa
/- Contracts of the kit's copies and comparisons of jobs. -/
namespace Go.Proofs.Ytbbekjcldbbhiaa
set_option linter.all false
open Go.RowKit

theorem rg_one (l : List R2) : ∀ u ∈ rgCells l, u.oneCell' = true := by
  induction l with
  | nil => intro u h; cases h
  | cons x l ih =>
    intro u h
    rcases List.mem_cons.1 h with rfl | h
    · rfl
    · rcases List.mem_cons.1 h with rfl | h
      · rfl
      · exact ih u h
theorem rg_news {W : World} {B : Nat} {ad : Addr} {l : List R2} (h : Rg W B (some ad) l) : ∀ j u, (rgCells l)[j]? = some u → W.cell? (ad.add j) = some u := by
  intro j u hj
  have hjl := (List.getElem?_eq_some_iff.1 hj).1
  rw [rgCells_len] at hjl
  have hk : j / 2 < l.length := by omega
  obtain ⟨b, off, e, _, e0, e1⟩ := h (j / 2) l[j / 2] (List.getElem?_eq_getElem hk)
  cases e
  obtain ⟨h0, h1⟩ := rgCells_at l (j / 2) l[j / 2] (List.getElem?_eq_getElem hk)
  have ha : ∀ k, (⟨b, off, none⟩ : Addr).add k = ⟨b, off + k, none⟩ := by
    intro k
    unfold Addr.add
    split
    · rename_i hk0; subst hk0; rfl
    · rfl
  rw [ha]
  rcases Nat.mod_two_eq_zero_or_one j with hm | hm
  · have : j = j / 2 * 2 := by omega
    rw [this] at hj ⊢
    rw [h0] at hj
    cases hj
    exact e0
  · have hj' : j = j / 2 * 2 + 1 := by omega
    have h2 : W.cell? ⟨b, off + j, none⟩ = W.cell? ⟨b, off + j / 2 * 2 + 1, none⟩ := by
      have : off + j = off + j / 2 * 2 + 1 := by omega
      rw [this]
    rw [h2, e1, ← h1, ← hj', hj]
theorem Rg.of_own {w : World} {B e n : Nat} {v : Value} {l : List R2} (h : w.ownsRow B e 2 v n (rgCells l)) : ∃ a c, v = .slice a n c ∧ n = l.length ∧ Rg w w.heap.size a l := by
  have hl := h.1
  rw [rgCells_len] at hl
  rcases h.2 with ⟨rfl, rfl⟩ | ⟨g, cap, cur, rfl, hb, hg, hnc, hcm, hcs, htk⟩
  · have e : l = [] := List.length_eq_zero_iff.1 (by omega)
    subst e
    exact ⟨none, 0, rfl, rfl, Rg.nil _ _ _⟩
  · refine ⟨some ⟨g, 0, none⟩, cap, rfl, by omega, fun k x hk => ⟨g, 0, rfl, (Array.getElem?_eq_some_iff.1 hg).1, ?_, ?_⟩⟩
    all_goals
      have hkl := (List.getElem?_eq_some_iff.1 hk).1
      obtain ⟨h0, h1⟩ := rgCells_at l k x hk
    · rw [cell_of_row w g (0 + k * 2) cur e (0, 0) hg, Nat.zero_add, ← Array.getElem?_toList]
      have h2 : (cur.toList.take (n * 2))[k * 2]? = some (.int .i64 x.1) := by rw [htk]; exact h0
      rw [List.getElem?_take_of_lt (by omega)] at h2
      exact h2
    · rw [cell_of_row w g (0 + k * 2 + 1) cur e (0, 0) hg, Nat.zero_add, ← Array.getElem?_toList]
      have h2 : (cur.toList.take (n * 2))[k * 2 + 1]? = some (.int .i64 x.2) := by rw [htk]; exact h1
      rw [List.getElem?_take_of_lt (by omega)] at h2
      exact h2
theorem own_lo {w : World} {B B' e n : Nat} {v : Value} {xs : List Value} (h : w.ownsRow B e 2 v n xs) (hB : B' ≤ B) : w.ownsRow B' e 2 v n xs :=
  ⟨h.1, h.2.imp id fun ⟨g, cap, cur, a, b, c⟩ => ⟨g, cap, cur, a, Nat.le_trans hB b, c⟩⟩
theorem own_keep {w w' : World} {B e n : Nat} {v : Value} {xs : List Value} (h : w.ownsRow B e 2 v n xs) (hk : ∀ g, B ≤ g → w'.heap[g]? = w.heap[g]?) : w'.ownsRow B e 2 v n xs :=
  ⟨h.1, h.2.imp id fun ⟨g, cap, cur, a, b, c, d⟩ => ⟨g, cap, cur, a, b, (hk g b).trans c, d⟩⟩
set_option maxHeartbeats 1000000 in
set_option maxRecDepth 100000 in
theorem ranges_some (ad : Addr) (n c : Nat) (l : List R2) (w : World) (hn : n = l.length) (hm : n ≤ 1000) (h : Rg w w.heap.size (some ad) l) :
    Calls Try.prog 27 #[.slice (some ad) n c] w fun e w' => ∃ v, e = .returned v ∧ w'.ownsRow w.heap.size 23 2 v n (rgCells l) ∧ Below w.heap.size w w' := by
  obtain ⟨i0, hi, hz0, hz1, hz2⟩ := info_parts infoRange
  have Hi : Hid (Try.prog.info? 23 = some i0) := hi
  have Hz0 := hidMk hz0
  have Hz1 := hidMk hz1
  have Hz2 := hidMk hz2
  clear hi hz0 hz1 hz2
  have Hn := hidMk hn
  have Hh := hidMk h
  clear hn h
  go_enter Try.func27, Try.ntmps27
  have own0 : (w.alloc (.cells #[] 23)).ownsRow w.heap.size 23 2 (.slice (some ⟨w.heap.size, 0, none⟩) 0 0) 0 [] :=
    ⟨rfl, .inr ⟨w.heap.size, 0, #[], rfl, Nat.le_refl _, Bk.new _ _ _, Nat.le_refl _, Nat.zero_le _, rfl, rfl⟩⟩
  have Ho := hidMk own0
  clear own0
  go_wp2_with (at_builtin; refine wpList_append_own_at _ rfl (.tmp 3) (.tmp 4) 28 rfl w.heap.size 23 i0 (.agg #[.int .i64 0, .int .i64 0]) 2 16 Try.underlying28 Hi.out Hz0.out Hz1.out Hz2.out rfl (by decide) _ 0 [] rfl Ho.out ad n c (rgCells l) rfl (by rw [rgCells_len, Hn.out]) (rg_news (Hh.out.up ((Below.refl _ _).alloc (Nat.le_refl _) _))) (rg_one l) (by unfold maxLen; omega) (by omega) (by simp) ?_; intro v' w3 own' hg _ at_)
  go_ret
  refine ⟨v', rfl, by simpa using own', ?_⟩
  exact ((Below.refl _ _).alloc (Nat.le_refl _) (.cells #[] 23)).grown hg (by simp) (fun g e => by cases e; exact Nat.le_refl _)
theorem ranges_none (n c : Nat) (hn : n = 0) (w : World) :
    Calls Try.prog 27 #[.slice none n c] w fun e w' => ∃ v, e = .returned v ∧ w'.ownsRow w.heap.size 23 2 v n [] ∧ Below w.heap.size w w' := by
  subst hn
  go_enter Try.func27, Try.ntmps27
  go_wp2_with fail
  go_ret
  exact ⟨_, rfl, ⟨rfl, .inr ⟨w.heap.size, 0, #[], rfl, Nat.le_refl _, Bk.new _ _ _, Nat.le_refl _, Nat.zero_le _, rfl, rfl⟩⟩, (Below.refl _ _).alloc (Nat.le_refl _) _⟩
theorem ranges_any (a : Option Addr) (n c : Nat) (l : List R2) (w : World) (hn : n = l.length) (hm : n ≤ 1000) (h : Rg w w.heap.size a l) :
    Calls Try.prog 27 #[.slice a n c] w fun e w' => ∃ v, e = .returned v ∧ w'.ownsRow w.heap.size 23 2 v n (rgCells l) ∧ Below w.heap.size w w' := by
  cases a with
  | some ad => exact ranges_some ad n c l w hn hm h
  | none =>
    have hl : l = [] := by
      cases l with
      | nil => rfl
      | cons x l =>
        obtain ⟨b, off, e, _⟩ := h 0 x rfl
        cases e
    subst hl
    exact ranges_none n c (by simpa using hn) w
set_option maxHeartbeats 1000000 in
set_option maxRecDepth 100000 in
theorem copyJob_any (J : Jb) (a : Option Addr) (n c : Nat) (w : World) (hn : n = J.sh.length) (hm : n ≤ 1000) (h : Rg w w.heap.size a J.sh) :
    Calls Try.prog 8 #[.agg (jobC J (.slice a n c))] w fun e w' => ∃ a' c', e = .returned (.agg (jobC J (.slice a' n c'))) ∧ w'.ownsRow w.heap.size 23 2 (.slice a' n c') n (rgCells J.sh) ∧ Below w.heap.size w w' := by
  have Hn := hidMk hn
  have Hh := hidMk h
  clear hn h
  have b0 : Bk ((w.alloc (.cells (jobC J (.slice a n c)) 30)).alloc (.cells (jobC zeroJ (.slice none 0 0)) 30)) w.heap.size 30 (jobC J (.slice a n c)) := (Bk.new w _ _).alloc _
  have b1 : Bk ((w.alloc (.cells (jobC J (.slice a n c)) 30)).alloc (.cells (jobC zeroJ (.slice none 0 0)) 30)) (w.heap.size + 1) 30 (jobC zeroJ (.slice none 0 0)) := Bk.newAt _ _ _ _ (by simp)
  have hW : Below w.heap.size w ((w.alloc (.cells (jobC J (.slice a n c)) 30)).alloc (.cells (jobC zeroJ (.slice none 0 0)) 30)) := ((Below.refl _ _).alloc (Nat.le_refl _) _).alloc (by simp) _
  have s15 := b0.at_ 15 (.slice a n c) rfl
  go_enter Try.func8, Try.ntmps8
  go_wp2_with fail
  refine (ranges_any a n c J.sh _ Hn.out hm (Hh.out.up hW)).mono ?_
  rintro e w1 ⟨v, rfl, own, hb1⟩
  obtain ⟨a', c', rfl, -, -⟩ := Rg.of_own own
  have hz1 := hb1.size
  simp only [World.size_alloc] at hz1
  have k0 := b0.below hb1 (by simp; omega)
  have k1 := b1.below hb1 (by simp)
  have hB1 : Below w.heap.size w w1 := hW.trans (hb1.mono (by simp; omega))
  have own1 : w1.ownsRow (w.heap.size + 1 + 1) 23 2 (.slice a' n c') n (rgCells J.sh) := by simpa using own
  have Own := hidMk own1
  have d15 := k0.at_ 15 (.slice a n c) rfl
  have f15 := k0.free 15
  clear own own1 hb1 b0 b1 hW s15
  have k0' : Bk (w1.setCell ⟨w.heap.size, 15, none⟩ (.slice a' n c')) w.heap.size 30 (jobC J (.slice a' n c')) := k0.put 15 _
  have k1' : Bk (w1.setCell ⟨w.heap.size, 15, none⟩ (.slice a' n c')) (w.heap.size + 1) 30 (jobC zeroJ (.slice none 0 0)) := k1.other (by simp) _
  go_wp2_with (first | (refine wpList_load_row rfl 30 _ rfl w.heap.size rfl _ (jobC J (.slice a' n c')) _ _ k0' Try.underlying30 rfl szJob ?_) | (refine wpList_store_row rfl 30 _ _ rfl (w.heap.size + 1) (jobC J (.slice a' n c')) rfl rfl _ _ k1' szJob rfl (oneJob _ _ _ _) ?_))
  refine bodyPost_ret (v := .agg (jobC J (.slice a' n c'))) (results_cell_row Try.results8 _ _ _ _ _ _ _ rfl (k1'.row _) Try.underlying30 rfl szJob) rfl ⟨a', c', rfl, ?_, ?_⟩
  · exact own_lo (own_keep Own.out fun g hg => (setRow_other _ _ _ _ (by omega)).trans (Below.heap_setCell _ _ _ _ (by show g ≠ w.heap.size; omega))) (by omega)
  · exact below_setRow (hB1.setCell (by simp) _) (by simp) _
end Go.Proofs.Ytbbekjcldbbhiaa
/- Regions that do not draw, one law a step. -/
namespace Go.Proofs.Ytbbekjcldbbhiaa
set_option linter.all false
open Go.RowKit
section
variable {P : Program} {ops : Array Oper} {Q : Exit → Act → World → Prop} {a : Act} {w : World} {i : Nat} {rest : List Nat} {o : Oper}
theorem wp_region_l {id : Nat} (l : List Nat) (hl : List.range ops.size = l) (h : wpOps P ops Q l a w) : (Code.region id ops false).wp P Q a w := wp_region (by rw [hl]; exact h)
theorem opsL_take {v : Value} (ho : ops[i]? = some o) (hw : Region.wanted o (yielded ops a.tmps) = true) (hv : (execOp a.eval o).run P w = .ok (.value v) w) (h : wpOps P ops Q rest (a.put o.dst v) w) : wpOps P ops Q (i :: rest) a w := by
  simp only [wpOps, ho, hw, if_true]
  exact .inl (by simp only [Oper.wp, hv, Oper.upon]; exact h)
theorem opsL_step (ho : ops[i]? = some o) (h : ∀ K' : Act → World → Prop, Shut (∀ a w, wpOps P ops Q rest a w → K' a w) → if Region.wanted o (yielded ops a.tmps) = true then Oper.wp P o a w K' Q else K' (a.put o.dst undef) w) : wpOps P ops Q (i :: rest) a w := by
  have := h (wpOps P ops Q rest) (fun _ _ h => h)
  simp only [wpOps, ho]
  split
  · rename_i hw
    rw [if_pos hw] at this
    exact .inl this
  · rename_i hw
    rw [if_neg hw] at this
    exact this
end
end Go.Proofs.Ytbbekjcldbbhiaa
