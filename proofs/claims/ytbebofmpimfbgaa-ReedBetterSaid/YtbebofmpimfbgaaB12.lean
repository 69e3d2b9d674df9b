/- Part 12 of the proof: KitJ, Pots, PotK, LawK, FineX, SpoL, StepL. -/
import Derived.Deep.RegionHeld3
import Derived.Deep.WholeRow
import Derived.Test.YtbebofmpimfbgaaB07
import Derived.Test.YtbebofmpimfbgaaB06
import Derived.Test.YtbebofmpimfbgaaB11
/- Contracts of the kit's copies and comparisons of jobs. -/
namespace Go.Proofs.Ytbebofmpimfbgaa
set_option linter.all false
open Go.RowKit

theorem rg_one (l : List R2) : ∀ u ∈ rgCells l, u.oneCell' = true := by
  induction l with
  | nil => intro u h; cases h
  | cons x l ih =>
    intro u h
    rcases List.mem_cons.1 h with rfl | h
    · rfl
    · rcases List.mem_cons.1 h with rfl | h
      · rfl
      · exact ih u h
theorem rg_news {W : World} {B : Nat} {ad : Addr} {l : List R2} (h : Rg W B (some ad) l) : ∀ j u, (rgCells l)[j]? = some u → W.cell? (ad.add j) = some u := by
  intro j u hj
  have hjl := (List.getElem?_eq_some_iff.1 hj).1
  rw [rgCells_len] at hjl
  have hk : j / 2 < l.length := by omega
  obtain ⟨b, off, e, _, e0, e1⟩ := h (j / 2) l[j / 2] (List.getElem?_eq_getElem hk)
  cases e
  obtain ⟨h0, h1⟩ := rgCells_at l (j / 2) l[j / 2] (List.getElem?_eq_getElem hk)
  have ha : ∀ k, (⟨b, off, none⟩ : Addr).add k = ⟨b, off + k, none⟩ := by
    intro k
    unfold Addr.add
    split
    · rename_i hk0; subst hk0; rfl
    · rfl
  rw [ha]
  rcases Nat.mod_two_eq_zero_or_one j with hm | hm
  · have : j = j / 2 * 2 := by omega
    rw [this] at hj ⊢
    rw [h0] at hj
    cases hj
    exact e0
  · have hj' : j = j / 2 * 2 + 1 := by omega
    have h2 : W.cell? ⟨b, off + j, none⟩ = W.cell? ⟨b, off + j / 2 * 2 + 1, none⟩ := by
      have : off + j = off + j / 2 * 2 + 1 := by omega
      rw [this]
    rw [h2, e1, ← h1, ← hj', hj]
theorem Rg.of_own {w : World} {B e n : Nat} {v : Value} {l : List R2} (h : w.ownsRow B e 2 v n (rgCells l)) : ∃ a c, v = .slice a n c ∧ n = l.length ∧ Rg w w.heap.size a l := by
  have hl := h.1
  rw [rgCells_len] at hl
  rcases h.2 with ⟨rfl, rfl⟩ | ⟨g, cap, cur, rfl, hb, hg, hnc, hcm, hcs, htk⟩
  · have e : l = [] := List.length_eq_zero_iff.1 (by omega)
    subst e
    exact ⟨none, 0, rfl, rfl, Rg.nil _ _ _⟩
  · refine ⟨some ⟨g, 0, none⟩, cap, rfl, by omega, fun k x hk => ⟨g, 0, rfl, (Array.getElem?_eq_some_iff.1 hg).1, ?_, ?_⟩⟩
    all_goals
      have hkl := (List.getElem?_eq_some_iff.1 hk).1
      obtain ⟨h0, h1⟩ := rgCells_at l k x hk
    · rw [cell_of_row w g (0 + k * 2) cur e (0, 0) hg, Nat.zero_add, ← Array.getElem?_toList]
      have h2 : (cur.toList.take (n * 2))[k * 2]? = some (.int .i64 x.1) := by rw [htk]; exact h0
      rw [List.getElem?_take_of_lt (by omega)] at h2
      exact h2
    · rw [cell_of_row w g (0 + k * 2 + 1) cur e (0, 0) hg, Nat.zero_add, ← Array.getElem?_toList]
      have h2 : (cur.toList.take (n * 2))[k * 2 + 1]? = some (.int .i64 x.2) := by rw [htk]; exact h1
      rw [List.getElem?_take_of_lt (by omega)] at h2
      exact h2
theorem own_lo {w : World} {B B' e n : Nat} {v : Value} {xs : List Value} (h : w.ownsRow B e 2 v n xs) (hB : B' ≤ B) : w.ownsRow B' e 2 v n xs :=
  ⟨h.1, h.2.imp id fun ⟨g, cap, cur, a, b, c⟩ => ⟨g, cap, cur, a, Nat.le_trans hB b, c⟩⟩
theorem own_keep {w w' : World} {B e n : Nat} {v : Value} {xs : List Value} (h : w.ownsRow B e 2 v n xs) (hk : ∀ g, B ≤ g → w'.heap[g]? = w.heap[g]?) : w'.ownsRow B e 2 v n xs :=
  ⟨h.1, h.2.imp id fun ⟨g, cap, cur, a, b, c, d⟩ => ⟨g, cap, cur, a, b, (hk g b).trans c, d⟩⟩
set_option maxHeartbeats 1000000 in
set_option maxRecDepth 100000 in
theorem ranges_some (ad : Addr) (n c : Nat) (l : List R2) (w : World) (hn : n = l.length) (hm : n ≤ 1000) (h : Rg w w.heap.size (some ad) l) :
    Calls Try.prog 51 #[.slice (some ad) n c] w fun e w' => ∃ v, e = .returned v ∧ w'.ownsRow w.heap.size 23 2 v n (rgCells l) ∧ Below w.heap.size w w' := by
  obtain ⟨i0, hi, hz0, hz1, hz2⟩ := info_parts infoRange
  have Hi : Hid (Try.prog.info? 23 = some i0) := hi
  have Hz0 := hidMk hz0
  have Hz1 := hidMk hz1
  have Hz2 := hidMk hz2
  clear hi hz0 hz1 hz2
  have Hn := hidMk hn
  have Hh := hidMk h
  clear hn h
  go_enter Try.func51, Try.ntmps51
  have own0 : (w.alloc (.cells #[] 23)).ownsRow w.heap.size 23 2 (.slice (some ⟨w.heap.size, 0, none⟩) 0 0) 0 [] :=
    ⟨rfl, .inr ⟨w.heap.size, 0, #[], rfl, Nat.le_refl _, Bk.new _ _ _, Nat.le_refl _, Nat.zero_le _, rfl, rfl⟩⟩
  have Ho := hidMk own0
  clear own0
  go_wp2_with (at_builtin; refine wpList_append_own_at _ rfl (.tmp 3) (.tmp 4) 28 rfl w.heap.size 23 i0 (.agg #[.int .i64 0, .int .i64 0]) 2 16 Try.underlying28 Hi.out Hz0.out Hz1.out Hz2.out rfl (by decide) _ 0 [] rfl Ho.out ad n c (rgCells l) rfl (by rw [rgCells_len, Hn.out]) (rg_news (Hh.out.up ((Below.refl _ _).alloc (Nat.le_refl _) _))) (rg_one l) (by unfold maxLen; omega) (by omega) (by simp) ?_; intro v' w3 own' hg _ at_)
  go_ret
  refine ⟨v', rfl, by simpa using own', ?_⟩
  exact ((Below.refl _ _).alloc (Nat.le_refl _) (.cells #[] 23)).grown hg (by simp) (fun g e => by cases e; exact Nat.le_refl _)
theorem ranges_none (n c : Nat) (hn : n = 0) (w : World) :
    Calls Try.prog 51 #[.slice none n c] w fun e w' => ∃ v, e = .returned v ∧ w'.ownsRow w.heap.size 23 2 v n [] ∧ Below w.heap.size w w' := by
  subst hn
  go_enter Try.func51, Try.ntmps51
  go_wp2_with fail
  go_ret
  exact ⟨_, rfl, ⟨rfl, .inr ⟨w.heap.size, 0, #[], rfl, Nat.le_refl _, Bk.new _ _ _, Nat.le_refl _, Nat.zero_le _, rfl, rfl⟩⟩, (Below.refl _ _).alloc (Nat.le_refl _) _⟩
theorem ranges_any (a : Option Addr) (n c : Nat) (l : List R2) (w : World) (hn : n = l.length) (hm : n ≤ 1000) (h : Rg w w.heap.size a l) :
    Calls Try.prog 51 #[.slice a n c] w fun e w' => ∃ v, e = .returned v ∧ w'.ownsRow w.heap.size 23 2 v n (rgCells l) ∧ Below w.heap.size w w' := by
  cases a with
  | some ad => exact ranges_some ad n c l w hn hm h
  | none =>
    have hl : l = [] := by
      cases l with
      | nil => rfl
      | cons x l =>
        obtain ⟨b, off, e, _⟩ := h 0 x rfl
        cases e
    subst hl
    exact ranges_none n c (by simpa using hn) w
set_option maxHeartbeats 1000000 in
set_option maxRecDepth 100000 in
theorem copyJob_any (J : Jb) (a : Option Addr) (n c : Nat) (w : World) (hn : n = J.sh.length) (hm : n ≤ 1000) (h : Rg w w.heap.size a J.sh) :
    Calls Try.prog 14 #[.agg (jobC J (.slice a n c))] w fun e w' => ∃ a' c', e = .returned (.agg (jobC J (.slice a' n c'))) ∧ w'.ownsRow w.heap.size 23 2 (.slice a' n c') n (rgCells J.sh) ∧ Below w.heap.size w w' := by
  have Hn := hidMk hn
  have Hh := hidMk h
  clear hn h
  have b0 : Bk ((w.alloc (.cells (jobC J (.slice a n c)) 30)).alloc (.cells (jobC zeroJ (.slice none 0 0)) 30)) w.heap.size 30 (jobC J (.slice a n c)) := (Bk.new w _ _).alloc _
  have b1 : Bk ((w.alloc (.cells (jobC J (.slice a n c)) 30)).alloc (.cells (jobC zeroJ (.slice none 0 0)) 30)) (w.heap.size + 1) 30 (jobC zeroJ (.slice none 0 0)) := Bk.newAt _ _ _ _ (by simp)
  have hW : Below w.heap.size w ((w.alloc (.cells (jobC J (.slice a n c)) 30)).alloc (.cells (jobC zeroJ (.slice none 0 0)) 30)) := ((Below.refl _ _).alloc (Nat.le_refl _) _).alloc (by simp) _
  have s15 := b0.at_ 15 (.slice a n c) rfl
  go_enter Try.func14, Try.ntmps14
  go_wp2_with fail
  refine (ranges_any a n c J.sh _ Hn.out hm (Hh.out.up hW)).mono ?_
  rintro e w1 ⟨v, rfl, own, hb1⟩
  obtain ⟨a', c', rfl, -, -⟩ := Rg.of_own own
  have hz1 := hb1.size
  simp only [World.size_alloc] at hz1
  have k0 := b0.below hb1 (by simp; omega)
  have k1 := b1.below hb1 (by simp)
  have hB1 : Below w.heap.size w w1 := hW.trans (hb1.mono (by simp; omega))
  have own1 : w1.ownsRow (w.heap.size + 1 + 1) 23 2 (.slice a' n c') n (rgCells J.sh) := by simpa using own
  have Own := hidMk own1
  have d15 := k0.at_ 15 (.slice a n c) rfl
  have f15 := k0.free 15
  clear own own1 hb1 b0 b1 hW s15
  have k0' : Bk (w1.setCell ⟨w.heap.size, 15, none⟩ (.slice a' n c')) w.heap.size 30 (jobC J (.slice a' n c')) := k0.put 15 _
  have k1' : Bk (w1.setCell ⟨w.heap.size, 15, none⟩ (.slice a' n c')) (w.heap.size + 1) 30 (jobC zeroJ (.slice none 0 0)) := k1.other (by simp) _
  go_wp2_with (first | (refine wpList_load_row rfl 30 _ rfl w.heap.size rfl _ (jobC J (.slice a' n c')) _ _ k0' Try.underlying30 rfl szJob ?_) | (refine wpList_store_row rfl 30 _ _ rfl (w.heap.size + 1) (jobC J (.slice a' n c')) rfl rfl _ _ k1' szJob rfl (oneJob _ _ _ _) ?_))
  refine bodyPost_ret (v := .agg (jobC J (.slice a' n c'))) (results_cell_row Try.results14 _ _ _ _ _ _ _ rfl (k1'.row _) Try.underlying30 rfl szJob) rfl ⟨a', c', rfl, ?_, ?_⟩
  · exact own_lo (own_keep Own.out fun g hg => (setRow_other _ _ _ _ (by omega)).trans (Below.heap_setCell _ _ _ _ (by show g ≠ w.heap.size; omega))) (by omega)
  · exact below_setRow (hB1.setCell (by simp) _) (by simp) _
end Go.Proofs.Ytbebofmpimfbgaa
/- The contract of NewPot: a new block with one number; nothing else is changed. -/
namespace Go.Proofs.Ytbebofmpimfbgaa
set_option linter.all false
open Go.RowKit
set_option maxHeartbeats 1000000 in
theorem newPot_any (a : Option Addr) (n c : Nat) (l : List Int) (w : World) (hn : n = l.length) (hm : n ≤ 9223372036854775807) (h : Is w w.heap.size a l) :
    Calls Try.prog 12 #[.slice a n c] w fun e w' => ∃ s t, e = .returned (.pointer (some ⟨w.heap.size, 0, none⟩)) ∧ Bk w' w.heap.size t #[.int .u64 s] ∧ Below w.heap.size w w' := by
  have Hn : Hid (n = l.length) := hn
  have Hh : Hid (Is w w.heap.size a l) := h
  clear hn h
  go_enter Try.func12, Try.ntmps12
  go_wp2
  go_loopw [4] (fun i wr => ∃ (k : Nat) (s : Int) (t : TypeId), k ≤ n ∧ i = .int .i64 k ∧ Bk wr w.heap.size t #[.int .u64 s] ∧ Below w.heap.size w wr) (fun i _ => n - (intOf i).toNat)
  case atStart => exact ⟨0, _, _, Nat.zero_le _, rfl, Bk.new w _ _, (Below.refl _ _).alloc (Nat.le_refl _) _⟩
  case round =>
    obtain ⟨k, s, t, hk, rfl, hb, hB⟩ := hrel
    have c0 := hb.at_ 0 _ rfl
    have f0 := hb.free 0
    have hl := hb.lt
    by_cases hlt : k < n
    · have hkl : k < l.length := by rw [← Hn.out]; exact hlt
      obtain ⟨b, off, rfl, hbl, e0⟩ := Hh.out k l[k] (List.getElem?_eq_getElem hkl)
      replace e0 := (hB.cell (p := ⟨b, off + k, none⟩) hbl).trans e0
      obtain ⟨x, hx⟩ : ∃ x, l[k] = x := ⟨_, rfl⟩
      rw [hx] at e0
      have hne : b ≠ w.heap.size := by omega
      have hne' : w.heap.size ≠ b := by omega
      have i0 : (0 : Int) ≤ ↑k := by omega
      have i1 : (↑k : Int) < ↑n := by omega
      have HB := hidMk hB
      have Hb := hidMk hb
      clear hB hb hx hbl Hh Hn hkl
      go_wp2
      go_region
      clear e0 hne hne'
      obtain ⟨s1, hs1⟩ : ∃ s1, IntKind.u64.wrap (bits BinOp.xor IntKind.u64 s (IntKind.u64.wrap x) * 15485907386658061715) = s1 := ⟨_, rfl⟩
      rw [hs1]
      clear hs1
      go_wp2
      go_region
      go_wp2
      go_roundw
      case rel =>
        exact ⟨k + 1, _, t, by omega, by go_num, ((Hb.out.put1 _).put1 _), ((HB.out.setCell (Nat.le_refl _) _).setCell (Nat.le_refl _) _).drew.drew⟩
      case measure => simp [intOf]; omega
    · obtain rfl : k = n := by omega
      go_wp2
      go_ret
      exact ⟨s, t, rfl, hb, hB⟩
end Go.Proofs.Ytbebofmpimfbgaa
/- Contracts of what a pot hands out: which numbers, and what is changed. -/
namespace Go.Proofs.Ytbebofmpimfbgaa
set_option linter.all false
open Go.RowKit

/-- Block b is a pot. -/
def Pt (w : World) (b : Nat) : Prop := ∃ t s, Bk w b t #[.int .u64 s]
/-- Of what lay under B, the pot alone may have been changed. -/
structure PB (b B : Nat) (w w' : World) : Prop where
  os : w'.os = w.os
  tape : w'.tape = w.tape
  output : w'.output = w.output
  size : w.heap.size ≤ w'.heap.size
  heap : ∀ k, k < B → k ≠ b → w'.heap[k]? = w.heap[k]?
section
variable {b B B' : Nat} {w w' w'' : World} {t : TypeId} {s : Int} {p : Addr}
theorem Pt.lt (h : Pt w b) : b < w.heap.size := by obtain ⟨t, s, h⟩ := h; exact h.lt
theorem Pt.alloc (h : Pt w b) (o : Obj) : Pt (w.alloc o) b := by obtain ⟨t, s, h⟩ := h; exact ⟨t, s, h.alloc o⟩
theorem Pt.drew (h : Pt w b) : Pt w.drew b := h
theorem Pt.other (h : Pt w b) (hp : b ≠ p.block) (u : Value) : Pt (w.setCell p u) b := by obtain ⟨t, s, h⟩ := h; exact ⟨t, s, h.other hp u⟩
theorem Pt.below (h : Pt w b) (hb : Below B w w') (hg : b < B) : Pt w' b := by obtain ⟨t, s, h⟩ := h; exact ⟨t, s, h.below hb hg⟩
theorem Pt.grown {row : Option Nat} (h : Pt w b) (hb : w.grownBy w' row) (hg : some b ≠ row) : Pt w' b := by obtain ⟨t, s, h⟩ := h; exact ⟨t, s, h.grown hb hg⟩
theorem PB.refl (b B : Nat) (w : World) : PB b B w w := ⟨rfl, rfl, rfl, Nat.le_refl _, fun _ _ _ => rfl⟩
theorem PB.trans (h : PB b B w w') (h' : PB b B' w' w'') (hB : B ≤ B') : PB b B w w'' := ⟨h'.os.trans h.os, h'.tape.trans h.tape, h'.output.trans h.output, Nat.le_trans h.size h'.size, fun k hk hb => (h'.heap k (Nat.lt_of_lt_of_le hk hB) hb).trans (h.heap k hk hb)⟩
theorem PB.below (h : PB b B w w') (h' : Below B' w' w'') (hB : B ≤ B') : PB b B w w'' := ⟨h'.os.trans h.os, h'.tape.trans h.tape, h'.output.trans h.output, Nat.le_trans h.size h'.size, fun k hk hb => (h'.block k (Nat.lt_of_lt_of_le hk hB)).trans (h.heap k hk hb)⟩
theorem PB.of (h : Below B w w') : PB b B w w' := ⟨h.os, h.tape, h.output, h.size, fun k hk _ => h.block k hk⟩
theorem PB.toBelow (h : PB b B w w') (hB : B ≤ b) : Below B w w' := ⟨h.os, h.tape, h.output, h.size, fun k hk => h.heap k hk (by omega)⟩
theorem PB.mono (h : PB b B w w') (hB : B' ≤ B) : PB b B' w w' := ⟨h.os, h.tape, h.output, h.size, fun k hk => h.heap k (by omega)⟩
theorem PB.alloc (h : PB b B w w') (hB : B ≤ w'.heap.size) (o : Obj) : PB b B w (w'.alloc o) := h.below ((Below.refl _ _).alloc hB o) (Nat.le_refl _)
theorem PB.setCell (h : PB b B w w') (hp : B ≤ p.block) (u : Value) : PB b B w (w'.setCell p u) := h.below ((Below.refl _ _).setCell hp u) (Nat.le_refl _)
/-- Blocks, ranges and numbers that are no pot are as they were. -/
theorem Bk.pb {g : Nat} {cs : Array Value} (h : Bk w g t cs) (hk : PB b B w w') (hg : g < B) (hb : g ≠ b) : Bk w' g t cs := (hk.heap g hg hb).trans h
theorem Pt.cell {i : Nat} {v : Value} (h : Pt w b) (hc : w.cell? ⟨b, i, none⟩ = some v) : ∃ s, v = .int .u64 s := by
  obtain ⟨t, s, h⟩ := h
  rw [cell_of_row w b i _ t (0, 0) h] at hc
  cases i with
  | zero => exact ⟨s, by simpa using hc.symm⟩
  | succ i => simp at hc
theorem PB.cell (h : PB b B w w') (hp : p.block < B) (hb : p.block ≠ b) : w'.cell? p = w.cell? p := World.cell?_of_block (h.heap _ hp hb)
theorem Rg.pb {a : Option Addr} {l : List R2} (h : Rg w w.heap.size a l) (hp : Pt w b) (hk : PB b w.heap.size w w') : Rg w' w'.heap.size a l := fun k r hr => by
  obtain ⟨g, off, e, hg, h1, h2⟩ := h k r hr
  have hne : g ≠ b := by
    rintro rfl
    obtain ⟨s, e⟩ := hp.cell h1
    cases e
  have := hk.size
  exact ⟨g, off, e, by omega, (hk.cell hg hne).trans h1, (hk.cell hg hne).trans h2⟩
theorem Is.pb {a : Option Addr} {l : List Int} (h : Is w w.heap.size a l) (hp : Pt w b) (hk : PB b w.heap.size w w') : Is w' w'.heap.size a l := fun k r hr => by
  obtain ⟨g, off, e, hg, h1⟩ := h k r hr
  have hne : g ≠ b := by
    rintro rfl
    obtain ⟨s, e⟩ := hp.cell h1
    cases e
  have := hk.size
  exact ⟨g, off, e, by omega, (hk.cell hg hne).trans h1⟩
theorem Put.pb {s' : Int} (hb : Bk w b t #[.int .u64 s]) (h : Put w w' b s s') : PB b w.heap.size w w' ∧ Pt w' b := by
  rcases h with rfl | ⟨rfl, _⟩
  · exact ⟨⟨rfl, rfl, rfl, by simp, fun k hk hkb => Below.heap_setCell w _ _ k hkb⟩, t, s', hb.put1 _⟩
  · exact ⟨PB.refl _ _ _, t, s, hb⟩
end

/-- What is said of a call that takes numbers out of a pot. -/
def PotEnd (b : Nat) (w : World) (P : Int → Prop) (e : Ending) (w' : World) : Prop := ∃ x, e = .returned (.int .i64 x) ∧ P x ∧ PB b w.heap.size w w' ∧ Pt w' b
theorem uptoP (b : Nat) (m : Int) (w : World) (hp : Pt w b) (hm : 0 ≤ m ∧ m ≤ 1000) : Calls Try.prog 25 #[.pointer (some ⟨b, 0, none⟩), .int .i64 m] w (PotEnd b w fun x => 0 ≤ x ∧ x ≤ m) := by
  obtain ⟨t, s, hb⟩ := hp
  refine (upto_any b s m w hm.2 (hb.at_ 0 _ rfl) (hb.free 0)).mono ?_
  rintro e w' ⟨rfl, hput⟩
  have h1 := uptoF_in s m hm.2
  have h2 := hput.pb hb
  exact ⟨_, rfl, by omega, h2.1, h2.2⟩
set_option maxHeartbeats 400000 in
theorem withinP (b : Nat) (lo hi : Int) (w : World) (hp : Pt w b) (h : -400 ≤ lo ∧ lo ≤ hi ∧ hi ≤ 400) : Calls Try.prog 20 #[.pointer (some ⟨b, 0, none⟩), .int .i64 lo, .int .i64 hi] w (PotEnd b w fun x => lo ≤ x ∧ x ≤ hi) := by
  obtain ⟨h1, h2, h3⟩ := h
  go_enter Try.func20, Try.ntmps20
  go_wp2_with (go_at_call 25; refine (uptoP _ _ _ hp (by omega)).mono ?_; rintro e w1 ⟨x, rfl, hx, hk, hp1⟩; obtain ⟨hx1, hx2⟩ := hx)
  go_ret
  exact ⟨_, rfl, by omega, hk, hp1⟩
def pick2 (x y u : Int) : Int := if u = 0 then x else y
set_option maxHeartbeats 400000 in
theorem of2_any (b q o : Nat) (s x y : Int) (w : World) (h : w.cell? ⟨b, 0, none⟩ = some (.int .u64 s)) (hf : w.frozen? ⟨b, 0, none⟩ = false) (hbq : b ≠ q)
    (h0 : w.cell? ⟨q, o, none⟩ = some (.int .i64 x)) (h1 : w.cell? ⟨q, o + 1, none⟩ = some (.int .i64 y)) :
    Calls Try.prog 24 #[.pointer (some ⟨b, 0, none⟩), .slice (some ⟨q, o, none⟩) 2 2] w fun e w' => e = .returned (.int .i64 (pick2 x y (uptoF s 1))) ∧ Put w w' b s (uptoS s 1) := by
  have hu := uptoF_in s 1 (by omega)
  have hcase : uptoF s 1 = 0 ∨ uptoF s 1 = 1 := by omega
  rcases hcase with e0 | e0
  · have he : pick2 x y (uptoF s 1) = x := by rw [e0]; rfl
    clear hu
    go_enter Try.func24, Try.ntmps24
    go_wp2_with (go_at_call 25; refine (upto_any _ _ _ _ (by decide) h hf).mono ?_; rintro e w1 ⟨rfl, hp⟩; have g0 := hp.cell hbq h0; have g1 := hp.cell hbq h1)
    go_ret
    exact ⟨by rw [he]; rfl, hp⟩
  · have he : pick2 x y (uptoF s 1) = y := by rw [e0]; rfl
    clear hu
    go_enter Try.func24, Try.ntmps24
    go_wp2_with (go_at_call 25; refine (upto_any _ _ _ _ (by decide) h hf).mono ?_; rintro e w1 ⟨rfl, hp⟩; have g0 := hp.cell hbq h0; have g1 := hp.cell hbq h1)
    go_ret
    exact ⟨by rw [he]; rfl, hp⟩
theorem of2P (b q : Nat) (x y : Int) (t : TypeId) (w : World) (hp : Pt w b) (hbq : b ≠ q) (hq : Bk w q t #[.int .i64 x, .int .i64 y]) : Calls Try.prog 24 #[.pointer (some ⟨b, 0, none⟩), .slice (some ⟨q, 0, none⟩) 2 2] w (PotEnd b w fun v => v = x ∨ v = y) := by
  obtain ⟨tb, s, hb⟩ := hp
  refine (of2_any b q 0 s x y w (hb.at_ 0 _ rfl) (hb.free 0) hbq (hq.at_ 0 _ rfl) (hq.at_ 1 _ rfl)).mono ?_
  rintro e w' ⟨rfl, hput⟩
  have h2 := hput.pb hb
  refine ⟨_, rfl, ?_, h2.1, h2.2⟩
  unfold pick2
  split
  · exact .inl rfl
  · exact .inr rfl
theorem of3P (b q : Nat) (x y z : Int) (t : TypeId) (w : World) (hp : Pt w b) (hbq : b ≠ q) (hq : Bk w q t #[.int .i64 x, .int .i64 y, .int .i64 z]) : Calls Try.prog 24 #[.pointer (some ⟨b, 0, none⟩), .slice (some ⟨q, 0, none⟩) 3 3] w (PotEnd b w fun v => v = x ∨ v = y ∨ v = z) := by
  obtain ⟨tb, s, hb⟩ := hp
  refine (of3_any b q 0 s x y z w (hb.at_ 0 _ rfl) (hb.free 0) hbq (hq.at_ 0 _ rfl) (hq.at_ 1 _ rfl) (hq.at_ 2 _ rfl)).mono ?_
  rintro e w' ⟨rfl, hput⟩
  have h2 := hput.pb hb
  refine ⟨_, rfl, ?_, h2.1, h2.2⟩
  unfold pick3
  split
  · exact .inl rfl
  · split
    · exact .inr (.inl rfl)
    · exact .inr (.inr rfl)
end Go.Proofs.Ytbebofmpimfbgaa
/- What the laws take from pots and jobs made of numbers. -/
namespace Go.Proofs.Ytbebofmpimfbgaa
set_option linter.all false
open Go.RowKit
/-- What JobOf is known to hand back. -/
def JobP9 (b : Nat) (w : World) (e : Ending) (w' : World) : Prop :=
  ∃ (J : Jb) (a : Option Addr) (n c : Nat), e = .returned (.agg (jobC J (.slice a n c))) ∧ n = J.sh.length ∧ Rg w' w'.heap.size a J.sh ∧ J.check = 0 ∧ PB b w.heap.size w w' ∧ Pt w' b
theorem Rg.hi {w : World} {g : Nat} {a : Option Addr} {l : List R2} (h : Rg w g a l) (hg : g ≤ w.heap.size) : Rg w w.heap.size a l := h.keep hg (fun _ _ => rfl)
def JobOKn (x y : Int) : Prop := ∀ (b : Nat) (w : World), Pt w b → Calls Try.prog 13 #[.pointer (some ⟨b, 0, none⟩), .int .i64 x, .int .i64 y] w (JobP9 b w)
end Go.Proofs.Ytbebofmpimfbgaa
/- The contract of reed.Fine on any jobs and strokes, from that of work.fine. -/
namespace Go.Proofs.Ytbebofmpimfbgaa
set_option linter.all false
open Go.RowKit
theorem filed_ok {J : Jb} {l : List Int} (h : filedE J l = 0) : J.check = 0 ∧ l.length ≤ 6 := by
  unfold filedE at h
  by_cases h0 : J.check = 0
  · rw [if_pos h0] at h
    refine ⟨h0, ?_⟩
    unfold strokesE at h
    by_cases h6 : 6 < l.length
    · rw [if_pos h6] at h; omega
    · omega
  · rw [if_neg h0] at h; exact absurd h h0
theorem filed_in {J : Jb} {l : List Int} (h : filedE J l = 0) : (J.setTg (afterS J J.tg l)).In 200 := by
  obtain ⟨h0, h6⟩ := filed_ok h
  have hin := (check_ok h0).inn
  have h1 := afterS_in J (hin.mono (by decide)) l J.tg 100 hin.tg
  exact (hin.mono (by decide : (100 : Int) ≤ 200)).setTg (h1.mono (by omega))
/-- What work.fine is held to. -/
def FineOK : Prop := ∀ (J : Jb) (a : Option Addr) (n c : Nat) (w : World), J.In 1000 → n = J.sh.length → Rg w w.heap.size a J.sh → Calls Try.prog 68 #[.agg (jobC J (.slice a n c))] w fun e w' => e = .returned (.int .i64 (fineI J J.tg)) ∧ Below w.heap.size w w'
set_option maxHeartbeats 1000000 in
set_option maxRecDepth 100000 in
theorem fineL_ok (hfine : FineOK) (J : Jb) (l : List Int) (hc : filedE J l = 0) (a : Option Addr) (n c : Nat) (b : Option Addr) (m d : Nat) (w : World) (hn : n = J.sh.length) (hm : n ≤ 9223372036854775807) (h : Rg w w.heap.size a J.sh)
    (hmn : m = l.length) (hmm : m ≤ 9223372036854775807) (hl : Is w w.heap.size b l) :
    Calls Try.prog 31 #[.agg (jobC J (.slice a n c)), .slice b m d] w fun e w' => e = .returned (.tuple #[.int .i64 (fineI (J.setTg (afterS J J.tg l)) (afterS J J.tg l)), .int .i64 0]) ∧ Below w.heap.size w w' := by
  have Hn : Hid (n = J.sh.length) := hn
  have Hh : Hid (Rg w w.heap.size a J.sh) := h
  have Hm : Hid (m = l.length) := hmn
  have Hl : Hid (Is w w.heap.size b l) := hl
  have HJ := hidMk (filed_in hc)
  have Hf := hidMk hc
  have Hfine := hidMk hfine
  clear hn h hc hmn hl hfine
  have b0 : Bk (w.alloc (.cells (jobC J (.slice a n c)) 30)) w.heap.size 30 (jobC J (.slice a n c)) := Bk.new w _ _
  have hW : Below w.heap.size w (w.alloc (.cells (jobC J (.slice a n c)) 30)) := (Below.refl _ _).alloc (Nat.le_refl _) _
  go_enter Try.func31, Try.ntmps31
  go_wp2_with (refine wpList_load_row rfl 30 _ rfl w.heap.size rfl _ (jobC J (.slice a n c)) _ _ b0 Try.underlying30 rfl szJob ?_)
  refine (filed_any J a n c b m d l _ Hn.out hm (Hh.out.up hW) Hm.out hmm (Hl.out.up hW)).mono ?_
  rintro e w1 ⟨he, hb1⟩
  rw [if_pos Hf.out] at he
  subst he
  have hz1 := hb1.size
  simp only [World.size_alloc] at hz1
  have hB1 : Below w.heap.size w w1 := hW.trans (hb1.mono (by simp))
  clear hb1 b0 hW
  obtain ⟨T, hT⟩ : ∃ T, afterS J J.tg l = T := ⟨_, rfl⟩
  have HJ' : Hid ((J.setTg T).In 200) := by have := HJ.out; rw [hT] at this; exact this
  have HT := hidMk hT
  rw [hT]
  clear HJ hT
  go_wp2_with (first | (refine wpList_store_row rfl 106 _ _ rfl w1.heap.size (jobC (J.setTg T) (.slice a n c)) rfl rfl _ _ (Bk.new _ _ _) szWork rfl (oneJob _ _ _ _) ?_; rw [World.setRow_alloc_new]) | (refine wpList_load_row rfl 106 _ rfl w1.heap.size rfl _ (jobC (J.setTg T) (.slice a n c)) _ _ (Bk.new _ _ _) Try.underlying106 rfl szWork ?_))
  refine (Hfine.out (J.setTg T) a n c _ (HJ'.out.mono (by decide)) Hn.out (Hh.out.up (hB1.alloc (by omega) _))).mono ?_
  rintro e w2 ⟨rfl, hb2⟩
  have hB2 : Below w.heap.size w w2 := (hB1.alloc (by omega) _).trans (hb2.mono (by simp; omega))
  go_wp2
  refine bodyPost_ret (v := .tuple #[.int .i64 (fineI (J.setTg T) T), .int .i64 0]) (by simp [results, Try.results31, go_sem]; rfl) rfl ⟨by rw [HT.out], hB2⟩
def fineX (J : Jb) (l : List Int) : Int × Int := if filedE J l = 0 then (fineI J (afterS J J.tg l), 0) else (0, filedE J l)
set_option maxHeartbeats 1000000 in
set_option maxRecDepth 100000 in
theorem fineF_any (hfine : FineOK) (J : Jb) (a : Option Addr) (n c : Nat) (b : Option Addr) (m d : Nat) (l : List Int) (w : World) (hn : n = J.sh.length) (hm : n ≤ 9223372036854775807) (h : Rg w w.heap.size a J.sh)
    (hmn : m = l.length) (hmm : m ≤ 9223372036854775807) (hl : Is w w.heap.size b l) :
    Calls Try.prog 31 #[.agg (jobC J (.slice a n c)), .slice b m d] w fun e w' => e = .returned (.tuple #[.int .i64 (fineX J l).1, .int .i64 (fineX J l).2]) ∧ Below w.heap.size w w' := by
  by_cases hc : filedE J l = 0
  · have HV : fineX J l = (fineI J (afterS J J.tg l), 0) := by unfold fineX; rw [if_pos hc]
    rw [HV]
    exact fineL_ok hfine J l hc a n c b m d w hn hm h hmn hmm hl
  · have HV : Hid (fineX J l = (0, filedE J l)) := by show fineX J l = _; unfold fineX; rw [if_neg hc]
    have hcb : (filedE J l != 0) = true := by simpa using hc
    have Hn := hidMk hn
    have Hh := hidMk h
    have Hm := hidMk hmn
    have Hl := hidMk hl
    have Hf := hidMk hc
    clear hn h hmn hl hc
    have b0 : Bk (w.alloc (.cells (jobC J (.slice a n c)) 30)) w.heap.size 30 (jobC J (.slice a n c)) := Bk.new w _ _
    have hW : Below w.heap.size w (w.alloc (.cells (jobC J (.slice a n c)) 30)) := (Below.refl _ _).alloc (Nat.le_refl _) _
    go_enter Try.func31, Try.ntmps31
    go_wp2_with (refine wpList_load_row rfl 30 _ rfl w.heap.size rfl _ (jobC J (.slice a n c)) _ _ b0 Try.underlying30 rfl szJob ?_)
    refine (filed_any J a n c b m d l _ Hn.out hm (Hh.out.up hW) Hm.out hmm (Hl.out.up hW)).mono ?_
    rintro e w1 ⟨he, hb1⟩
    rw [if_neg Hf.out] at he
    subst he
    have hz1 := hb1.size
    simp only [World.size_alloc] at hz1
    have hB1 : Below w.heap.size w w1 := hW.trans (hb1.mono (by simp))
    clear hb1 b0 hW
    go_wp2_with (first | (refine wpList_store_row rfl 106 _ _ rfl w1.heap.size (jobC zeroJ (.slice none 0 0)) rfl rfl _ _ (Bk.new _ _ _) szWork rfl (oneJob _ _ _ _) ?_; rw [World.setRow_alloc_new]))
    refine bodyPost_ret (v := .tuple #[.int .i64 0, .int .i64 (filedE J l)]) (by simp [results, Try.results31, go_sem]) rfl ⟨by rw [HV.out], ?_⟩
    first | exact hB1.alloc (by omega) _ | exact hB1
end Go.Proofs.Ytbebofmpimfbgaa
/- The contract of reed.Spoiled on valid jobs and strokes. -/
namespace Go.Proofs.Ytbebofmpimfbgaa
set_option linter.all false
open Go.RowKit
set_option maxHeartbeats 1000000 in
set_option maxRecDepth 100000 in
theorem spoiledL_ok (J : Jb) (l : List Int) (hc : filedE J l = 0) (a : Option Addr) (n c : Nat) (b : Option Addr) (m d : Nat) (w : World) (hn : n = J.sh.length) (hm : n ≤ 9223372036854775807) (h : Rg w w.heap.size a J.sh)
    (hmn : m = l.length) (hmm : m ≤ 9223372036854775807) (hl : Is w w.heap.size b l) :
    Calls Try.prog 30 #[.agg (jobC J (.slice a n c)), .slice b m d] w fun e w' => e = .returned (.tuple #[.int .i64 (spoilI J.le (afterS J J.tg l)), .int .i64 0]) ∧ Below w.heap.size w w' := by
  have Hn : Hid (n = J.sh.length) := hn
  have Hh : Hid (Rg w w.heap.size a J.sh) := h
  have Hm : Hid (m = l.length) := hmn
  have Hl : Hid (Is w w.heap.size b l) := hl
  have Hf := hidMk hc
  clear hn h hc hmn hl
  have b0 : Bk (w.alloc (.cells (jobC J (.slice a n c)) 30)) w.heap.size 30 (jobC J (.slice a n c)) := Bk.new w _ _
  have hW : Below w.heap.size w (w.alloc (.cells (jobC J (.slice a n c)) 30)) := (Below.refl _ _).alloc (Nat.le_refl _) _
  go_enter Try.func30, Try.ntmps30
  go_wp2_with (refine wpList_load_row rfl 30 _ rfl w.heap.size rfl _ (jobC J (.slice a n c)) _ _ b0 Try.underlying30 rfl szJob ?_)
  refine (filed_any J a n c b m d l _ Hn.out hm (Hh.out.up hW) Hm.out hmm (Hl.out.up hW)).mono ?_
  rintro e w1 ⟨he, hb1⟩
  rw [if_pos Hf.out] at he
  subst he
  have hz1 := hb1.size
  simp only [World.size_alloc] at hz1
  have hB1 : Below w.heap.size w w1 := hW.trans (hb1.mono (by simp))
  clear hb1 b0 hW
  obtain ⟨T, hT⟩ : ∃ T, afterS J J.tg l = T := ⟨_, rfl⟩
  have HT := hidMk hT
  rw [hT]
  clear hT
  go_wp2_with (first | (refine wpList_store_row rfl 106 _ _ rfl w1.heap.size (jobC (J.setTg T) (.slice a n c)) rfl rfl _ _ (Bk.new _ _ _) szWork rfl (oneJob _ _ _ _) ?_; rw [World.setRow_alloc_new]) | (refine wpList_load_row rfl 106 _ rfl w1.heap.size rfl _ (jobC (J.setTg T) (.slice a n c)) _ _ (Bk.new _ _ _) Try.underlying106 rfl szWork ?_))
  refine (spoiled_any (J.setTg T) (.slice a n c) _).mono ?_
  rintro e w2 ⟨rfl, rfl⟩
  have hB2 := (hB1.alloc (B := w.heap.size) (by omega) (.cells (jobC (J.setTg T) (.slice a n c)) 106)).alloc (by simp; omega) (.cells (jobC (J.setTg T) (.slice a n c)) 106)
  go_wp2
  refine bodyPost_ret (v := .tuple #[.int .i64 (spoilI J.le T), .int .i64 0]) (by simp [results, Try.results30, go_sem]; rfl) rfl ⟨by rw [HT.out], hB2⟩
end Go.Proofs.Ytbebofmpimfbgaa
/- Regions that do not draw, one law a step. -/
namespace Go.Proofs.Ytbebofmpimfbgaa
set_option linter.all false
open Go.RowKit
section
variable {P : Program} {ops : Array Oper} {Q : Exit → Act → World → Prop} {a : Act} {w : World} {i : Nat} {rest : List Nat} {o : Oper}
theorem wp_region_l {id : Nat} (l : List Nat) (hl : List.range ops.size = l) (h : wpOps P ops Q l a w) : (Code.region id ops false).wp P Q a w := wp_region (by rw [hl]; exact h)
theorem opsL_take {v : Value} (ho : ops[i]? = some o) (hw : Region.wanted o (yielded ops a.tmps) = true) (hv : (execOp a.eval o).run P w = .ok (.value v) w) (h : wpOps P ops Q rest (a.put o.dst v) w) : wpOps P ops Q (i :: rest) a w := by
  simp only [wpOps, ho, hw, if_true]
  exact .inl (by simp only [Oper.wp, hv, Oper.upon]; exact h)
theorem opsL_skip (ho : ops[i]? = some o) (hw : Region.wanted o (yielded ops a.tmps) = false) (h : wpOps P ops Q rest (a.put o.dst undef) w) : wpOps P ops Q (i :: rest) a w := by
  simp only [wpOps, ho, hw, if_false, Bool.false_eq_true]
  exact h
theorem opsL_step (ho : ops[i]? = some o) (h : ∀ K' : Act → World → Prop, Shut (∀ a w, wpOps P ops Q rest a w → K' a w) → if Region.wanted o (yielded ops a.tmps) = true then Oper.wp P o a w K' Q else K' (a.put o.dst undef) w) : wpOps P ops Q (i :: rest) a w := by
  have := h (wpOps P ops Q rest) (fun _ _ h => h)
  simp only [wpOps, ho]
  split
  · rename_i hw
    rw [if_pos hw] at this
    exact .inl this
  · rename_i hw
    rw [if_neg hw] at this
    exact this
end
end Go.Proofs.Ytbebofmpimfbgaa
