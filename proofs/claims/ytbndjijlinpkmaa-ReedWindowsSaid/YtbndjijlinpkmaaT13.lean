/- Part 13 of the proof: StepL, PotK, Pots. -/
import Derived.Deep.RegionHeld3
import Derived.Test.YtbndjijlinpkmaaT12
import Derived.Test.YtbndjijlinpkmaaT10
/- Regions that do not draw, one law a step. -/
namespace Go.Proofs.Ytbndjijlinpkmaa
set_option linter.all false
open Go.RowKit
section
variable {P : Program} {ops : Array Oper} {Q : Exit → Act → World → Prop} {a : Act} {w : World} {i : Nat} {rest : List Nat} {o : Oper}
theorem wp_region_l {id : Nat} (l : List Nat) (hl : List.range ops.size = l) (h : wpOps P ops Q l a w) : (Code.region id ops false).wp P Q a w := wp_region (by rw [hl]; exact h)
theorem opsL_take {v : Value} (ho : ops[i]? = some o) (hw : Region.wanted o (yielded ops a.tmps) = true) (hv : (execOp a.eval o).run P w = .ok (.value v) w) (h : wpOps P ops Q rest (a.put o.dst v) w) : wpOps P ops Q (i :: rest) a w := by
  simp only [wpOps, ho, hw, if_true]
  exact .inl (by simp only [Oper.wp, hv, Oper.upon]; exact h)
theorem opsL_skip (ho : ops[i]? = some o) (hw : Region.wanted o (yielded ops a.tmps) = false) (h : wpOps P ops Q rest (a.put o.dst undef) w) : wpOps P ops Q (i :: rest) a w := by
  simp only [wpOps, ho, hw, if_false, Bool.false_eq_true]
  exact h
theorem opsL_step (ho : ops[i]? = some o) (h : ∀ K' : Act → World → Prop, Shut (∀ a w, wpOps P ops Q rest a w → K' a w) → if Region.wanted o (yielded ops a.tmps) = true then Oper.wp P o a w K' Q else K' (a.put o.dst undef) w) : wpOps P ops Q (i :: rest) a w := by
  have := h (wpOps P ops Q rest) (fun _ _ h => h)
  simp only [wpOps, ho]
  split
  · rename_i hw
    rw [if_pos hw] at this
    exact .inl this
  · rename_i hw
    rw [if_neg hw] at this
    exact this
end
end Go.Proofs.Ytbndjijlinpkmaa
/- Contracts of what a pot hands out: which numbers, and what is changed. -/
namespace Go.Proofs.Ytbndjijlinpkmaa
set_option linter.all false
open Go.RowKit

/-- Block b is a pot. -/
def Pt (w : World) (b : Nat) : Prop := ∃ t s, Bk w b t #[.int .u64 s]
/-- Of what lay under B, the pot alone may have been changed. -/
structure PB (b B : Nat) (w w' : World) : Prop where
  os : w'.os = w.os
  tape : w'.tape = w.tape
  output : w'.output = w.output
  size : w.heap.size ≤ w'.heap.size
  heap : ∀ k, k < B → k ≠ b → w'.heap[k]? = w.heap[k]?
section
variable {b B B' : Nat} {w w' w'' : World} {t : TypeId} {s : Int} {p : Addr}
theorem Pt.lt (h : Pt w b) : b < w.heap.size := by obtain ⟨t, s, h⟩ := h; exact h.lt
theorem Pt.alloc (h : Pt w b) (o : Obj) : Pt (w.alloc o) b := by obtain ⟨t, s, h⟩ := h; exact ⟨t, s, h.alloc o⟩
theorem Pt.drew (h : Pt w b) : Pt w.drew b := h
theorem Pt.other (h : Pt w b) (hp : b ≠ p.block) (u : Value) : Pt (w.setCell p u) b := by obtain ⟨t, s, h⟩ := h; exact ⟨t, s, h.other hp u⟩
theorem Pt.below (h : Pt w b) (hb : Below B w w') (hg : b < B) : Pt w' b := by obtain ⟨t, s, h⟩ := h; exact ⟨t, s, h.below hb hg⟩
theorem Pt.grown {row : Option Nat} (h : Pt w b) (hb : w.grownBy w' row) (hg : some b ≠ row) : Pt w' b := by obtain ⟨t, s, h⟩ := h; exact ⟨t, s, h.grown hb hg⟩
theorem Pt.rowOther (h : Pt w b) {g : Nat} (hk : b ≠ g) (ds : Array Value) : Pt (w.setRow g ds) b := by obtain ⟨t, s, h⟩ := h; exact ⟨t, s, h.rowOther hk ds⟩
theorem PB.refl (b B : Nat) (w : World) : PB b B w w := ⟨rfl, rfl, rfl, Nat.le_refl _, fun _ _ _ => rfl⟩
theorem PB.trans (h : PB b B w w') (h' : PB b B' w' w'') (hB : B ≤ B') : PB b B w w'' := ⟨h'.os.trans h.os, h'.tape.trans h.tape, h'.output.trans h.output, Nat.le_trans h.size h'.size, fun k hk hb => (h'.heap k (Nat.lt_of_lt_of_le hk hB) hb).trans (h.heap k hk hb)⟩
theorem PB.below (h : PB b B w w') (h' : Below B' w' w'') (hB : B ≤ B') : PB b B w w'' := ⟨h'.os.trans h.os, h'.tape.trans h.tape, h'.output.trans h.output, Nat.le_trans h.size h'.size, fun k hk hb => (h'.block k (Nat.lt_of_lt_of_le hk hB)).trans (h.heap k hk hb)⟩
theorem PB.of (h : Below B w w') : PB b B w w' := ⟨h.os, h.tape, h.output, h.size, fun k hk _ => h.block k hk⟩
theorem PB.toBelow (h : PB b B w w') (hB : B ≤ b) : Below B w w' := ⟨h.os, h.tape, h.output, h.size, fun k hk => h.heap k hk (by omega)⟩
theorem PB.mono (h : PB b B w w') (hB : B' ≤ B) : PB b B' w w' := ⟨h.os, h.tape, h.output, h.size, fun k hk => h.heap k (by omega)⟩
theorem PB.alloc (h : PB b B w w') (hB : B ≤ w'.heap.size) (o : Obj) : PB b B w (w'.alloc o) := h.below ((Below.refl _ _).alloc hB o) (Nat.le_refl _)
theorem PB.setCell (h : PB b B w w') (hp : B ≤ p.block) (u : Value) : PB b B w (w'.setCell p u) := h.below ((Below.refl _ _).setCell hp u) (Nat.le_refl _)
/-- Blocks, ranges and numbers that are no pot are as they were. -/
theorem Bk.pb {g : Nat} {cs : Array Value} (h : Bk w g t cs) (hk : PB b B w w') (hg : g < B) (hb : g ≠ b) : Bk w' g t cs := (hk.heap g hg hb).trans h
theorem Pt.cell {i : Nat} {v : Value} (h : Pt w b) (hc : w.cell? ⟨b, i, none⟩ = some v) : ∃ s, v = .int .u64 s := by
  obtain ⟨t, s, h⟩ := h
  rw [cell_of_row w b i _ t (0, 0) h] at hc
  cases i with
  | zero => exact ⟨s, by simpa using hc.symm⟩
  | succ i => simp at hc
theorem PB.cell (h : PB b B w w') (hp : p.block < B) (hb : p.block ≠ b) : w'.cell? p = w.cell? p := World.cell?_of_block (h.heap _ hp hb)
theorem Rg.pb {a : Option Addr} {l : List R2} (h : Rg w w.heap.size a l) (hp : Pt w b) (hk : PB b w.heap.size w w') : Rg w' w'.heap.size a l := fun k r hr => by
  obtain ⟨g, off, e, hg, h1, h2⟩ := h k r hr
  have hne : g ≠ b := by
    rintro rfl
    obtain ⟨s, e⟩ := hp.cell h1
    cases e
  have := hk.size
  exact ⟨g, off, e, by omega, (hk.cell hg hne).trans h1, (hk.cell hg hne).trans h2⟩
theorem Is.pb {a : Option Addr} {l : List Int} (h : Is w w.heap.size a l) (hp : Pt w b) (hk : PB b w.heap.size w w') : Is w' w'.heap.size a l := fun k r hr => by
  obtain ⟨g, off, e, hg, h1⟩ := h k r hr
  have hne : g ≠ b := by
    rintro rfl
    obtain ⟨s, e⟩ := hp.cell h1
    cases e
  have := hk.size
  exact ⟨g, off, e, by omega, (hk.cell hg hne).trans h1⟩
theorem Put.pb {s' : Int} (hb : Bk w b t #[.int .u64 s]) (h : Put w w' b s s') : PB b w.heap.size w w' ∧ Pt w' b := by
  rcases h with rfl | ⟨rfl, _⟩
  · exact ⟨⟨rfl, rfl, rfl, by simp, fun k hk hkb => Below.heap_setCell w _ _ k hkb⟩, t, s', hb.put1 _⟩
  · exact ⟨PB.refl _ _ _, t, s, hb⟩
end

/-- What is said of a call that takes numbers out of a pot. -/
def PotEnd (b : Nat) (w : World) (P : Int → Prop) (e : Ending) (w' : World) : Prop := ∃ x, e = .returned (.int .i64 x) ∧ P x ∧ PB b w.heap.size w w' ∧ Pt w' b
theorem uptoP (b : Nat) (m : Int) (w : World) (hp : Pt w b) (hm : 0 ≤ m ∧ m ≤ 1000) : Calls Try.prog 39 #[.pointer (some ⟨b, 0, none⟩), .int .i64 m] w (PotEnd b w fun x => 0 ≤ x ∧ x ≤ m) := by
  obtain ⟨t, s, hb⟩ := hp
  refine (upto_any b s m w hm.2 (hb.at_ 0 _ rfl) (hb.free 0)).mono ?_
  rintro e w' ⟨rfl, hput⟩
  have h1 := uptoF_in s m hm.2
  have h2 := hput.pb hb
  exact ⟨_, rfl, by omega, h2.1, h2.2⟩
set_option maxHeartbeats 400000 in
theorem withinP (b : Nat) (lo hi : Int) (w : World) (hp : Pt w b) (h : -400 ≤ lo ∧ lo ≤ hi ∧ hi ≤ 400) : Calls Try.prog 9 #[.pointer (some ⟨b, 0, none⟩), .int .i64 lo, .int .i64 hi] w (PotEnd b w fun x => lo ≤ x ∧ x ≤ hi) := by
  obtain ⟨h1, h2, h3⟩ := h
  go_enter Try.func9, Try.ntmps9
  go_wp2_with (go_at_call 39; refine (uptoP _ _ _ hp (by omega)).mono ?_; rintro e w1 ⟨x, rfl, hx, hk, hp1⟩; obtain ⟨hx1, hx2⟩ := hx)
  go_ret
  exact ⟨_, rfl, by omega, hk, hp1⟩
def pick2 (x y u : Int) : Int := if u = 0 then x else y
set_option maxHeartbeats 400000 in
theorem of2_any (b q o : Nat) (s x y : Int) (w : World) (h : w.cell? ⟨b, 0, none⟩ = some (.int .u64 s)) (hf : w.frozen? ⟨b, 0, none⟩ = false) (hbq : b ≠ q)
    (h0 : w.cell? ⟨q, o, none⟩ = some (.int .i64 x)) (h1 : w.cell? ⟨q, o + 1, none⟩ = some (.int .i64 y)) :
    Calls Try.prog 38 #[.pointer (some ⟨b, 0, none⟩), .slice (some ⟨q, o, none⟩) 2 2] w fun e w' => e = .returned (.int .i64 (pick2 x y (uptoF s 1))) ∧ Put w w' b s (uptoS s 1) := by
  have hu := uptoF_in s 1 (by omega)
  have hcase : uptoF s 1 = 0 ∨ uptoF s 1 = 1 := by omega
  rcases hcase with e0 | e0
  · have he : pick2 x y (uptoF s 1) = x := by rw [e0]; rfl
    clear hu
    go_enter Try.func38, Try.ntmps38
    go_wp2_with (go_at_call 39; refine (upto_any _ _ _ _ (by decide) h hf).mono ?_; rintro e w1 ⟨rfl, hp⟩; have g0 := hp.cell hbq h0; have g1 := hp.cell hbq h1)
    go_ret
    exact ⟨by rw [he]; rfl, hp⟩
  · have he : pick2 x y (uptoF s 1) = y := by rw [e0]; rfl
    clear hu
    go_enter Try.func38, Try.ntmps38
    go_wp2_with (go_at_call 39; refine (upto_any _ _ _ _ (by decide) h hf).mono ?_; rintro e w1 ⟨rfl, hp⟩; have g0 := hp.cell hbq h0; have g1 := hp.cell hbq h1)
    go_ret
    exact ⟨by rw [he]; rfl, hp⟩
theorem of2P (b q : Nat) (x y : Int) (t : TypeId) (w : World) (hp : Pt w b) (hbq : b ≠ q) (hq : Bk w q t #[.int .i64 x, .int .i64 y]) : Calls Try.prog 38 #[.pointer (some ⟨b, 0, none⟩), .slice (some ⟨q, 0, none⟩) 2 2] w (PotEnd b w fun v => v = x ∨ v = y) := by
  obtain ⟨tb, s, hb⟩ := hp
  refine (of2_any b q 0 s x y w (hb.at_ 0 _ rfl) (hb.free 0) hbq (hq.at_ 0 _ rfl) (hq.at_ 1 _ rfl)).mono ?_
  rintro e w' ⟨rfl, hput⟩
  have h2 := hput.pb hb
  refine ⟨_, rfl, ?_, h2.1, h2.2⟩
  unfold pick2
  split
  · exact .inl rfl
  · exact .inr rfl
theorem of3P (b q : Nat) (x y z : Int) (t : TypeId) (w : World) (hp : Pt w b) (hbq : b ≠ q) (hq : Bk w q t #[.int .i64 x, .int .i64 y, .int .i64 z]) : Calls Try.prog 38 #[.pointer (some ⟨b, 0, none⟩), .slice (some ⟨q, 0, none⟩) 3 3] w (PotEnd b w fun v => v = x ∨ v = y ∨ v = z) := by
  obtain ⟨tb, s, hb⟩ := hp
  refine (of3_any b q 0 s x y z w (hb.at_ 0 _ rfl) (hb.free 0) hbq (hq.at_ 0 _ rfl) (hq.at_ 1 _ rfl) (hq.at_ 2 _ rfl)).mono ?_
  rintro e w' ⟨rfl, hput⟩
  have h2 := hput.pb hb
  refine ⟨_, rfl, ?_, h2.1, h2.2⟩
  unfold pick3
  split
  · exact .inl rfl
  · split
    · exact .inr (.inl rfl)
    · exact .inr (.inr rfl)
end Go.Proofs.Ytbndjijlinpkmaa
/- The contract of NewPot: a new block with one number; nothing else is changed. -/
namespace Go.Proofs.Ytbndjijlinpkmaa
set_option linter.all false
open Go.RowKit
set_option maxHeartbeats 1000000 in
theorem newPot_any (a : Option Addr) (n c : Nat) (l : List Int) (w : World) (hn : n = l.length) (hm : n ≤ 9223372036854775807) (h : Is w w.heap.size a l) :
    Calls Try.prog 6 #[.slice a n c] w fun e w' => ∃ s t, e = .returned (.pointer (some ⟨w.heap.size, 0, none⟩)) ∧ Bk w' w.heap.size t #[.int .u64 s] ∧ Below w.heap.size w w' := by
  have Hn : Hid (n = l.length) := hn
  have Hh : Hid (Is w w.heap.size a l) := h
  clear hn h
  go_enter Try.func6, Try.ntmps6
  go_wp2
  go_loopw [4] (fun i wr => ∃ (k : Nat) (s : Int) (t : TypeId), k ≤ n ∧ i = .int .i64 k ∧ Bk wr w.heap.size t #[.int .u64 s] ∧ Below w.heap.size w wr) (fun i _ => n - (intOf i).toNat)
  case atStart => exact ⟨0, _, _, Nat.zero_le _, rfl, Bk.new w _ _, (Below.refl _ _).alloc (Nat.le_refl _) _⟩
  case round =>
    obtain ⟨k, s, t, hk, rfl, hb, hB⟩ := hrel
    have c0 := hb.at_ 0 _ rfl
    have f0 := hb.free 0
    have hl := hb.lt
    by_cases hlt : k < n
    · have hkl : k < l.length := by rw [← Hn.out]; exact hlt
      obtain ⟨b, off, rfl, hbl, e0⟩ := Hh.out k l[k] (List.getElem?_eq_getElem hkl)
      replace e0 := (hB.cell (p := ⟨b, off + k, none⟩) hbl).trans e0
      obtain ⟨x, hx⟩ : ∃ x, l[k] = x := ⟨_, rfl⟩
      rw [hx] at e0
      have hne : b ≠ w.heap.size := by omega
      have hne' : w.heap.size ≠ b := by omega
      have i0 : (0 : Int) ≤ ↑k := by omega
      have i1 : (↑k : Int) < ↑n := by omega
      have HB := hidMk hB
      have Hb := hidMk hb
      clear hB hb hx hbl Hh Hn hkl
      go_wp2
      go_region
      clear e0 hne hne'
      obtain ⟨s1, hs1⟩ : ∃ s1, IntKind.u64.wrap (bits BinOp.xor IntKind.u64 s (IntKind.u64.wrap x) * 15485907386658061715) = s1 := ⟨_, rfl⟩
      rw [hs1]
      clear hs1
      go_wp2
      go_region
      go_wp2
      go_roundw
      case rel =>
        exact ⟨k + 1, _, t, by omega, by go_num, ((Hb.out.put1 _).put1 _), ((HB.out.setCell (Nat.le_refl _) _).setCell (Nat.le_refl _) _).drew.drew⟩
      case measure => simp [intOf]; omega
    · obtain rfl : k = n := by omega
      go_wp2
      go_ret
      exact ⟨s, t, rfl, hb, hB⟩
end Go.Proofs.Ytbndjijlinpkmaa
