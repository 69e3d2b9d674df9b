/- Part 28 of the proof: PotK. -/
import Derived.Deep.RegionHeld3
import Derived.Test.YtdficjnnlaicpaaT10
import Derived.Test.YtdficjnnlaicpaaT11
/- Contracts of what a pot hands out: which numbers, and what is changed. -/
namespace Go.Proofs.Ytdficjnnlaicpaa
set_option linter.all false
open Go.RowKit

/-- Block b is a pot. -/
def Pt (w : World) (b : Nat) : Prop := ∃ t s, Bk w b t #[.int .u64 s]
/-- Of what lay under B, the pot alone may have been changed. -/
structure PB (b B : Nat) (w w' : World) : Prop where
  os : w'.os = w.os
  tape : w'.tape = w.tape
  output : w'.output = w.output
  size : w.heap.size ≤ w'.heap.size
  heap : ∀ k, k < B → k ≠ b → w'.heap[k]? = w.heap[k]?
section
variable {b B B' : Nat} {w w' w'' : World} {t : TypeId} {s : Int} {p : Addr}
theorem Pt.lt (h : Pt w b) : b < w.heap.size := by obtain ⟨t, s, h⟩ := h; exact h.lt
theorem Pt.alloc (h : Pt w b) (o : Obj) : Pt (w.alloc o) b := by obtain ⟨t, s, h⟩ := h; exact ⟨t, s, h.alloc o⟩
theorem Pt.drew (h : Pt w b) : Pt w.drew b := h
theorem Pt.other (h : Pt w b) (hp : b ≠ p.block) (u : Value) : Pt (w.setCell p u) b := by obtain ⟨t, s, h⟩ := h; exact ⟨t, s, h.other hp u⟩
theorem Pt.below (h : Pt w b) (hb : Below B w w') (hg : b < B) : Pt w' b := by obtain ⟨t, s, h⟩ := h; exact ⟨t, s, h.below hb hg⟩
theorem Pt.grown {row : Option Nat} (h : Pt w b) (hb : w.grownBy w' row) (hg : some b ≠ row) : Pt w' b := by obtain ⟨t, s, h⟩ := h; exact ⟨t, s, h.grown hb hg⟩
theorem PB.refl (b B : Nat) (w : World) : PB b B w w := ⟨rfl, rfl, rfl, Nat.le_refl _, fun _ _ _ => rfl⟩
theorem PB.trans (h : PB b B w w') (h' : PB b B' w' w'') (hB : B ≤ B') : PB b B w w'' := ⟨h'.os.trans h.os, h'.tape.trans h.tape, h'.output.trans h.output, Nat.le_trans h.size h'.size, fun k hk hb => (h'.heap k (Nat.lt_of_lt_of_le hk hB) hb).trans (h.heap k hk hb)⟩
theorem PB.below (h : PB b B w w') (h' : Below B' w' w'') (hB : B ≤ B') : PB b B w w'' := ⟨h'.os.trans h.os, h'.tape.trans h.tape, h'.output.trans h.output, Nat.le_trans h.size h'.size, fun k hk hb => (h'.block k (Nat.lt_of_lt_of_le hk hB)).trans (h.heap k hk hb)⟩
theorem PB.of (h : Below B w w') : PB b B w w' := ⟨h.os, h.tape, h.output, h.size, fun k hk _ => h.block k hk⟩
theorem PB.toBelow (h : PB b B w w') (hB : B ≤ b) : Below B w w' := ⟨h.os, h.tape, h.output, h.size, fun k hk => h.heap k hk (by omega)⟩
theorem PB.mono (h : PB b B w w') (hB : B' ≤ B) : PB b B' w w' := ⟨h.os, h.tape, h.output, h.size, fun k hk => h.heap k (by omega)⟩
theorem PB.alloc (h : PB b B w w') (hB : B ≤ w'.heap.size) (o : Obj) : PB b B w (w'.alloc o) := h.below ((Below.refl _ _).alloc hB o) (Nat.le_refl _)
theorem PB.setCell (h : PB b B w w') (hp : B ≤ p.block) (u : Value) : PB b B w (w'.setCell p u) := h.below ((Below.refl _ _).setCell hp u) (Nat.le_refl _)
/-- Blocks, ranges and numbers that are no pot are as they were. -/
theorem Bk.pb {g : Nat} {cs : Array Value} (h : Bk w g t cs) (hk : PB b B w w') (hg : g < B) (hb : g ≠ b) : Bk w' g t cs := (hk.heap g hg hb).trans h
theorem Pt.cell {i : Nat} {v : Value} (h : Pt w b) (hc : w.cell? ⟨b, i, none⟩ = some v) : ∃ s, v = .int .u64 s := by
  obtain ⟨t, s, h⟩ := h
  rw [cell_of_row w b i _ t (0, 0) h] at hc
  cases i with
  | zero => exact ⟨s, by simpa using hc.symm⟩
  | succ i => simp at hc
theorem PB.cell (h : PB b B w w') (hp : p.block < B) (hb : p.block ≠ b) : w'.cell? p = w.cell? p := World.cell?_of_block (h.heap _ hp hb)
theorem Rg.pb {a : Option Addr} {l : List R2} (h : Rg w w.heap.size a l) (hp : Pt w b) (hk : PB b w.heap.size w w') : Rg w' w'.heap.size a l := fun k r hr => by
  obtain ⟨g, off, e, hg, h1, h2⟩ := h k r hr
  have hne : g ≠ b := by
    rintro rfl
    obtain ⟨s, e⟩ := hp.cell h1
    cases e
  have := hk.size
  exact ⟨g, off, e, by omega, (hk.cell hg hne).trans h1, (hk.cell hg hne).trans h2⟩
theorem Is.pb {a : Option Addr} {l : List Int} (h : Is w w.heap.size a l) (hp : Pt w b) (hk : PB b w.heap.size w w') : Is w' w'.heap.size a l := fun k r hr => by
  obtain ⟨g, off, e, hg, h1⟩ := h k r hr
  have hne : g ≠ b := by
    rintro rfl
    obtain ⟨s, e⟩ := hp.cell h1
    cases e
  have := hk.size
  exact ⟨g, off, e, by omega, (hk.cell hg hne).trans h1⟩
theorem Put.pb {s' : Int} (hb : Bk w b t #[.int .u64 s]) (h : Put w w' b s s') : PB b w.heap.size w w' ∧ Pt w' b := by
  rcases h with rfl | ⟨rfl, _⟩
  · exact ⟨⟨rfl, rfl, rfl, by simp, fun k hk hkb => Below.heap_setCell w _ _ k hkb⟩, t, s', hb.put1 _⟩
  · exact ⟨PB.refl _ _ _, t, s, hb⟩
end

/-- What is said of a call that takes numbers out of a pot. -/
def PotEnd (b : Nat) (w : World) (P : Int → Prop) (e : Ending) (w' : World) : Prop := ∃ x, e = .returned (.int .i64 x) ∧ P x ∧ PB b w.heap.size w w' ∧ Pt w' b
theorem uptoP (b : Nat) (m : Int) (w : World) (hp : Pt w b) (hm : 0 ≤ m ∧ m ≤ 1000) : Calls Try.prog 39 #[.pointer (some ⟨b, 0, none⟩), .int .i64 m] w (PotEnd b w fun x => 0 ≤ x ∧ x ≤ m) := by
  obtain ⟨t, s, hb⟩ := hp
  refine (upto_any b s m w hm.2 (hb.at_ 0 _ rfl) (hb.free 0)).mono ?_
  rintro e w' ⟨rfl, hput⟩
  have h1 := uptoF_in s m hm.2
  have h2 := hput.pb hb
  exact ⟨_, rfl, by omega, h2.1, h2.2⟩
def pick2 (x y u : Int) : Int := if u = 0 then x else y
set_option maxHeartbeats 400000 in
theorem of2_any (b q o : Nat) (s x y : Int) (w : World) (h : w.cell? ⟨b, 0, none⟩ = some (.int .u64 s)) (hf : w.frozen? ⟨b, 0, none⟩ = false) (hbq : b ≠ q)
    (h0 : w.cell? ⟨q, o, none⟩ = some (.int .i64 x)) (h1 : w.cell? ⟨q, o + 1, none⟩ = some (.int .i64 y)) :
    Calls Try.prog 38 #[.pointer (some ⟨b, 0, none⟩), .slice (some ⟨q, o, none⟩) 2 2] w fun e w' => e = .returned (.int .i64 (pick2 x y (uptoF s 1))) ∧ Put w w' b s (uptoS s 1) := by
  have hu := uptoF_in s 1 (by omega)
  have hcase : uptoF s 1 = 0 ∨ uptoF s 1 = 1 := by omega
  rcases hcase with e0 | e0
  · have he : pick2 x y (uptoF s 1) = x := by rw [e0]; rfl
    clear hu
    go_enter Try.func38, Try.ntmps38
    go_wp2_with (go_at_call 39; refine (upto_any _ _ _ _ (by decide) h hf).mono ?_; rintro e w1 ⟨rfl, hp⟩; have g0 := hp.cell hbq h0; have g1 := hp.cell hbq h1)
    go_ret
    exact ⟨by rw [he]; rfl, hp⟩
  · have he : pick2 x y (uptoF s 1) = y := by rw [e0]; rfl
    clear hu
    go_enter Try.func38, Try.ntmps38
    go_wp2_with (go_at_call 39; refine (upto_any _ _ _ _ (by decide) h hf).mono ?_; rintro e w1 ⟨rfl, hp⟩; have g0 := hp.cell hbq h0; have g1 := hp.cell hbq h1)
    go_ret
    exact ⟨by rw [he]; rfl, hp⟩
theorem of2P (b q : Nat) (x y : Int) (t : TypeId) (w : World) (hp : Pt w b) (hbq : b ≠ q) (hq : Bk w q t #[.int .i64 x, .int .i64 y]) : Calls Try.prog 38 #[.pointer (some ⟨b, 0, none⟩), .slice (some ⟨q, 0, none⟩) 2 2] w (PotEnd b w fun v => v = x ∨ v = y) := by
  obtain ⟨tb, s, hb⟩ := hp
  refine (of2_any b q 0 s x y w (hb.at_ 0 _ rfl) (hb.free 0) hbq (hq.at_ 0 _ rfl) (hq.at_ 1 _ rfl)).mono ?_
  rintro e w' ⟨rfl, hput⟩
  have h2 := hput.pb hb
  refine ⟨_, rfl, ?_, h2.1, h2.2⟩
  unfold pick2
  split
  · exact .inl rfl
  · exact .inr rfl
end Go.Proofs.Ytdficjnnlaicpaa
