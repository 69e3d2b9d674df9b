import Derived.Test.YtkjgachpmebipaiGreatDoorSimV
/- A closed call in any world. -/
namespace Go.Sim
set_option linter.all false
open Go
variable [Rho] [Asm] [SymOK]

/-- The memory at the beginning: package-level variables, of which some tables are known. -/
def S1 (h : Tr LO) (n : Nat) : St := ⟨h, n, n, []⟩
def I1 (P : Program) : Io := fun g => match gsize P g with
  | some c => some (g, c)
  | none => none
theorem gsize_lt {P : Program} {g c : Nat} (h : gsize P g = some c) : g < P.globals.size := by
  unfold gsize at h
  split at h
  · rename_i hg; exact (Array.getElem?_eq_some_iff.1 hg).1
  · cases h
theorem I1_inv {P : Program} {b r c : Nat} (h : I1 P b = some (r, c)) : r = b ∧ gsize P b = some c := by
  unfold I1 at h
  split at h
  · rename_i hc; cases h; exact ⟨rfl, hc⟩
  · cases h
/-- The tables of the beginning lie in the world. -/
def Laid1 (P : Program) (h : Tr LO) (w : World) : Prop := ∀ b o, h.get b = some o → ∃ c l cs t f, gsize P b = some c ∧ o = .ro l ∧ w.heap[b]? = some (.cells cs t f) ∧ cs.toList = l
theorem WR.first {P : Program} {h : Tr LO} {n : Nat} {w : World} (hn : P.globals.size = n) (hl : n ≤ limH) (hw : n ≤ w.heap.size) (ht : Laid1 P h w) (he : Rho.B ≤ w.heap.size ∧ ∀ k, P.globals.size ≤ k → k < Rho.B → w.heap[k]? = Rho.W0 k) : WR P (I1 P) (S1 h n) w where
  obj := fun b o hb => by
    obtain ⟨c, l, cs, t, f, h1, rfl, h3, h4⟩ := ht b o hb
    exact ⟨b, c, _, by unfold I1; rw [h1], h3, cs, t, f, rfl, h4⟩
  inj := fun b b' r c c' _ _ h3 h4 => by rw [← (I1_inv h3).1, ← (I1_inv h4).1]
  bound := fun b r c h => by
    obtain ⟨e1, e2⟩ := I1_inv h
    have := gsize_lt e2
    omega
  dom := fun b r h => by
    obtain ⟨r, c⟩ := r
    have := gsize_lt (I1_inv h).2
    show b < n
    omega
  lim := hl
  bsn := Nat.le_refl _
  wsb := fun b h => by cases h
  pin := fun g c hg => by unfold I1; rw [hg]
  env := ⟨fun b r c h => .inl (by obtain ⟨e1, e2⟩ := I1_inv h; have := gsize_lt e2; omega), he.1, he.2⟩

/-- A world in which all that was there before is as it was. -/
structure Kept (w w' : World) : Prop where
  os : w'.os = w.os
  tape : w'.tape = w.tape
  output : w'.output = w.output
  size : w.heap.size ≤ w'.heap.size
  heap : ∀ k, k < w.heap.size → w'.heap[k]? = w.heap[k]?

end Go.Sim
