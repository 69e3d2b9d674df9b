import Derived.Test.YtkjgachpmebipaiGreatDoorSimQ
/- Tables of code. -/
namespace Go.Sim
set_option linter.all false
open Go
variable [Rho] [Asm] [SymOK]

noncomputable def layT : List (Nat × FI) → Tr FI
  | [] => .e
  | p :: l => Tr.set DT (layT l) p.1 (some p.2)
inductive AllC (P : Program) : List (Nat × FI) → Prop
  | nil : AllC P []
  | cons {f : Nat} {fi : FI} {l : List (Nat × FI)} : compF P f = some fi → Nat.blt f limT = true → AllC P l → AllC P ((f, fi) :: l)
theorem AllC.get {P : Program} : ∀ {l : List (Nat × FI)}, AllC P l → ∀ f fi, (layT l).get f = some fi → compF P f = some fi
  | _, .nil, f, fi, h => by rw [show layT [] = .e from rfl, Tr.get_e] at h; cases h
  | _, .cons (f := g) (fi := gi) (l := l) h1 h2 h3, f, fi, h => by
    have h2 := blt_true h2
    rw [show layT ((g, gi) :: l) = Tr.set DT (layT l) g (some gi) from rfl, Tr.get_set DT _ _ _ f (by unfold limT at h2; unfold DT; omega)] at h
    split at h
    · rename_i e; subst e; rw [h1]; exact h
    · exact h3.get f fi h
theorem tabOK {P : Program} {l : List (Nat × FI)} {tab : Tr FI} (h : AllC P l) (e : tab = layT l) : TabOK P tab := by
  subst e
  exact h.get
end Go.Sim
