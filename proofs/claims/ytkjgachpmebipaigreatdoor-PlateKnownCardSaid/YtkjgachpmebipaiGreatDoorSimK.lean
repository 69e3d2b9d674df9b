import Derived.Test.YtkjgachpmebipaiGreatDoorSimLib
/- Tables of what is known. -/
namespace Go.Sim
set_option linter.all false
open Go
variable [Rho] [Asm] [SymOK]
noncomputable section

def layF {α : Type} : List (Nat × α) → Tr α
  | [] => .e
  | p :: l => Tr.set DT (layF l) p.1 (some p.2)
section
variable {P : Program}
inductive AllG (P : Program) : List (Nat × List Gen) → Prop
  | nil : AllG P []
  | cons {f : Nat} {gl : List Gen} {l : List (Nat × List Gen)} : GL P gl → Nat.blt f limT = true → AllG P l → AllG P ((f, gl) :: l)
inductive AllCh (P : Program) : List (Nat × List Chg) → Prop
  | nil : AllCh P []
  | cons {f : Nat} {gl : List Chg} {l : List (Nat × List Chg)} : CL P gl → Nat.blt f limT = true → AllCh P l → AllCh P ((f, gl) :: l)
theorem AllG.get : ∀ {l : List (Nat × List Gen)}, AllG P l → ∀ f gl, (layF l).get f = some gl → GL P gl
  | _, .nil, f, fi, h => by rw [show layF ([] : List (Nat × List Gen)) = .e from rfl, Tr.get_e] at h; cases h
  | _, .cons (f := g) (gl := gi) (l := l) h1 h2 h3, f, fi, h => by
    have h2 := blt_true h2
    rw [show layF ((g, gi) :: l) = Tr.set DT (layF l) g (some gi) from rfl, Tr.get_set DT _ _ _ f (by unfold limT at h2; unfold DT; omega)] at h
    split at h
    · cases h; exact h1
    · exact h3.get f fi h
theorem AllCh.get : ∀ {l : List (Nat × List Chg)}, AllCh P l → ∀ f gl, (layF l).get f = some gl → CL P gl
  | _, .nil, f, fi, h => by rw [show layF ([] : List (Nat × List Chg)) = .e from rfl, Tr.get_e] at h; cases h
  | _, .cons (f := g) (gl := gi) (l := l) h1 h2 h3, f, fi, h => by
    have h2 := blt_true h2
    rw [show layF ((g, gi) :: l) = Tr.set DT (layF l) g (some gi) from rfl, Tr.get_set DT _ _ _ f (by unfold limT at h2; unfold DT; omega)] at h
    split at h
    · cases h; exact h1
    · exact h3.get f fi h
inductive AllW (P : Program) : List (Nat × List GenW) → Prop
  | nil : AllW P []
  | cons {f : Nat} {gl : List GenW} {l : List (Nat × List GenW)} : GWL P gl → Nat.blt f limT = true → AllW P l → AllW P ((f, gl) :: l)
theorem AllW.get : ∀ {l : List (Nat × List GenW)}, AllW P l → ∀ f gl, (layF l).get f = some gl → GWL P gl
  | _, .nil, f, fi, h => by rw [show layF ([] : List (Nat × List GenW)) = .e from rfl, Tr.get_e] at h; cases h
  | _, .cons (f := g) (gl := gi) (l := l) h1 h2 h3, f, fi, h => by
    have h2 := blt_true h2
    rw [show layF ((g, gi) :: l) = Tr.set DT (layF l) g (some gi) from rfl, Tr.get_set DT _ _ _ f (by unfold limT at h2; unfold DT; omega)] at h
    split at h
    · cases h; exact h1
    · exact h3.get f fi h
theorem kbOK {K : Kb} {lw : List (Nat × List GenW)} {lg : List (Nat × List Gen)} {lc : List (Nat × List Chg)} (hw : AllW P lw) (hg : AllG P lg) (hc : AllCh P lc) (e0 : K.w = layF lw) (e1 : K.g = layF lg) (e2 : K.c = layF lc) : KbOK P K :=
  ⟨by rw [e0]; exact hw.get, by rw [e1]; exact hg.get, by rw [e2]; exact hc.get⟩
end
end
end Go.Sim
