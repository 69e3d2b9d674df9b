import Derived.Test.YtkjgachpmebipaiGreatDoorSimC
import Derived.Laws.Rows
import Derived.IntWalk
/- The reckoner's relation to the machine's world, and its plain operations. -/
namespace Go.Sim
set_option linter.all false
open Go
variable [Rho] [Asm] [SymOK]

theorem konst_refl {ι : Io} : ∀ (d : Nat) (v : Value), konst d v = true → VR ι v v := by
  intro d
  induction d with
  | zero => intro v h; simp [konst] at h
  | succ d ih =>
    have hl : ∀ l : List Value, l.all (konst d) = true → LR ι l l := by
      intro l
      induction l with
      | nil => intro _; exact .nil
      | cons v l ihl => intro h; simp only [List.all_cons, Bool.and_eq_true] at h; exact .cons (ih v h.1) (ihl h.2)
    intro v h
    cases v with
    | bool b => exact .bool b
    | int k n => exact .int k n
    | float k n => exact .float k n
    | complex => simp [konst] at h
    | string s => exact .str s
    | pointer a => cases a with
      | none => exact .ptr0
      | some a => simp [konst] at h
    | slice a n k => cases a with
      | none => exact .sl0 n k (by simpa [konst, Nat.blt_eq] using h)
      | some a => simp [konst] at h
    | map r => cases r with
      | none => exact .map0
      | some r => simp [konst] at h
    | chan r => simp [konst] at h
    | func fn xs ys =>
      obtain ⟨xs⟩ := xs
      obtain ⟨ys⟩ := ys
      cases fn <;> first
        | (simp [konst] at h; done)
        | (have h' : (xs.all (konst d) && ys.all (konst d)) = true := h
           simp only [Bool.and_eq_true] at h'
           exact .func (fun _ e => by cases e) (hl _ h'.1) (hl _ h'.2))
    | nilFunc => exact .nilf
    | iface t v => exact .iface t (ih v h)
    | nilIface => exact .nili
    | agg cs => obtain ⟨l⟩ := cs; exact .agg (hl l h)
    | tuple cs => obtain ⟨l⟩ := cs; exact .tup (hl l h)

def TR (ι : Io) (T : Tm) (tmps : Array Value) : Prop := ∀ t, VR ι (tget T t) (tmps.getD t undef)
theorem TR.mono {ι ι' : Io} (h : Ext ι ι') {T : Tm} {tmps : Array Value} (hT : TR ι T tmps) : TR ι' T tmps := fun t => (hT t).mono h

/-! ### lists -/
section
variable {ι : Io}
theorem LR.length : ∀ {l l' : List Value}, LR ι l l' → l.length = l'.length
  | _, _, .nil => rfl
  | _, _, .cons _ h => by simp [h.length]
theorem len_eq : ∀ l : List Value, len l = l.length
  | [] => rfl
  | _ :: l => by simp [len, len_eq l]
theorem app_eq : ∀ l m : List Value, app l m = l ++ m
  | [], _ => rfl
  | v :: l, m => by simp [app, app_eq l m]
theorem LR.append : ∀ {l l' m m' : List Value}, LR ι l l' → LR ι m m' → LR ι (l ++ m) (l' ++ m')
  | _, _, _, _, .nil, h => h
  | _, _, _, _, .cons hv hl, h => .cons hv (hl.append h)
theorem LR.nth {l' tl : List Value} : ∀ {l : List Value} {i : Nat} {v : Value}, LR ι l l' → nth l i = some v → ∃ v', (l' ++ tl)[i]? = some v' ∧ VR ι v v' := by
  intro l
  induction l generalizing l' with
  | nil => intro i v h e; simp [Sim.nth] at e
  | cons x l ih =>
    intro i v h e
    cases h with
    | cons hv hl =>
      cases i with
      | zero => simp only [Sim.nth, Option.some.injEq] at e; subst e; exact ⟨_, rfl, hv⟩
      | succ i => simp only [Sim.nth] at e; simpa using ih hl e
theorem LR.sub {tl : List Value} : ∀ {l l' : List Value} {off n : Nat} {r : List Value}, LR ι l l' → sub l off n = some r →
    ∃ r', LR ι r r' ∧ r'.length = n ∧ ((l' ++ tl).drop off).take n = r' ∧ off + n ≤ l'.length := by
  intro l l' off
  induction off generalizing l l' with
  | zero =>
    intro n
    induction n generalizing l l' with
    | zero => intro r h e; simp [Sim.sub] at e; subst e; exact ⟨[], .nil, rfl, by simp, by simp⟩
    | succ n ih =>
      intro r h e
      cases h with
      | nil => simp [Sim.sub] at e
      | cons hv hl =>
        rename_i v v' l l'
        simp only [Sim.sub] at e
        cases e1 : Sim.sub l 0 n with
        | none => rw [e1] at e; cases e
        | some r0 =>
          rw [e1] at e
          cases e
          obtain ⟨r', h1, h2, h3, h4⟩ := ih hl e1
          exact ⟨v' :: r', .cons hv h1, by simp [h2], by simpa using h3, by simp; omega⟩
  | succ off ih =>
    intro n r h e
    cases h with
    | nil => simp [Sim.sub] at e
    | cons hv hl =>
      simp only [Sim.sub] at e
      obtain ⟨r', h1, h2, h3, h4⟩ := ih hl e
      exact ⟨r', h1, h2, by simpa using h3, by simp; omega⟩
/-- Laying values over a list, on both sides. -/
theorem LR.over {tl : List Value} : ∀ {l l' : List Value} {off : Nat} {xs xs' r : List Value}, LR ι l l' → LR ι xs xs' → over l off xs = some r →
    off + xs'.length ≤ l'.length ∧ ∃ r', LR ι r r' ∧ r'.length = l'.length ∧ (l' ++ tl).take off ++ xs' ++ (l' ++ tl).drop (off + xs'.length) = r' ++ tl := by
  intro l l' off
  induction off generalizing l l' with
  | zero =>
    intro xs
    induction xs generalizing l l' with
    | nil =>
      intro xs' r h hx e
      cases hx
      simp only [Sim.over, Option.some.injEq] at e
      subst e
      exact ⟨by simp, l', h, rfl, by simp⟩
    | cons x xs ih =>
      intro xs' r h hx e
      cases hx with
      | cons hx0 hx =>
        rename_i x' xs'
        cases h with
        | nil => simp [Sim.over] at e
        | cons hv hl =>
          rename_i v v' l l'
          simp only [Sim.over] at e
          cases e1 : Sim.over l 0 xs with
          | none => rw [e1] at e; cases e
          | some r0 =>
            rw [e1] at e
            cases e
            obtain ⟨h0, r', h1, h2, h3⟩ := ih hl hx e1
            refine ⟨by simp at h0 ⊢; omega, x' :: r', .cons hx0 h1, by simp [h2], ?_⟩
            simpa using h3
  | succ off ih =>
    intro xs xs' r h hx e
    cases h with
    | nil => simp [Sim.over] at e
    | cons hv hl =>
      rename_i v v' l l'
      simp only [Sim.over] at e
      cases e1 : Sim.over l off xs with
      | none => rw [e1] at e; cases e
      | some r0 =>
        rw [e1] at e
        cases e
        obtain ⟨h0, r', h1, h2, h3⟩ := ih hl hx e1
        refine ⟨by simp; omega, v' :: r', .cons hv h1, by simp [h2], ?_⟩
        have : off + 1 + xs'.length = off + xs'.length + 1 := by omega
        rw [this]
        simpa using h3
theorem VR.one {v v' : Value} (h : VR ι v v') : one v = Value.oneCell' v' := by
  cases h <;> first
    | rfl
    | (rename_i hs; cases v' <;> first | rfl | cases hs)
theorem LR.ones : ∀ {l l' : List Value}, LR ι l l' → Sim.ones l = true → l'.all (·.oneCell') = true
  | _, _, .nil, _ => rfl
  | _, _, .cons hv hl, h => by
    rename_i v v' l l'
    simp only [Sim.ones] at h
    cases h1 : one v with
    | false => rw [h1] at h; cases h
    | true =>
      rw [h1] at h
      simp only [List.all_cons, Bool.and_eq_true]
      exact ⟨by rw [← hv.one]; exact h1, hl.ones h⟩
theorem VR.cells {v v' : Value} (h : VR ι v v') : LR ι (cellsOf v) v'.cells.toList := by
  cases h <;> first
    | (rename_i hs; cases v' <;> first
        | (cases hs; done)
        | (refine .cons ?_ .nil; exact .unk hs)
        | (refine .cons ?_ .nil; exact .opq ‹_› hs))
    | assumption
    | (refine .cons ?_ .nil; constructor <;> assumption)
    | (refine .cons ?_ .nil; constructor)
end
end Go.Sim
