import Derived.Test.YtkjgachpmebipaiGreatDoorSimZ
/- Known calls that change one block of what they are handed. -/
namespace Go.Sim
set_option linter.all false
open Go
variable [Rho] [Asm] [SymOK]
noncomputable section

structure GenW where
  g : Gen
  i : Nat
  out : LO
def setLO : List LO → Nat → LO → List LO
  | [], _, _ => []
  | o :: l, i, x => match i with
    | 0 => x :: l
    | i + 1 => o :: setLO l i x
theorem setLO_eq : ∀ (l : List LO) (i : Nat) (x : LO), setLO l i x = l.set i x
  | [], i, x => by simp [setLO]
  | o :: l, i, x => by
    cases i with
    | zero => simp [setLO]
    | succ i => simp [setLO, setLO_eq l i x]
/-- The memory behind the call. -/
def GenW.st1 (k : GenW) : St := ⟨layB (setLO k.g.bl k.i k.out) k.g.n k.g.h0, k.g.n + k.g.bl.length, k.g.n + k.g.bl.length, [k.g.n + k.i]⟩
/-- The actual blocks of a known call's. -/
def gbind (k : Gen) (fv : Value) (args : List Value) (s : St) : Option (List Nat) := match fv with
  | .func (.func g) ⟨[]⟩ ⟨[]⟩ => match Nat.beq g k.f with
    | false => none
    | true => match mvL k.n 40 k.args args [] with
      | none => none
      | some bs => match tchk s k.n k.tb with
        | true => match bchk s k.n k.bl bs with
          | true => some bs
          | false => none
        | false => none
  | _ => none
def GWFact (P : Program) (k : GenW) : Prop := (P.globals.size ≤ k.g.n ∧ k.g.n + k.g.bl.length ≤ limH) ∧ ∀ (ι : Io) (w : World) (fv' : Value) (args' : List Value), VR ι (.func (.func k.g.f) ⟨[]⟩ ⟨[]⟩) fv' → LR ι k.g.args args' → WR P ι k.g.st w →
  CallR P fv' args' w fun v' w' => (∀ ι, VR ι k.g.v v') ∧ ∃ r c x, ι (k.g.n + k.i) = some (r, c) ∧ (∀ ι, OR P ι c k.out x) ∧ w'.heap[r]? = some x ∧ w'.os = w.os ∧ w'.tape = w.tape ∧ w'.output = w.output ∧ w.heap.size ≤ w'.heap.size ∧ ∀ j, j < w.heap.size → j ≠ r → w'.heap[j]? = w.heap[j]?
inductive GWL (P : Program) : List GenW → Prop
  | nil : GWL P []
  | cons {k : GenW} {ks : List GenW} : GWFact P k → GWL P ks → GWL P (k :: ks)
def genws (call : Value → List Value → St → Option (Value × St)) : List GenW → Value → List Value → St → Option (Value × St)
  | [], fv, args, s => call fv args s
  | k :: ks, fv, args, s => match gbind k.g fv args s with
    | none => genws call ks fv args s
    | some bs => match nthN bs k.i with
      | none => none
      | some b => s.putK b (some k.out) fun s => some (k.g.v, s)
theorem genws_ok {P : Program} {call : Value → List Value → St → Option (Value × St)} (hc : CallOK P call) : ∀ {ks : List GenW}, GWL P ks → CallOK P (genws call ks)
  | _, .nil => fun fv args s v s1 h => hc fv args s v s1 h
  | _, .cons (k := k) (ks := ks) hf hs => fun fv args s v s1 h => by
    simp only [genws] at h
    split at h
    · exact genws_ok hc hs fv args s v s1 h
    · rename_i bs hbs
      split at h
      · cases h
      · rename_i b hb
        rw [St.putK_eq] at h
        cases h
        intro ι w fv' args' q1 q2 q3
        unfold gbind at hbs
        split at hbs
        · split at hbs
          · cases hbs
          · rename_i hg
            split at hbs
            · cases hbs
            · rename_i bs0 hm
              split at hbs
              · rename_i ht
                split at hbs
                · rename_i hbc
                  cases hbs
                  obtain ⟨⟨hn, hl⟩, hf⟩ := hf
                  obtain ⟨m1, _, m3⟩ := (mv_ok 40).2 _ _ _ _ hm ⟨List.nodup_nil, fun x hx => by cases hx⟩
                  have hcan := q3.canon m1 ht hbc hn hl
                  rw [beqN hg] at q1
                  have q1' : VR (ιc k.g.n bs ι) (.func (.func k.g.f) ⟨[]⟩ ⟨[]⟩) fv' := by
                    cases q1 with
                    | func a b c =>
                      cases b
                      cases c
                      exact .func a .nil .nil
                  refine CallR.mono (hf _ w fv' args' q1' (m3 ι _ q2) hcan) ?_
                  rintro v' w' ⟨hv, r, c, x, hr, hor, hx, ho1, ho2, ho3, hsz, hfr⟩
                  rw [nthN_eq] at hb
                  have hib : ι b = some (r, c) := by
                    unfold ιc at hr
                    have hlt : Nat.blt (k.g.n + k.i) k.g.n = false := by
                      cases hq : Nat.blt (k.g.n + k.i) k.g.n with
                      | false => rfl
                      | true => have := blt_true hq; omega
                    rw [hlt] at hr
                    simp only at hr
                    have e : Nat.sub (k.g.n + k.i) k.g.n = k.i := Nat.add_sub_cancel_left ..
                    rw [e, nthN_eq, hb] at hr
                    exact hr
                  obtain ⟨b1, b2⟩ := bchk_ok hbc
                  have hlive : s.h.get b ≠ none := by
                    have hi : k.i < k.g.bl.length := by rw [← b1]; exact (List.getElem?_eq_some_iff.1 hb).1
                    obtain ⟨b', e1, e2, _⟩ := b2 k.i _ (List.getElem?_eq_getElem hi)
                    rw [hb] at e1
                    cases e1
                    rw [e2]; simp
                  have hrl := q3.bound _ _ _ hib
                  have hp1 := Po.put q3 hlive hib (o := k.out) (hor ι) (upd_set (x := x) hrl)
                  have hk : Kept { w with heap := w.heap.setIfInBounds r x } w' := ⟨ho1, ho2, ho3, by simpa using hsz, fun j hj => by
                    simp only [Array.size_setIfInBounds] at hj
                    by_cases hjr : j = r
                    · subst hjr; rw [hx]; simp [hj]
                    · rw [hfr j hj hjr]; simp [Ne.symm hjr]⟩
                  exact ⟨ι, hv ι, hp1.trans (Po.kept hp1.wr hk)⟩
                · cases hbs
              · cases hbs
        · cases hbs

end
end Go.Sim
