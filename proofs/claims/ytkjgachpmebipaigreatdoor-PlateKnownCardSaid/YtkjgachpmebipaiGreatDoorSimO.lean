import Derived.Test.YtkjgachpmebipaiGreatDoorSimN
import Derived.Scope
/- Loops, results, ends of calls. -/
namespace Go.Sim
set_option linter.all false
open Go
variable [Rho] [Asm] [SymOK]

/-! ### a loop, round by round -/
def LoopR (F : Fence) (n : Nat) (P : Program) (c : Code) (Q : Exit → Act → World → Prop) (a : Act) (w : World) : Prop :=
  ∀ (b : Frame) (k : List Item) (cs : List Frame), b.roundOf = F.round → F.fn b.fn → F.room (cs.length + 1 + n) →
    ∃ e a' w', Q e a' w' ∧ ArrivesIn (Machine.fenced P F) P (lone (b.atR a (.code c :: .inLoop c :: k)) cs w) b k cs e a' w'
theorem loopR_wp {F : Fence} {n : Nat} {P : Program} {c : Code} {Q : Exit → Act → World → Prop} {a : Act} {w : World} (h : LoopR F n P c Q a w) : (Code.loop c).wpIn F n P Q a w := by
  intro b k cs hro hb hr
  obtain ⟨e, a', w', hq, harr⟩ := h b k cs hro hb hr
  exact ⟨e, a', w', hq, .of_steps (.one (fenced_calm hb hr rfl) stepR_loop) harr⟩
theorem loopR_step {F : Fence} {n : Nat} {P : Program} {c : Code} {Q : Exit → Act → World → Prop} {a : Act} {w : World} (h : c.wpIn F n P (Exit.then (LoopR F n P c Q) Q) a w) : LoopR F n P c Q a w := by
  intro b k cs hro hb hr
  obtain ⟨e, a₁, w₁, hq, harr⟩ := h b (.inLoop c :: k) cs hro hb hr
  cases e with
  | normal =>
    obtain ⟨e₂, a₂, w₂, hq₂, harr₂⟩ := hq b k cs hro hb hr
    exact ⟨e₂, a₂, w₂, hq₂, .of_steps (StepsIn.trans harr (.one (fenced_calm hb hr rfl) stepR_inLoop)) harr₂⟩
  | exit id => exact ⟨_, a₁, w₁, hq, .pass (x := .inLoop c) rfl (fun _ _ => .inl (by simp)) harr⟩
  | goto l => exact ⟨_, a₁, w₁, hq, .pass (x := .inLoop c) rfl (fun _ _ => .inl (by simp)) harr⟩
  | ret => exact ⟨_, a₁, w₁, hq, .pass (x := .inLoop c) rfl (fun _ _ => .inl (by simp)) harr⟩
  | panic ch => exact ⟨_, a₁, w₁, hq, .pass (x := .inLoop c) rfl (fun _ _ => .inl (by simp)) harr⟩
  | outgrown => exact ⟨_, a₁, w₁, hq, .pass (x := .inLoop c) rfl (fun _ _ => .inl (by simp)) harr⟩
theorem wpIn_scope {n : Nat} {P : Program} {c : Code} {Q : Exit → Act → World → Prop} {a : Act} {w : World} (h : c.wpIn Fence.wide n P (Exit.noGoto Q) a w) : (Code.scope c).wpIn Fence.wide n P Q a w :=
  wpIn_wide.2 (wp_scope_straight ((wpIn_wide (n := n)).1 h))

section
variable {P : Program} {ι : Io} {T : Tm} {a : Act} {s : St} {w : World}

/-! ### arguments and results -/
theorem argsT_ok : ∀ {vs vs' pre : List Value} {k : Nat} {T : Tm}, LR ι vs vs' → TR ι T ⟨pre ++ List.replicate k undef⟩ → vs.length ≤ k → pre.length + k ≤ limT → TR ι (argsT T pre.length vs) ⟨pre ++ vs' ++ List.replicate (k - vs.length) undef⟩
  | [], _, pre, k, T, .nil, h, _, _ => by simpa [argsT] using h
  | v :: vs, _, pre, k, T, .cons (v' := v') (l' := vs') hv hl, h, hk, hlim => by
    simp only [List.length_cons] at hk
    obtain ⟨j, rfl⟩ : ∃ j, k = j + 1 := ⟨k - 1, by omega⟩
    have h1 : TR ι (tput T pre.length v) ⟨(pre ++ [v']) ++ List.replicate j undef⟩ := by
      have := h.put (t := pre.length) (v := v) (v' := v') (by omega) (by simp) hv
      simpa [List.replicate_succ] using this
    have h2 := argsT_ok (pre := pre ++ [v']) hl h1 (by omega) (by simp; omega)
    simp only [List.length_append, List.length_cons, List.length_nil, Nat.zero_add] at h2
    have e : j + 1 - (vs.length + 1) = j - vs.length := by omega
    simp only [argsT, List.length_cons, e]
    simpa using h2
theorem tr_e (n : Nat) : TR ι .e ⟨List.replicate n undef⟩ := by
  intro t
  have e : (⟨List.replicate n undef⟩ : Array Value).getD t undef = undef := by
    simp only [Array.getD_eq_getD_getElem?, List.getElem?_toArray, List.getElem?_replicate]
    split <;> rfl
  rw [e, show tget .e t = .tuple ⟨[]⟩ by unfold tget; rw [Tr.get_e]]
  exact undef_ok ι

def resOne (tmps : Array Value) : ResultVar → Sem Value
  | .tmp t => pure (tmps.getD t undef)
  | .cell a t => do loadVar t (← asAddr (tmps.getD a undef))
theorem results_eq (fn : Func) (tmps : Array Value) : results fn tmps = (do let vs ← fn.results.mapM (resOne tmps); pure (if h : vs.size = 1 then vs[0] else .tuple vs)) := by
  unfold results
  congr 1
theorem resV_ok {h : Tr LO} (hW : WR P ι s w) (hs : s.h = h) {tmps : Array Value} (hT : TR ι T tmps) : ∀ {l : List ResultVar} {rs : List IRes} {vs : List Value}, l.mapM (compRes P) = some rs → resV T h rs = some vs →
    ∃ vs', LR ι vs vs' ∧ (l.mapM (resOne tmps)).run P w = .ok vs' w := by
  subst hs
  intro l
  induction l with
  | nil =>
    intro rs vs hc he
    simp at hc
    subst hc
    simp only [resV, Option.some.injEq] at he
    subst he
    exact ⟨[], .nil, by simp⟩
  | cons r l ih =>
    intro rs vs hc he
    simp only [List.mapM_cons, bind, Option.bind] at hc
    cases h1 : compRes P r with
    | none => rw [h1] at hc; cases hc
    | some q =>
      rw [h1] at hc
      simp only at hc
      cases h2 : l.mapM (compRes P) with
      | none => rw [h2] at hc; cases hc
      | some qs =>
        rw [h2] at hc
        cases hc
        simp only [resV] at he
        split at he
        · cases he
        · rename_i v hv
          split at he
          · rename_i vs0 hvs
            cases he
            obtain ⟨vs', h3, h4⟩ := ih h2 hvs
            have key : ∃ v', VR ι v v' ∧ (resOne tmps r).run P w = .ok v' w := by
              cases r with
              | tmp t =>
                simp only [compRes, Option.some.injEq] at h1
                subst h1
                cases hv
                exact ⟨_, hT t, rfl⟩
              | cell t ty =>
                simp only [compRes] at h1
                split at h1
                · rename_i ag n hag hn
                  cases h1
                  have ht := hT t
                  simp only at hv
                  split at hv
                  · rename_i b o e1
                    rw [e1] at ht
                    obtain ⟨r, c, hr, hb⟩ := ht.ptrI
                    have hld : ∀ x, (Instr.loadAt ty (.pointer (some ⟨r, o, none⟩))).run P w = .ok x w → (resOne tmps (.cell t ty)).run P w = .ok x w := by
                      intro x hx
                      simp only [resOne, hr]
                      exact hx
                    split at hv
                    · rename_i cs hcs
                      cases ag with
                      | true =>
                        simp only at hv
                        split at hv
                        · rename_i rr hrr
                          cases hv
                          obtain ⟨v', hvr, hrun⟩ := loadN_ok hW ht hcs hrr hag hn
                          rw [hr] at hrun
                          exact ⟨v', hvr, hld _ hrun⟩
                        · cases hv
                      | false =>
                        simp only at hv
                        obtain ⟨v', hvr, hrun⟩ := load1_ok hW ht hcs hv hag
                        rw [hr] at hrun
                        exact ⟨v', hvr, hld _ hrun⟩
                    · cases hv
                  · cases hv
                · cases h1
            obtain ⟨v', h5, h6⟩ := key
            refine ⟨v' :: vs', .cons h5 h3, ?_⟩
            simp only [List.mapM_cons, Sem.run_bind, h6, Result.andThen_ok]
            rw [h4]
            rfl
          · cases he
theorem outV_ok {vs vs' : List Value} (h : LR ι vs vs') : VR ι (outV vs) (if h : (⟨vs'⟩ : Array Value).size = 1 then (⟨vs'⟩ : Array Value)[0] else .tuple ⟨vs'⟩) := by
  cases h with
  | nil => exact .tup .nil
  | cons hv hl =>
    cases hl with
    | nil => exact hv
    | cons hv2 hl2 => exact .tup (.cons hv (.cons hv2 hl2))
theorem results_ok (hW : WR P ι s w) {tmps : Array Value} (hT : TR ι T tmps) {fn : Func} {rs : List IRes} {vs : List Value} (hc : fn.results.toList.mapM (compRes P) = some rs) (he : resV T s.h rs = some vs) : ∃ v', VR ι (outV vs) v' ∧ (results fn tmps).run P w = .ok v' w := by
  obtain ⟨vs', h1, h2⟩ := resV_ok hW rfl hT hc he
  refine ⟨_, outV_ok h1, ?_⟩
  rw [results_eq]
  simp only [Sem.run_bind, Array.mapM_eq_mapM_toList, Sem.run_map, h2]
  rfl
end
end Go.Sim
