import Derived.Test.YtkjgachpmebipaiGreatDoorSimT1
namespace Go.Sim
set_option linter.all false
open Go
variable [Rho] [Asm] [SymOK]

/-- A region was gone through in its written order. -/
structure Run (call : Value → List Value → St → Option (Value × St)) (n0 k : Nat) (dl : List DI) (Tf : Nat → Tm) (Hf : Nat → St) (V : Nat → Value) (L : Nat → Option LO) : Prop where
  step : ∀ (i : Nat) (d : DI), dl[i]? = some d → stepD call (n0 + (k + i)) d.io (Tf i) (Hf i) = some (V i, Hf (i + 1), L i)
  put : ∀ (i : Nat) (d : DI), dl[i]? = some d → Tf (i + 1) = match d.io.dst with
    | none => Tf i
    | some t => tput (Tf i) t (V i)

theorem evD_ok {call : Value → List Value → St → Option (Value × St)} {n0 : Nat} : ∀ {dl : List DI} {k : Nat} {T T2 : Tm} {s s2 : St} {rs : List DR}, evD call n0 k dl T s = some (rs, T2, s2) →
    ∃ Tf Hf V L, Run call n0 k dl Tf Hf V L ∧ Tf 0 = T ∧ Hf 0 = s ∧ Tf dl.length = T2 ∧ Hf dl.length = s2 ∧ rs.length = dl.length ∧ ∀ (i : Nat) (r : DR), rs[i]? = some r → r.T = Tf i ∧ r.s = Hf i ∧ r.v = V i
  | [], k, T, T2, s, s2, rs, h => by
    simp only [evD, Option.some.injEq, Prod.mk.injEq] at h
    obtain ⟨rfl, rfl, rfl⟩ := h
    exact ⟨fun _ => T, fun _ => s, fun _ => .tuple #[], fun _ => none, ⟨fun i d h => by simp at h, fun i d h => by simp at h⟩, rfl, rfl, rfl, rfl, rfl, fun i r h => by simp at h⟩
  | d :: l, k, T, T2, s, s2, rs, h => by
    simp only [evD] at h
    split at h
    · cases h
    · rename_i v s1 lo h1
      rw [force_eq] at h
      have h2 : ∃ T1, (T1 = match d.io.dst with
          | none => T
          | some t => tput T t v) ∧ (match evD call n0 (k + 1) l T1 s1 with
          | none => none
          | some (rs, T2, s2) => some (⟨T, s, v, lo⟩ :: rs, T2, s2)) = some (rs, T2, s2) := by
        cases hd : d.io.dst with
        | none => rw [hd] at h; exact ⟨T, rfl, h⟩
        | some t => rw [hd] at h; simp only [putD, Tr.setK_eq] at h; exact ⟨_, rfl, h⟩
      obtain ⟨T1, e1, h2⟩ := h2
      split at h2
      · cases h2
      · rename_i rs' T2' s2' h3
        cases h2
        obtain ⟨Tf, Hf, V, L, hr, q1, q2, q3, q4, q5, q6⟩ := evD_ok h3
        refine ⟨fun | 0 => T | i + 1 => Tf i, fun | 0 => s | i + 1 => Hf i, fun | 0 => v | i + 1 => V i, fun | 0 => lo | i + 1 => L i, ⟨?_, ?_⟩, rfl, rfl, q3, q4, by simp [q5], ?_⟩
        · intro i d' hi
          cases i with
          | zero =>
            simp at hi
            subst hi
            show stepD call (n0 + (k + 0)) d.io T s = some (v, Hf 0, lo)
            rw [q2]
            exact h1
          | succ i =>
            have := hr.step i d' (by simpa using hi)
            rw [show k + 1 + i = k + (i + 1) by omega] at this
            exact this
        · intro i d' hi
          cases i with
          | zero =>
            simp at hi
            subst hi
            show Tf 0 = _
            rw [q1]
            exact e1
          | succ i => exact hr.put i d' (by simpa using hi)
        · intro i r hi
          cases i with
          | zero => simp at hi; subst hi; exact ⟨rfl, rfl, rfl⟩
          | succ i => exact q6 i r (by simpa using hi)

theorem hAt_ok {h2 : Tr LO} {N : Nat} {Hf : Nat → St} (h : (Hf N).h = h2) : ∀ {rs : List DR} {k : Nat}, k + rs.length = N → (∀ (i : Nat) (r : DR), rs[i]? = some r → r.s = Hf (k + i)) → ∀ p, k + p ≤ N → hAt h2 rs p = (Hf (k + p)).h
  | [], k, hk, _, p, hp => by
    have : k + p = N := by simp at hk; omega
    simp only [hAt]
    rw [this, h]
  | r :: rs, k, hk, hr, p, hp => by
    cases p with
    | zero => simp only [hAt]; rw [hr 0 r (by simp)]
    | succ p =>
      simp only [hAt]
      have := hAt_ok h (rs := rs) (k := k + 1) (by simp at hk; omega) (fun i r' hi => by
        have := hr (i + 1) r' (by simpa using hi)
        rw [this]; congr 1; omega) p (by omega)
      rw [this]
      congr 2
      omega
theorem chk_ok {h2 : Tr LO} {all : List DR} {T : Tm} {o : ROp} {v : Value} : ∀ {ps : List Nat}, chk h2 all T o v ps = true → ∀ p ∈ ps, evR T (hAt h2 all p) o = some v
  | [], _, p, hp => by cases hp
  | q :: ps, h, p, hp => by
    simp only [chk] at h
    split at h
    · cases h
    · rename_i v' hv
      split at h
      · rename_i he
        rcases List.mem_cons.1 hp with rfl | hp
        · rw [hv, veq_ok _ _ _ he]
        · exact chk_ok h p hp
      · cases h
theorem recheck_ok {h2 : Tr LO} {all : List DR} : ∀ {dl : List DI} {rs : List DR}, recheck h2 all dl rs = true → ∀ (i : Nat) (d : DI) (r : DR) (o : ROp), dl[i]? = some d → rs[i]? = some r → d.io.op = .r o → wanted r.T d.io.grd = true → ∀ p ∈ d.cs, evR r.T (hAt h2 all p) o = some r.v
  | [], _, _, i, d, r, o, hd, _, _, _, _, _ => by simp at hd
  | _ :: _, [], _, i, d, r, o, _, hr, _, _, _, _ => by simp at hr
  | d0 :: l, r0 :: rs, h, i, d, r, o, hd, hr, ho, hw, p, hp => by
    simp only [recheck] at h
    split at h
    · rename_i h1
      cases i with
      | zero =>
        simp at hd hr
        subst hd
        subst hr
        rw [ho, hw] at h1
        exact chk_ok h1 p hp
      | succ i => exact recheck_ok h i d r o (by simpa using hd) (by simpa using hr) ho hw p hp
    · cases h
theorem lenD_ok : ∀ (l : List DI), lenD l = l.length
  | [] => rfl
  | _ :: l => by simp [lenD, lenD_ok l]

theorem stepD_still {call : Value → List Value → St → Option (Value × St)} {b : Nat} {o : Ins} {T : Tm} {s s' : St} {v : Value} {lo : Option LO} (hc : isC o.op = false) (h : stepD call b o T s = some (v, s', lo)) :
    (s' = s ∧ lo = none) ∨ ∃ x, lo = some x ∧ s' = ⟨Tr.set DH s.h b (some x), s.n, s.bs, s.ws⟩ := by
  unfold stepD at h
  split at h
  · split at h
    · cases h; exact .inl ⟨rfl, rfl⟩
    · cases h
  · split at h
    · split at h
      · cases h; exact .inl ⟨rfl, rfl⟩
      · cases h
    · split at h
      · cases h; exact .inl ⟨rfl, rfl⟩
      · cases h
    · split at h
      · rw [Tr.setK_eq] at h; cases h; exact .inr ⟨_, rfl, rfl⟩
      · cases h
    · rename_i ho; rw [ho] at hc; cases hc
    · rename_i ho; rw [ho] at hc; cases hc
end Go.Sim
