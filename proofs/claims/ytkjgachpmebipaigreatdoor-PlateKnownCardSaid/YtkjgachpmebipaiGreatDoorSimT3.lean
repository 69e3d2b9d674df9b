import Derived.Test.YtkjgachpmebipaiGreatDoorSimT2
namespace Go.Sim
set_option linter.all false
open Go
variable [Rho] [Asm] [SymOK]

structure Rg (P : Program) (call : Value → List Value → St → Option (Value × St)) (nt : Nat) (ops : Array Oper) (π σ : Nat → Nat) (dl : List DI) (n0 : Nat) (Tf : Nat → Tm) (Hf : Nat → St) (V : Nat → Value) (L : Nat → Option LO) : Prop where
  told : Told dl
  len : dl.length = ops.size
  io : ∀ (i : Nat) (d : DI), dl[i]? = some d → ∃ o, ops[π i]? = some o ∧ compIO P nt ops o = some d.io
  edge : ∀ (i : Nat) (o : Oper) (d : DI), ops[π i]? = some o → dl[i]? = some d → (∀ e ∈ o.after, Region.binds .any e = true → e.on < dl.length ∧ d.m.testBit (σ e.on) = true) ∧ ∀ k, d.m.testBit k = true → ∃ e ∈ o.after, Region.binds .any e = true ∧ (σ e.on = k ∨ ∃ d', dl[σ e.on]? = some d' ∧ d'.m.testBit k = true)
  left : ∀ i, σ (π i) = i
  right : ∀ i, π (σ i) = i
  plt : ∀ i, i < dl.length → π i < dl.length
  plt' : ∀ i, i < dl.length → σ i < dl.length
  run : Run call n0 0 dl Tf Hf V L
  chk : ∀ (i : Nat) (d : DI) (o : ROp), dl[i]? = some d → d.io.op = .r o → wanted (Tf i) d.io.grd = true → ∀ p ∈ d.cs, p ≤ dl.length → evR (Tf i) (Hf p).h o = some (V i)
  lim : n0 + dl.length ≤ limH

theorem compIO_ok {P : Program} {nt : Nat} {ops : Array Oper} {o : Oper} {io : Ins} (h : compIO P nt ops o = some io) : dstOk nt o.dst = true ∧ io.dst = o.dst ∧ compC1 P o = some io.op ∧ compG ops o.guard = some io.grd := by
  unfold compIO at h
  split at h
  · rename_i hd
    simp only [bind, Option.bind_eq_some_iff, Option.some.injEq] at h
    obtain ⟨op', hop, g, hg, rfl⟩ := h
    exact ⟨hd, rfl, hop, hg⟩
  · cases h
theorem compC0_a {P : Program} {o : Oper} {r : AOp} (h : compC1 P o = some (.a r)) : compC0 P o = some (.a r) := by
  rcases compC1_ok h with h | h
  · exact h
  · cases h
theorem compC1_a {P : Program} {o : Oper} {r : AOp} (h : compC1 P o = some (.a r)) : compA P o = some r := by
  have h := compC0_a h
  unfold compC0 at h
  split at h
  · simp only [bind, Option.bind_eq_some_iff, Option.some.injEq] at h
    obtain ⟨_, _, _, _, h⟩ := h
    cases h
  · split at h
    · cases h
    · split at h
      · cases h
      · split at h
        · rename_i ha; cases h; exact ha
        · split at h <;> cases h

section
variable {P : Program} {call : Value → List Value → St → Option (Value × St)} {nt : Nat} {ops : Array Oper} {π σ : Nat → Nat} {dl : List DI} {n0 : Nat} {Tf : Nat → Tm} {Hf : Nat → St} {V : Nat → Value} {L : Nat → Option LO}

theorem Rg.dst (R : Rg P call nt ops π σ dl n0 Tf Hf V L) {i : Nat} {d : DI} (hd : dl[i]? = some d) : dstOk nt d.io.dst = true := by
  obtain ⟨o, _, h⟩ := R.io i d hd
  obtain ⟨h1, h2, _⟩ := compIO_ok h
  rw [h2]; exact h1
theorem Rg.dstT (R : Rg P call nt ops π σ dl n0 Tf Hf V L) {i t : Nat} {d : DI} (hd : dl[i]? = some d) (ht : d.io.dst = some t) : t < limT := by
  have := R.dst hd
  rw [ht] at this
  simp only [dstOk, Bool.and_eq_true] at this
  exact blt_true this.2
theorem Rg.tf (R : Rg P call nt ops π σ dl n0 Tf Hf V L) (t : Nat) : ∀ i, i ≤ dl.length → (∃ (j : Nat) (d : DI), j < i ∧ dl[j]? = some d ∧ d.io.dst = some t ∧ tget (Tf i) t = V j) ∨ ((∀ (j : Nat) (d : DI), j < i → dl[j]? = some d → d.io.dst ≠ some t) ∧ tget (Tf i) t = tget (Tf 0) t) := by
  intro i
  induction i with
  | zero => intro _; exact .inr ⟨fun j d h => by omega, rfl⟩
  | succ i ih =>
    intro hi
    obtain ⟨d, hd⟩ : ∃ d, dl[i]? = some d := ⟨_, List.getElem?_eq_getElem (by omega)⟩
    have hp := R.run.put i d hd
    by_cases ht : d.io.dst = some t
    · left
      refine ⟨i, d, by omega, hd, ht, ?_⟩
      rw [ht] at hp
      simp only at hp
      rw [hp, tget_put (R.dstT hd ht), if_pos rfl]
    · have e : tget (Tf (i + 1)) t = tget (Tf i) t := by
        cases hq : d.io.dst with
        | none => rw [hq] at hp; rw [hp]
        | some t' =>
          rw [hq] at hp
          simp only at hp
          rw [hp, tget_put (R.dstT hd hq), if_neg]
          rintro rfl
          exact ht hq
      rcases ih (by omega) with ⟨j, d', h1, h2, h3, h4⟩ | ⟨h1, h2⟩
      · exact .inl ⟨j, d', by omega, h2, h3, e.trans h4⟩
      · refine .inr ⟨fun j d' hj hd' => ?_, e.trans h2⟩
        by_cases hji : j = i
        · subst hji
          rw [hd] at hd'
          cases hd'
          exact ht
        · exact h1 j d' (by omega) hd'
theorem stepD_lo {b : Nat} {o : Ins} {T : Tm} {s s' : St} {v : Value} {lo : Option LO} (hs : stepD call b o T s = some (v, s', lo)) (h : lo ≠ none) : isA o.op = true := by
  cases hop : o.op with
  | a _ => rfl
  | p op =>
    exfalso; apply h
    unfold stepD at hs
    rw [hop] at hs
    split at hs
    · split at hs <;> cases hs; rfl
    · simp only at hs; split at hs <;> cases hs; rfl
  | r op =>
    exfalso; apply h
    unfold stepD at hs
    rw [hop] at hs
    split at hs
    · split at hs <;> cases hs; rfl
    · simp only at hs; split at hs <;> cases hs; rfl
  | call f xs =>
    exfalso; apply h
    unfold stepD at hs
    rw [hop] at hs
    split at hs
    · split at hs <;> cases hs; rfl
    · simp only at hs; split at hs <;> cases hs; rfl
  | w op =>
    exfalso; apply h
    unfold stepD at hs
    rw [hop] at hs
    split at hs
    · split at hs <;> cases hs; rfl
    · simp only at hs
      have : ∀ {o : Option (Value × St)} {v : Value} {s : St} {lo : Option LO}, (o.bind fun p => pairD p.1 p.2) = some (v, s, lo) → lo = none := by
        intro o v s lo h
        cases o with
        | none => cases h
        | some p => cases h; rfl
      unfold evW evWd at hs
      cases op with
      | st n a x => simp only at hs; rw [w_st_k] at hs; exact this hs
      | mup n ag m k v => simp only at hs; rw [w_mup_k] at hs; exact this hs
      | app n z x y => simp only at hs; rw [w_app_k] at hs; exact this hs
      | cpy n x y => simp only at hs; rw [w_cpy_k] at hs; exact this hs
      | clr z x => simp only at hs; rw [w_clr_k] at hs; exact this hs
      | nxt x => simp only at hs; rw [w_nxt_k] at hs; exact this hs
theorem Rg.lo (R : Rg P call nt ops π σ dl n0 Tf Hf V L) {j : Nat} {d : DI} (hd : dl[j]? = some d) (h : L j ≠ none) : isA d.io.op = true := stepD_lo (R.run.step j d hd) h

theorem ok2_dst {i : Nat} {a b : Ins × Nat} (h : ok2 i a b = true) {t : Nat} (ha : a.1.dst = some t) (hb : b.1.dst = some t) : False := by
  unfold ok2 at h
  simp [apartD, ha, hb] at h
theorem ok2_bit {i : Nat} {a b : Ins × Nat} (h : ok2 i a b = true) (hq : (∃ t, a.1.dst = some t ∧ looks b.1 (some t) = true) ∨ (∃ t, b.1.dst = some t ∧ looks a.1 (some t) = true) ∨ (isC b.1.op = true ∧ (isC a.1.op = true ∨ isA a.1.op = true))) : b.2.testBit i = true := by
  unfold ok2 at h
  split at h
  · cases h
  · split at h
    · assumption
    · exfalso
      rcases hq with ⟨t, h1, h2⟩ | ⟨t, h1, h2⟩ | ⟨h1, h2⟩
      · rw [h1, h2] at h
        split at h
        · rename_i q _ _; cases q
        · rename_i q _ _; cases q
        · cases h
      · rw [h1, h2] at h
        split at h
        · rename_i q _; cases q
        · rename_i q _; cases q
        · cases h
      · rw [h1] at h
        split at h
        · rename_i q; cases q
        · rcases h2 with h2 | h2 <;> simp [h2] at h
        · cases h

/-- Where nothing but new blocks comes between. -/
theorem Rg.between (R : Rg P call nt ops π σ dl n0 Tf Hf V L) {c : Nat} : ∀ i, c ≤ i → i ≤ dl.length → (∀ (k : Nat) (d : DI), c ≤ k → k < i → dl[k]? = some d → isC d.io.op = false) →
    (Hf i).n = (Hf c).n ∧ (Hf i).bs = (Hf c).bs ∧ (Hf i).ws = (Hf c).ws ∧ (∀ j lo, c ≤ j → j < i → L j = some lo → (Hf i).h.get (n0 + j) = some lo) ∧ ∀ b, (∀ j, c ≤ j → j < i → L j ≠ none → b ≠ n0 + j) → (Hf i).h.get b = (Hf c).h.get b := by
  have base : (Hf c).n = (Hf c).n ∧ (Hf c).bs = (Hf c).bs ∧ (Hf c).ws = (Hf c).ws ∧ (∀ j lo, c ≤ j → j < c → L j = some lo → (Hf c).h.get (n0 + j) = some lo) ∧ ∀ b, (∀ j, c ≤ j → j < c → L j ≠ none → b ≠ n0 + j) → (Hf c).h.get b = (Hf c).h.get b :=
    ⟨rfl, rfl, rfl, fun j lo h1 h2 => by omega, fun b _ => rfl⟩
  intro i
  induction i with
  | zero => intro hci _ _; have : c = 0 := by omega
            subst this; exact base
  | succ i ih =>
    intro hci' hi hC
    by_cases heq : c = i + 1
    · subst heq; exact base
    have hci : c ≤ i := by omega
    obtain ⟨q1, q2, q3, q4, q5⟩ := ih hci (by omega) fun k d h1 h2 => hC k d h1 (by omega)
    obtain ⟨d, hd⟩ : ∃ d, dl[i]? = some d := ⟨_, List.getElem?_eq_getElem (by omega)⟩
    have hs := R.run.step i d hd
    rw [Nat.zero_add] at hs
    rcases stepD_still (hC i d hci (by omega) hd) hs with ⟨e1, e2⟩ | ⟨x, e1, e2⟩
    · rw [e1]
      refine ⟨q1, q2, q3, fun j lo h1 h2 h3 => ?_, fun b hb => q5 b fun j h1 h2 => hb j h1 (by omega)⟩
      by_cases hji : j = i
      · subst hji; rw [e2] at h3; cases h3
      · exact q4 j lo h1 (by omega) h3
    · have hl := R.lim
      have hg : ∀ b, (Hf (i + 1)).h.get b = if b = n0 + i then some x else (Hf i).h.get b := fun b => by
        rw [e2]; exact Tr.get_set DH _ _ _ b (lim_le (by omega))
      refine ⟨by rw [e2]; exact q1, by rw [e2]; exact q2, by rw [e2]; exact q3, fun j lo h1 h2 h3 => ?_, fun b hb => ?_⟩
      · rw [hg]
        by_cases hji : j = i
        · subst hji; rw [if_pos rfl, ← e1, h3]
        · rw [if_neg (by omega)]; exact q4 j lo h1 (by omega) h3
      · rw [hg, if_neg (hb i hci (by omega) (by rw [e1]; simp))]
        exact q5 b fun j h1 h2 => hb j h1 (by omega)

theorem lay_blocks (E : Nat → Option LO) (n0 : Nat) (h : Tr LO) : ∀ N, (∀ b, E b ≠ none → n0 ≤ b ∧ b < n0 + N) → n0 + N ≤ limH → ∃ h' : Tr LO, ∀ b, h'.get b = (E b).or (h.get b) := by
  intro N
  induction N generalizing E with
  | zero =>
    intro hE _
    refine ⟨h, fun b => ?_⟩
    cases hq : E b with
    | none => rfl
    | some lo => have := hE b (by rw [hq]; simp); omega
  | succ N ih =>
    intro hE hl
    obtain ⟨h', hh⟩ := ih (fun b => if b = n0 + N then none else E b) (fun b hb => by
      split at hb
      · exact absurd rfl hb
      · have := hE b hb; omega) (by omega)
    cases hq : E (n0 + N) with
    | none =>
      refine ⟨h', fun b => ?_⟩
      rw [hh]
      split
      · rename_i e; rw [e, hq]
      · rfl
    | some lo =>
      refine ⟨Tr.set DH h' (n0 + N) (some lo), fun b => ?_⟩
      rw [Tr.get_set DH h' (n0 + N) (some lo) b (lim_le (by omega))]
      split
      · rename_i e; rw [e, hq]; rfl
      · rename_i e; rw [hh, if_neg e]
end
end Go.Sim
