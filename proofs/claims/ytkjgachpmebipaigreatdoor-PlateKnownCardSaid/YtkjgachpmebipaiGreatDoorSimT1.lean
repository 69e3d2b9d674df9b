import Derived.Test.YtkjgachpmebipaiGreatDoorSimT0
namespace Go.Sim
set_option linter.all false
open Go
variable [Rho] [Asm] [SymOK]

section
variable {P : Program} {ι ι' ι'' : Io} {s s' s'' S S' : St} {w w' w'' : World}
/-- Two states of the reckoner that hold the same. -/
structure Like (s s' : St) : Prop where
  get : ∀ b, s'.h.get b = s.h.get b
  n : s'.n = s.n
  bs : s'.bs = s.bs
  ws : s'.ws = s.ws
theorem WR.like (h : WR P ι s w) (e : Like s s') : WR P ι s' w where
  obj := fun b o hb => h.obj b o (by rw [← e.get]; exact hb)
  inj := fun b b' r c c' h1 h2 => h.inj b b' r c c' (by rw [← e.get]; exact h1) (by rw [← e.get]; exact h2)
  bound := h.bound
  dom := fun b r hb => by rw [e.n]; exact h.dom b r hb
  lim := by rw [e.n]; exact h.lim
  bsn := by rw [e.n, e.bs]; exact h.bsn
  wsb := fun b hb => by rw [e.ws] at hb; rw [e.bs]; exact h.wsb b hb
  pin := h.pin
  env := h.env
theorem Po.like (h : Po P ι s w ι' s' w') (e : Like s' s'') : Po P ι s w ι' s'' w' where
  wr0 := h.wr0
  ext := h.ext
  wr := h.wr.like e
  os := h.os
  tape := h.tape
  output := h.output
  size := h.size
  frame := fun k hk hh => h.frame k hk fun b c hb => by have := hh b c hb; rwa [e.ws] at this
  newold := fun b r c h1 h2 h3 => by rw [e.ws]; exact h.newold b r c h1 h2 h3
  newid := h.newid
  inv := fun b hb hw => by rw [e.get]; exact h.inv b hb (by rw [← e.ws]; exact hw)
  dead := fun b hb hg => by rw [e.get]; exact h.dead b hb hg
  bs := e.bs.trans h.bs
  nle := by rw [e.n]; exact h.nle
  wsm := fun b hb => by rw [e.ws]; exact h.wsm b hb
/-- Less is held. -/
theorem WR.less (h : WR P ι S w) (hg : ∀ b o, s.h.get b = some o → S.h.get b = some o) (hn : s.n = S.n) (hbs : s.bs = S.bs) (hws : s.ws = S.ws) : WR P ι s w where
  obj := fun b o hb => h.obj b o (hg b o hb)
  inj := fun b b' r c c' h1 h2 => by
    refine h.inj b b' r c c' ?_ ?_
    · cases hq : s.h.get b with
      | none => exact absurd hq h1
      | some o => rw [hg b o hq]; simp
    · cases hq : s.h.get b' with
      | none => exact absurd hq h2
      | some o => rw [hg b' o hq]; simp
  bound := h.bound
  dom := fun b r hb => by rw [hn]; exact h.dom b r hb
  lim := by rw [hn]; exact h.lim
  bsn := by rw [hn, hbs]; exact h.bsn
  wsb := fun b hb => by rw [hws] at hb; rw [hbs]; exact h.wsb b hb
  pin := h.pin
  env := h.env

/-- Some numbers are kept free. -/
theorem Po.keep (h : WR P ι s w) {n : Nat} (hn : s.n ≤ n) (hl : n ≤ limH) : Po P ι s w ι ⟨s.h, n, s.bs, s.ws⟩ w :=
  ⟨h, .refl _, ⟨h.obj, h.inj, h.bound, fun b r hb => Nat.lt_of_lt_of_le (h.dom b r hb) hn, hl, Nat.le_trans h.bsn hn, h.wsb, h.pin, h.env⟩, rfl, rfl, rfl, Nat.le_refl _, fun _ _ _ => rfl, fun b r c h1 h2 => (by rw [h1] at h2; cases h2), fun b r h1 h2 => (by rw [h1] at h2; cases h2), fun _ _ _ => rfl, fun _ _ h => h, rfl, hn, fun _ h => h⟩

/-- A new block under a number that was kept free. -/
theorem Po.newAt (hp : Po P ι s w ι' s' w') {b c : Nat} {o : LO} {x : Obj} (h1 : s.n ≤ b) (h2 : b < s'.n) (h3 : ι' b = none) (ho : ∀ ι'', Ext ι' ι'' → OR P ι'' c o x) :
    ∃ ι'', ι'' b = some (w'.heap.size, c) ∧ Ext ι' ι'' ∧ (∀ j, j ≠ b → ι'' j = ι' j) ∧ Po P ι s w ι'' ⟨Tr.set DH s'.h b (some o), s'.n, s'.bs, s'.ws⟩ { w' with heap := w'.heap.push x } := by
  have hW := hp.wr
  let ι2 : Io := fun j => if j = b then some (w'.heap.size, c) else ι' j
  have hext : Ext ι' ι2 := fun j r h => by
    show (if j = b then _ else ι' j) = _
    rw [if_neg]
    · exact h
    · rintro rfl; rw [h3] at h; cases h
  have hι : ∀ j r, ι2 j = some r → (j = b ∧ r = (w'.heap.size, c)) ∨ (j ≠ b ∧ ι' j = some r) := fun j r h => by
    have h' : (if j = b then some (w'.heap.size, c) else ι' j) = some r := h
    split at h'
    · rename_i e; cases h'; exact .inl ⟨e, rfl⟩
    · rename_i e; exact .inr ⟨e, h'⟩
  have hg : ∀ j, (Tr.set DH s'.h b (some o)).get j = if j = b then some o else s'.h.get j := fun j => Tr.get_set DH s'.h b (some o) j (lim_le (by have := hW.lim; omega))
  have hpush : ∀ k, k < w'.heap.size → (w'.heap.push x)[k]? = w'.heap[k]? := fun k hk => by
    rw [Array.getElem?_push, if_neg (by omega)]
  have hbs := hp.wr0.bsn
  refine ⟨ι2, by simp [ι2], hext, fun j hj => by simp [ι2, hj], hp.wr0, hp.ext.trans hext, ⟨?_, ?_, ?_, ?_, hW.lim, hW.bsn, hW.wsb, hW.pin.mono hext, hW.env.mono (fun b r c h => (hι b _ h).elim (fun e => .inr (by have := hW.env.top; cases e.2; exact this)) fun e => .inl ⟨b, c, e.2⟩) (by simp) fun k hk _ => hpush k hk⟩, hp.os, hp.tape, hp.output, ?_, ?_, ?_, ?_, ?_, ?_, hp.bs, hp.nle, hp.wsm⟩
  · intro j oj hj
    rw [hg] at hj
    split at hj
    · rename_i e
      subst e
      cases hj
      exact ⟨w'.heap.size, c, x, by simp [ι2], by simp, ho ι2 hext⟩
    · rename_i e
      obtain ⟨r', c', x', q1, q2, q3⟩ := hW.obj j oj hj
      exact ⟨r', c', x', hext _ _ q1, (hpush r' (hW.bound _ _ _ q1)).trans q2, q3.mono hext⟩
  · intro j j' r c1 c2 q1 q2 q3 q4
    rw [hg] at q1 q2
    rcases hι _ _ q3 with ⟨e1, e2⟩ | ⟨e1, e2⟩ <;> rcases hι _ _ q4 with ⟨e3, e4⟩ | ⟨e3, e4⟩
    · rw [e1, e3]
    · have := hW.bound _ _ _ e4
      cases e2
      omega
    · have := hW.bound _ _ _ e2
      cases e4
      omega
    · rw [if_neg e1] at q1
      rw [if_neg e3] at q2
      exact hW.inj j j' r c1 c2 q1 q2 e2 e4
  · intro j r c' h
    rcases hι _ _ h with ⟨e1, e2⟩ | ⟨e1, e2⟩
    · cases e2; simp
    · have := hW.bound _ _ _ e2; simp; omega
  · intro j r h
    rcases hι _ _ h with ⟨e1, e2⟩ | ⟨e1, e2⟩
    · rw [e1]; exact h2
    · exact hW.dom _ _ e2
  · have := hp.size; simp; omega
  · intro k hk hh
    have hk' : k < w'.heap.size := Nat.lt_of_lt_of_le hk hp.size
    exact (hpush k hk').trans (hp.frame k hk hh)
  · intro j r c' q1 q2 q3
    rcases hι _ _ q2 with ⟨e1, e2⟩ | ⟨e1, e2⟩
    · cases e2
      have := hp.size
      omega
    · exact hp.newold j r c' q1 e2 q3
  · intro j r q1 q2
    rcases hι _ _ q2 with ⟨e1, e2⟩ | ⟨e1, e2⟩
    · rw [e1]; exact h1
    · exact hp.newid j r q1 e2
  · intro j hj hw
    show (Tr.set DH s'.h b (some o)).get j = _
    rw [hg, if_neg (by omega)]
    exact hp.inv j hj hw
  · intro j hj e
    show (Tr.set DH s'.h b (some o)).get j = _
    rw [hg, if_neg (by omega)]
    exact hp.dead j hj e

/-- More blocks lie about that are not touched. -/
theorem Po.more (hp : Po P ι s w ι' s' w') (E : Nat → Option LO) (hS : WR P ι S w) (g : ∀ b, S.h.get b = (E b).or (s.h.get b)) (g' : ∀ b, S'.h.get b = (E b).or (s'.h.get b))
    (he : ∀ b, E b ≠ none → s.h.get b = none) (n : S.n = s.n) (n' : S'.n = s'.n) (bs : S.bs = s.bs) (bs' : S'.bs = s'.bs) (ws : S.ws = s.ws) (ws' : S'.ws = s'.ws) : Po P ι S w ι' S' w' := by
  have up : ∀ b, s.h.get b ≠ none → S.h.get b ≠ none := fun b h => by
    rw [g]
    cases hE : E b with
    | none => simpa using h
    | some lo => simp
  have alive : ∀ b lo, E b = some lo → ∃ r c x, ι b = some (r, c) ∧ w.heap[r]? = some x ∧ OR P ι c lo x ∧ (∀ b' c', ι b' = some (r, c') → s.h.get b' = none) := fun b lo hE => by
    obtain ⟨r, c, x, q1, q2, q3⟩ := hS.obj b lo (by rw [g, hE]; rfl)
    refine ⟨r, c, x, q1, q2, q3, fun b' c' hb' => ?_⟩
    cases hq : s.h.get b' with
    | none => rfl
    | some o =>
      have e := hS.inj b b' r c c' (by rw [g, hE]; simp) (up b' (by rw [hq]; simp)) q1 hb'
      subst e
      rw [he b (by rw [hE]; simp)] at hq
      cases hq
  have live' : ∀ b, S'.h.get b ≠ none → E b = none → s'.h.get b ≠ none := fun b h hE => by rw [g', hE] at h; simpa using h
  have apart : ∀ b b' lo r c c', E b = some lo → ι' b = some (r, c) → ι' b' = some (r, c') → s'.h.get b' ≠ none → False := fun b b' lo r c c' hE q1 q2 q3 => by
    obtain ⟨r0, c0, x, p1, p2, p3, p4⟩ := alive b lo hE
    have e := hp.ext _ _ p1
    rw [q1] at e
    cases e
    cases hi : ι b' with
    | none =>
      obtain ⟨b0, c1, e1, l1, _⟩ := hp.newold b' r c' hi q2 (hS.bound _ _ _ p1)
      exact l1 (p4 b0 c1 e1)
    | some y =>
      have e := hp.ext _ _ hi
      rw [q2] at e
      cases e
      exact q3 (hp.dead b' (hp.wr0.dom _ _ hi) (p4 b' c' hi))
  refine ⟨hS, hp.ext, ⟨?_, ?_, hp.wr.bound, ?_, ?_, ?_, ?_, hp.wr.pin, hp.wr.env⟩, hp.os, hp.tape, hp.output, hp.size, ?_, ?_, ?_, ?_, ?_, ?_, ?_, ?_⟩
  · intro b o hb'
    cases hE : E b with
    | none =>
      rw [g', hE] at hb'
      exact hp.wr.obj b o (by simpa using hb')
    | some lo =>
      rw [g', hE] at hb'
      cases hb'
      obtain ⟨r, c, x, p1, p2, p3, p4⟩ := alive b _ hE
      refine ⟨r, c, x, hp.ext _ _ p1, ?_, p3.mono hp.ext⟩
      rw [hp.frame r (hS.bound _ _ _ p1) fun b' c' hb' => .inl (p4 b' c' hb')]
      exact p2
  · intro b b' r c c' q1 q2 q3 q4
    cases hE : E b with
    | none =>
      cases hE' : E b' with
      | none => exact hp.wr.inj b b' r c c' (live' b q1 hE) (live' b' q2 hE') q3 q4
      | some lo' => exact (apart b' b lo' r c' c hE' q4 q3 (live' b q1 hE)).elim
    | some lo =>
      cases hE' : E b' with
      | none => exact (apart b b' lo r c c' hE q3 q4 (live' b' q2 hE')).elim
      | some lo' =>
        obtain ⟨r1, c1, x1, p1, _⟩ := alive b lo hE
        obtain ⟨r2, c2, x2, p2, _⟩ := alive b' lo' hE'
        have e1 := hp.ext _ _ p1
        have e2 := hp.ext _ _ p2
        rw [q3] at e1
        rw [q4] at e2
        cases e1
        cases e2
        exact hS.inj b b' r c c' (by rw [g, hE]; simp) (by rw [g, hE']; simp) p1 p2
  · intro b r h; rw [n']; exact hp.wr.dom b r h
  · rw [n']; exact hp.wr.lim
  · rw [n', bs']; exact hp.wr.bsn
  · intro b h; rw [ws'] at h; rw [bs']; exact hp.wr.wsb b h
  · intro k hk hh
    refine hp.frame k hk fun b c h => ?_
    rcases hh b c h with e | ⟨e1, e2⟩
    · left
      cases hq : s.h.get b with
      | none => rfl
      | some o => exact absurd e (up b (by rw [hq]; simp))
    · right
      rw [bs] at e1
      rw [ws'] at e2
      exact ⟨e1, e2⟩
  · intro b r c q1 q2 q3
    obtain ⟨b0, c0, e1, e2, e3⟩ := hp.newold b r c q1 q2 q3
    exact ⟨b0, c0, e1, up b0 e2, by rw [bs, ws']; exact e3⟩
  · intro b r q1 q2; rw [n]; exact hp.newid b r q1 q2
  · intro b h1 h2
    rw [g', g]
    cases hE : E b with
    | some lo => rfl
    | none =>
      simp only [Option.none_or]
      exact hp.inv b (by rw [← bs]; exact h1) (by rw [← ws']; exact h2)
  · intro b h1 h2
    rw [g] at h2
    rw [g']
    cases hE : E b with
    | some lo => rw [hE] at h2; cases h2
    | none =>
      rw [hE] at h2
      simp only [Option.none_or] at h2 ⊢
      exact hp.dead b (by rw [← n]; exact h1) h2
  · rw [bs', bs]; exact hp.bs
  · rw [n, n']; exact hp.nle
  · intro b h; rw [ws] at h; rw [ws']; exact hp.wsm b h
end
end Go.Sim
