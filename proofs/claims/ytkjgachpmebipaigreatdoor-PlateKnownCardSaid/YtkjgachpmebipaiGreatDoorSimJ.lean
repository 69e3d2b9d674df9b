import Derived.Test.YtkjgachpmebipaiGreatDoorSimI
/- Operations that write. -/
namespace Go.Sim
set_option linter.all false
open Go
variable [Rho] [Asm] [SymOK]

section
variable {P : Program} {ι : Io} {T : Tm} {a : Act} {s : St} {w w' : World}

/-- A world that differs in what has been drawn. -/
theorem Po.draw (hW : WR P ι s w) (n : Nat) : Po P ι s w ι s { w with drawn := n } :=
  ⟨hW, .refl _, ⟨hW.obj, hW.inj, hW.bound, hW.dom, hW.lim, hW.bsn, hW.wsb, hW.pin, ⟨hW.env.low, hW.env.top, hW.env.old⟩⟩, rfl, rfl, rfl, Nat.le_refl _, fun _ _ _ => rfl, fun b r c h1 h2 => (by rw [h1] at h2; cases h2), fun b r h1 h2 => (by rw [h1] at h2; cases h2), fun _ _ _ => rfl, fun _ _ h => h, rfl, Nat.le_refl _, fun _ h => h⟩

/-- A block is laid down on the reckoner's side alone, and goes on under a new number. -/
theorem Po.move (hW : WR P ι s w) {b r c : Nat} {o : LO} {x : Obj} (hl : s.h.get b ≠ none) (hb : ι b = some (r, c)) (hn : s.n < limH) (ho : ∀ ι', Ext ι ι' → OR P ι' c o x) (hu : Upd w w' r x) :
    ∃ ι', ι' s.n = some (r, c) ∧ Po P ι s w ι' ((s.put b none).new o) w' := by
  have hbn := hW.dom b _ hb
  have hfresh : ι s.n = none := by
    cases h : ι s.n with
    | none => rfl
    | some r => exact absurd (hW.dom _ _ h) (Nat.lt_irrefl _)
  let ι' : Io := fun j => if j = s.n then some (r, c) else ι j
  have hext : Ext ι ι' := fun j r' h => by
    show (if j = s.n then _ else ι j) = _
    rw [if_neg]
    · exact h
    · rintro rfl; rw [hfresh] at h; cases h
  have hι : ∀ j r', ι' j = some r' → (j = s.n ∧ r' = (r, c)) ∨ (j ≠ s.n ∧ ι j = some r') := fun j r' h => by
    have h' : (if j = s.n then some (r, c) else ι j) = some r' := h
    split at h'
    · rename_i e; cases h'; exact .inl ⟨e, rfl⟩
    · rename_i e; exact .inr ⟨e, h'⟩
  have hg1 : ∀ j, (s.put b none).h.get j = if j = b then none else s.h.get j := fun j => Tr.get_set DH s.h b none j (lim_le (by have := hW.lim; omega))
  have hg : ∀ j, ((s.put b none).new o).h.get j = if j = s.n then some o else if j = b then none else s.h.get j := fun j => by
    have := Tr.get_set DH (s.put b none).h s.n (some o) j (lim_ok hn)
    rw [hg1] at this
    exact this
  have hnote := note_self (s := s) (b := b)
  refine ⟨ι', by simp [ι'], hW, hext, ⟨?_, ?_, ?_, ?_, ?_, ?_, fun x hx => (note_mem hx).elim (hW.wsb x) id, hW.pin.mono hext, hW.env.mono (fun j r' c' h => (hι j _ h).elim (fun e => .inl ⟨b, c, by cases e.2; exact hb⟩) fun e => .inl ⟨j, c', e.2⟩) (Nat.le_of_eq hu.size.symm) fun k _ hn => hu.other k fun e => hn b c (e ▸ hb)⟩, hu.os, hu.tape, hu.output, Nat.le_of_eq hu.size.symm, ?_, ?_, ?_, ?_, ?_, rfl, Nat.le_succ _, fun x h => note_sub h⟩
  · intro j oj hj
    rw [hg] at hj
    split at hj
    · rename_i e
      subst e
      cases hj
      exact ⟨r, c, x, by simp [ι'], hu.at_, ho ι' hext⟩
    · split at hj
      · cases hj
      · rename_i e1 e2
        obtain ⟨r', c', x', h1, h2, h3⟩ := hW.obj j oj hj
        refine ⟨r', c', x', hext _ _ h1, ?_, h3.mono hext⟩
        rw [hu.other r' (fun e' => e2 (hW.inj j b r c' c (by rw [hj]; simp) hl (e' ▸ h1) hb)), h2]
  · intro j j' r' c1 c2 h1 h2 h3 h4
    rw [hg] at h1 h2
    rcases hι _ _ h3 with ⟨e1, e2⟩ | ⟨e1, e2⟩ <;> rcases hι _ _ h4 with ⟨e3, e4⟩ | ⟨e3, e4⟩
    · rw [e1, e3]
    · exfalso
      rw [if_neg e3] at h2
      split at h2
      · exact h2 rfl
      · rename_i e5
        cases e2
        exact e5 (hW.inj j' b r c2 c h2 hl e4 hb)
    · exfalso
      rw [if_neg e1] at h1
      split at h1
      · exact h1 rfl
      · rename_i e5
        cases e4
        exact e5 (hW.inj j b r c1 c h1 hl e2 hb)
    · rw [if_neg e1] at h1
      rw [if_neg e3] at h2
      split at h1
      · exact absurd rfl h1
      · split at h2
        · exact absurd rfl h2
        · exact hW.inj j j' r' c1 c2 h1 h2 e2 e4
  · intro j r' c' h
    rw [hu.size]
    rcases hι _ _ h with ⟨e1, e2⟩ | ⟨e1, e2⟩
    · cases e2; exact hW.bound _ _ _ hb
    · exact hW.bound _ _ _ e2
  · intro j r' h
    show j < Nat.succ s.n
    rcases hι _ _ h with ⟨e1, e2⟩ | ⟨e1, e2⟩
    · omega
    · have := hW.dom _ _ e2; omega
  · show Nat.succ s.n ≤ limH; omega
  · show s.bs ≤ Nat.succ s.n; have := hW.bsn; omega
  · intro k hk hh
    refine hu.other k fun e => ?_
    subst e
    rcases hh b c hb with e | ⟨e1, e2⟩
    · exact hl e
    · rcases hnote with o | o
      · omega
      · exact e2 o
  · intro j r' c' h1 h2 hr
    rcases hι _ _ h2 with ⟨e1, e2⟩ | ⟨e1, e2⟩
    · cases e2; exact ⟨b, c, hb, hl, hnote⟩
    · rw [h1] at e2; cases e2
  · intro j r' h1 h2
    rcases hι _ _ h2 with ⟨e1, e2⟩ | ⟨e1, e2⟩
    · omega
    · rw [h1] at e2; cases e2
  · intro j hj hw
    rw [hg, if_neg (by have := hW.bsn; omega), if_neg]
    rintro rfl
    rcases hnote with o | o
    · omega
    · exact hw o
  · intro j hj e
    rw [hg, if_neg (by omega)]
    split
    · rfl
    · exact e

/-- The killing of a block. -/
theorem Po.kill (hW : WR P ι s w) {b r c : Nat} (hl : s.h.get b ≠ none) (hb : ι b = some (r, c)) : Po P ι s w ι (s.put b none) w := by
  have hbn := hW.dom b _ hb
  have hg : ∀ j, (s.put b none).h.get j = if j = b then none else s.h.get j := fun j => Tr.get_set DH s.h b none j (lim_le (by have := hW.lim; omega))
  have hlive : ∀ j, (s.put b none).h.get j ≠ none → s.h.get j ≠ none := fun j hj => by
    rw [hg] at hj
    split at hj
    · exact absurd rfl hj
    · exact hj
  refine ⟨hW, .refl _, ⟨?_, ?_, hW.bound, hW.dom, hW.lim, hW.bsn, fun x hx => (note_mem hx).elim (hW.wsb x) id, hW.pin, hW.env⟩, rfl, rfl, rfl, Nat.le_refl _, fun _ _ _ => rfl, ?_, ?_, ?_, ?_, rfl, Nat.le_refl _, fun x h => note_sub h⟩
  · intro j oj hj
    rw [hg] at hj
    split at hj
    · cases hj
    · exact hW.obj j oj hj
  · intro j j' r' c1 c2 h1 h2 h3 h4
    exact hW.inj j j' r' c1 c2 (hlive j h1) (hlive j' h2) h3 h4
  · intro b r c h1 h2; rw [h1] at h2; cases h2
  · intro b r h1 h2; rw [h1] at h2; cases h2
  · intro j hj hw
    rw [hg, if_neg]
    rintro rfl
    rcases note_self (s := s) (b := j) with o | o
    · omega
    · exact hw o
  · intro j _ e
    rw [hg]
    split
    · rfl
    · exact e

/-- Cells are stored over a row. -/
theorem store_ok (hW : WR P ι s w) {b o r k : Nat} {c c' xs vs : List Value} (hb : s.h.get b = some (.cells c)) (hι : ι b = some (r, k)) (hx : LR ι xs vs) (ho : Sim.ones xs = true) (hv : over c o xs = some c') :
    ∃ w', (storeCells ⟨r, o, none⟩ vs).run P w = .ok () w' ∧ Po P ι s w ι (s.put b (some (.cells c'))) w' := by
  obtain ⟨r', k', x, h1, h2, cs, ty, rfl, hc, l', tl, h3, h4⟩ := hW.obj _ _ hb
  rw [hι] at h1
  cases h1
  obtain ⟨g1, q, g2, g3, g4⟩ := LR.over (tl := tl) h4 hx hv
  have hsz : cs.size = l'.length + tl.length := by rw [← Array.length_toList, h3, List.length_append]
  have hst := run_storeCells_at P r o ty vs 0 cs w h2 (by omega) (fun v hv => (List.all_eq_true.1 (hx.ones ho)) v hv)
  rw [Nat.add_zero, h3, g4] at hst
  refine ⟨_, hst, Po.put hW (by rw [hb]; simp) hι (x := .cells (q ++ tl).toArray ty) ⟨_, _, rfl, ?_, q, tl, by simp, g2⟩ ⟨setRow_heap w r cs _ ty _ h2, fun j hj => setRow_other w r j _ hj, by simp, rfl, rfl, rfl⟩⟩
  simp only [List.size_toArray, List.length_append, g3]
  omega
end
end Go.Sim
