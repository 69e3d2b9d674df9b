import Derived.Test.YtkjgachpmebipaiGreatDoorSimF
/- The reckoner's memory and the machine's. -/
namespace Go.Sim
set_option linter.all false
open Go
variable [Rho] [Asm] [SymOK]

inductive ER (ι : Io) : List (Value × Value) → List MapEntry → Prop
  | nil : ER ι [] []
  | cons {k v : Value} {e : MapEntry} {l : List (Value × Value)} {l' : List MapEntry} : VR ι k e.key → VR ι v e.val → ER ι l l' → ER ι ((k, v) :: l) (e :: l')
theorem ER.mono {ι ι' : Io} (h : Ext ι ι') : ∀ {l l'}, ER ι l l' → ER ι' l l'
  | _, _, .nil => .nil
  | _, _, .cons h1 h2 h3 => .cons (h1.mono h) (h2.mono h) (h3.mono h)
theorem ER.back {ι ι' : Io} (h : Ext ι ι') : ∀ {l x y}, ER ι l x → ER ι' l y → ER ι l y
  | _, _, _, .nil, hy => by cases hy; exact .nil
  | _, _, _, .cons h1 h2 h3, hy => by
    cases hy with
    | cons h1' h2' h3' => exact .cons (h1.back h h1') (h2.back h h2') (h3.back h h3')

section
variable (P : Program)
/-- A block of the reckoner's and the machine's, of c cells. -/
def OR (ι : Io) (c : Nat) : LO → Obj → Prop
  | .cells l, o => ∃ cs t, o = .cells cs t (0, 0) ∧ cs.size = c ∧ ∃ l' tl, cs.toList = l' ++ tl ∧ LR ι l l'
  | .map n ag es, o => ∃ en ck, o = .map en ck ∧ ER ι es en.toList ∧ ∀ p ∈ es, keyed n ag p.1 = true
  | .loop st pend T ps asg body, o => ∃ (r : Loop) (nt : Nat), o = .loop r ∧ r.state = st ∧ r.pending = pend ∧ TR ι T r.tmps ∧ nt ≤ r.tmps.size ∧ r.params.toList = ps ∧ (∀ p ∈ ps, p < nt) ∧ comp P nt r.assign = some asg ∧ comp P nt r.body = some body
  | .defd b, o => o = .deferred (if b then some [] else none)
  | .ro l, o => ∃ cs t f, o = .cells cs t f ∧ cs.toList = l
  | .siter l pos, o => o = .stringIter ⟨⟨l⟩⟩ pos
theorem OR.mono {P : Program} {ι ι' : Io} (h : Ext ι ι') {c : Nat} {lo : LO} {o : Obj} (ho : OR P ι c lo o) : OR P ι' c lo o := by
  cases lo with
  | cells l => obtain ⟨cs, t, e, hc, l', tl, h1, h2⟩ := ho; exact ⟨cs, t, e, hc, l', tl, h1, h2.mono h⟩
  | map n ag es => obtain ⟨en, ck, e, h1, h2⟩ := ho; exact ⟨en, ck, e, h1.mono h, h2⟩
  | loop st pend T ps asg body => obtain ⟨r, nt, h1, h2, h3, h4, h5⟩ := ho; exact ⟨r, nt, h1, h2, h3, h4.mono h, h5⟩
  | defd b => exact ho
  | ro l => exact ho
  | siter l pos => exact ho
theorem TR.back {ι ι' : Io} (h : Ext ι ι') {T : Tm} {x y : Array Value} (hx : TR ι T x) (hy : TR ι' T y) : TR ι T y := fun t => (hx t).back h (hy t)
theorem OR.back {P : Program} {ι ι' : Io} (h : Ext ι ι') {c c' : Nat} {lo : LO} {x y : Obj} (hx : OR P ι c lo x) (hy : OR P ι' c' lo y) : OR P ι c' lo y := by
  cases lo with
  | cells l =>
    obtain ⟨cs, t, e, hc, l', tl, h1, h2⟩ := hx
    obtain ⟨cs', t', e', hc', l'', tl', h1', h2'⟩ := hy
    exact ⟨cs', t', e', hc', l'', tl', h1', h2.back h h2'⟩
  | map n ag es =>
    obtain ⟨en, ck, e, h1, _⟩ := hx
    obtain ⟨en', ck', e', h1', h2⟩ := hy
    exact ⟨en', ck', e', h1.back h h1', h2⟩
  | loop st pend T ps asg body =>
    obtain ⟨r, nt, h1, h2, h3, h4, h5⟩ := hx
    obtain ⟨r', nt', h1', h2', h3', h4', h5'⟩ := hy
    exact ⟨r', nt', h1', h2', h3', h4.back h h4', h5'⟩
  | defd b => exact hy
  | ro l => exact hy
  | siter l pos => exact hy

/-- The cells of a package-level variable. -/
def gsize (g : Nat) : Option Nat := match P.globals[g]? with
  | some G => szOf P G.type
  | none => none
/-- Package-level variables bear their own numbers. -/
def Pin (ι : Io) : Prop := ∀ g c, gsize P g = some c → ι g = some (g, c)
theorem Pin.mono {P : Program} {ι ι' : Io} (h : Pin P ι) (e : Ext ι ι') : Pin P ι' := fun g c hg => e _ _ (h g c hg)

/-- What lies about from of old is as it was, and is not tracked. -/
structure Env (ι : Io) (w : World) : Prop where
  low : ∀ b r c, ι b = some (r, c) → r < P.globals.size ∨ Rho.B ≤ r
  top : Rho.B ≤ w.heap.size
  old : ∀ k, P.globals.size ≤ k → k < Rho.B → w.heap[k]? = Rho.W0 k
theorem Env.mono {P : Program} {ι ι' : Io} {w w' : World} (h : Env P ι w) (hi : ∀ b r c, ι' b = some (r, c) → (∃ b' c', ι b' = some (r, c')) ∨ Rho.B ≤ r) (hs : w.heap.size ≤ w'.heap.size) (ho : ∀ k, k < w.heap.size → (∀ b c, ι b ≠ some (k, c)) → w'.heap[k]? = w.heap[k]?) : Env P ι' w' where
  low := fun b r c hb => by
    rcases hi b r c hb with ⟨b', c', h'⟩ | h'
    · exact h.low _ _ _ h'
    · exact .inr h'
  top := Nat.le_trans h.top hs
  old := fun k h1 h2 => by
    rw [ho k (Nat.lt_of_lt_of_le h2 h.top) fun b c hb => by
      rcases h.low _ _ _ hb with e | e
      · exact absurd h1 (Nat.not_le.2 e)
      · exact absurd h2 (Nat.not_lt.2 e)]
    exact h.old k h1 h2

structure WR (ι : Io) (s : St) (w : World) : Prop where
  obj : ∀ b o, s.h.get b = some o → ∃ r c x, ι b = some (r, c) ∧ w.heap[r]? = some x ∧ OR P ι c o x
  inj : ∀ b b' r c c', s.h.get b ≠ none → s.h.get b' ≠ none → ι b = some (r, c) → ι b' = some (r, c') → b = b'
  bound : ∀ b r c, ι b = some (r, c) → r < w.heap.size
  dom : ∀ b r, ι b = some r → b < s.n
  lim : s.n ≤ limH
  bsn : s.bs ≤ s.n
  wsb : ∀ b, b ∈ s.ws → b < s.bs
  pin : Pin P ι
  env : Env P ι w

structure Po (ι : Io) (s : St) (w : World) (ι' : Io) (s' : St) (w' : World) : Prop where
  wr0 : WR P ι s w
  ext : Ext ι ι'
  wr : WR P ι' s' w'
  os : w'.os = w.os
  tape : w'.tape = w.tape
  output : w'.output = w.output
  size : w.heap.size ≤ w'.heap.size
  frame : ∀ k, k < w.heap.size → (∀ b c, ι b = some (k, c) → s.h.get b = none ∨ (b < s.bs ∧ b ∉ s'.ws)) → w'.heap[k]? = w.heap[k]?
  newold : ∀ b r c, ι b = none → ι' b = some (r, c) → r < w.heap.size → ∃ b0 c0, ι b0 = some (r, c0) ∧ s.h.get b0 ≠ none ∧ (s.bs ≤ b0 ∨ b0 ∈ s'.ws)
  newid : ∀ b r, ι b = none → ι' b = some r → s.n ≤ b
  inv : ∀ b, b < s.bs → b ∉ s'.ws → s'.h.get b = s.h.get b
  dead : ∀ b, b < s.n → s.h.get b = none → s'.h.get b = none
  bs : s'.bs = s.bs
  nle : s.n ≤ s'.n
  wsm : ∀ b, b ∈ s.ws → b ∈ s'.ws
end

section
variable {P : Program} {ι ι' ι'' : Io} {s s' s'' : St} {w w' w'' : World}
theorem Po.refl (h : WR P ι s w) : Po P ι s w ι s w :=
  ⟨h, .refl _, h, rfl, rfl, rfl, Nat.le_refl _, fun _ _ _ => rfl, fun b r c h1 h2 => (by rw [h1] at h2; cases h2), fun b r h1 h2 => (by rw [h1] at h2; cases h2), fun _ _ _ => rfl, fun _ _ h => h, rfl, Nat.le_refl _, fun _ h => h⟩
theorem Po.trans (h : Po P ι s w ι' s' w') (h' : Po P ι' s' w' ι'' s'' w'') : Po P ι s w ι'' s'' w'' where
  wr0 := h.wr0
  ext := h.ext.trans h'.ext
  wr := h'.wr
  os := h'.os.trans h.os
  tape := h'.tape.trans h.tape
  output := h'.output.trans h.output
  size := Nat.le_trans h.size h'.size
  frame := fun k hk hh => by
    have h1 := h.frame k hk fun b c hb => (hh b c hb).imp id fun ⟨x, y⟩ => ⟨x, fun hm => y (h'.wsm b hm)⟩
    refine (h'.frame k (Nat.lt_of_lt_of_le hk h.size) fun b c hb => ?_).trans h1
    cases hi : ι b with
    | none =>
      obtain ⟨b0, c0, e0, l0, o0⟩ := h.newold b k c hi hb hk
      rcases hh b0 c0 e0 with e | ⟨e1, e2⟩
      · exact absurd e l0
      · rcases o0 with o | o
        · omega
        · exact absurd (h'.wsm _ o) e2
    | some x =>
      have e := h.ext _ _ hi
      rw [hb] at e
      cases e
      rcases hh b c hi with e | ⟨e1, e2⟩
      · exact .inl (h.dead b (h.wr0.dom b _ hi) e)
      · exact .inr ⟨by rw [h.bs]; exact e1, e2⟩
  newold := fun b r c h1 h2 hr => by
    cases hi : ι' b with
    | none =>
      obtain ⟨b0, c0, e0, l0, o0⟩ := h'.newold b r c hi h2 (Nat.lt_of_lt_of_le hr h.size)
      cases hi0 : ι b0 with
      | none =>
        obtain ⟨b1, c1, e1, l1, o1⟩ := h.newold b0 r c0 hi0 e0 hr
        exact ⟨b1, c1, e1, l1, o1.imp id (h'.wsm _)⟩
      | some x =>
        have e := h.ext _ _ hi0
        rw [e0] at e
        cases e
        refine ⟨b0, c0, hi0, fun e => l0 (h.dead b0 ?_ e), ?_⟩
        · exact h.wr0.dom b0 _ hi0
        · rw [h.bs] at o0; exact o0
    | some x =>
      have e := h'.ext _ _ hi
      rw [h2] at e
      cases e
      obtain ⟨b0, c0, e0, l0, o0⟩ := h.newold b r c h1 hi hr
      exact ⟨b0, c0, e0, l0, o0.imp id (h'.wsm _)⟩
  newid := fun b r h1 h2 => by
    cases hi : ι' b with
    | none => exact Nat.le_trans h.nle (h'.newid b r hi h2)
    | some x => exact h.newid b x h1 hi
  inv := fun b hb hw => (h'.inv b (by rw [h.bs]; exact hb) hw).trans (h.inv b hb fun hm => hw (h'.wsm b hm))
  dead := fun b hb e => h'.dead b (Nat.lt_of_lt_of_le hb h.nle) (h.dead b hb e)
  bs := h'.bs.trans h.bs
  nle := Nat.le_trans h.nle h'.nle
  wsm := fun b hb => h'.wsm b (h.wsm b hb)

/-- A world in which one block alone is another. -/
structure Upd (w w' : World) (r : Nat) (x : Obj) : Prop where
  at_ : w'.heap[r]? = some x
  other : ∀ k, k ≠ r → w'.heap[k]? = w.heap[k]?
  size : w'.heap.size = w.heap.size
  os : w'.os = w.os
  tape : w'.tape = w.tape
  output : w'.output = w.output

theorem blt_true {a b : Nat} (h : Nat.blt a b = true) : a < b := by simpa [Nat.blt_eq] using h
theorem blt_false {a b : Nat} (h : Nat.blt a b = false) : b ≤ a := by
  refine Nat.not_lt.1 fun hlt => ?_
  have : Nat.blt a b = true := by simpa [Nat.blt_eq] using hlt
  rw [h] at this
  cases this
theorem note_sub {s : St} {b x : Nat} (h : x ∈ s.ws) : x ∈ note s b := by
  unfold note
  split
  · exact h
  · split
    · exact h
    · exact List.mem_cons_of_mem _ h
theorem mem_ok {b : Nat} : ∀ {l : List Nat}, mem b l = true → b ∈ l
  | [], h => by simp [mem] at h
  | c :: l, h => by
    simp only [mem] at h
    split at h
    · rename_i hb
      rw [Nat.eq_of_beq_eq_true hb]
      exact List.mem_cons_self
    · exact List.mem_cons_of_mem _ (mem_ok h)
theorem note_mem {s : St} {b x : Nat} (h : x ∈ note s b) : x ∈ s.ws ∨ x < s.bs := by
  unfold note at h
  split at h
  · exact .inl h
  · rename_i hb
    split at h
    · exact .inl h
    · rcases List.mem_cons.1 h with rfl | h
      · exact .inr (blt_true hb)
      · exact .inl h
theorem note_self {s : St} {b : Nat} : s.bs ≤ b ∨ b ∈ note s b := by
  unfold note
  split
  · rename_i h
    left
    exact blt_false h
  · right
    split
    · rename_i h; exact mem_ok h
    · exact List.mem_cons_self

theorem lim_ok {n : Nat} (h : n < limH) : n + 1 < 2 ^ DH := by unfold limH at h; unfold DH; omega
theorem lim_le {n : Nat} (h : n ≤ limH) : n + 1 < 2 ^ DH := by unfold limH at h; unfold DH; omega

/-- A block is changed on both sides. -/
theorem Po.put (hW : WR P ι s w) {b r c : Nat} {o : LO} {x : Obj} (hl : s.h.get b ≠ none) (hb : ι b = some (r, c)) (ho : OR P ι c o x) (hu : Upd w w' r x) : Po P ι s w ι (s.put b (some o)) w' := by
  have hbn := hW.dom b _ hb
  have hg : ∀ j, (s.put b (some o)).h.get j = if j = b then some o else s.h.get j := fun j => Tr.get_set DH s.h b (some o) j (lim_le (by have := hW.lim; omega))
  have hlive : ∀ j, (s.put b (some o)).h.get j ≠ none → s.h.get j ≠ none := fun j hj => by
    rw [hg] at hj
    split at hj
    · rename_i e; rw [e]; exact hl
    · exact hj
  refine ⟨hW, .refl _, ⟨?_, ?_, ?_, hW.dom, hW.lim, hW.bsn, fun x hx => (note_mem hx).elim (hW.wsb x) id, hW.pin, hW.env.mono (fun b r c h => .inl ⟨b, c, h⟩) (Nat.le_of_eq hu.size.symm) fun k _ hn => hu.other k fun e => hn b c (e ▸ hb)⟩, hu.os, hu.tape, hu.output, Nat.le_of_eq hu.size.symm, ?_, ?_, ?_, ?_, ?_, rfl, Nat.le_refl _, fun x h => note_sub h⟩
  · intro j oj hj
    rw [hg] at hj
    split at hj
    · rename_i e
      subst e
      cases hj
      exact ⟨r, c, x, hb, hu.at_, ho⟩
    · rename_i e
      obtain ⟨r', c', x', h1, h2, h3⟩ := hW.obj j oj hj
      refine ⟨r', c', x', h1, ?_, h3⟩
      rw [hu.other r' (fun e' => e (hW.inj j b r c' c (by rw [hj]; simp) hl (e' ▸ h1) hb)), h2]
  · intro j j' r' c1 c2 h1 h2 h3 h4
    exact hW.inj j j' r' c1 c2 (hlive j h1) (hlive j' h2) h3 h4
  · intro j r' c' h
    rw [hu.size]; exact hW.bound j r' c' h
  · intro k hk hh
    refine hu.other k fun e => ?_
    subst e
    rcases hh b c hb with e | ⟨e1, e2⟩
    · exact hl e
    · rcases note_self (s := s) (b := b) with o | o
      · omega
      · exact e2 o
  · intro b r c h1 h2; rw [h1] at h2; cases h2
  · intro b r h1 h2; rw [h1] at h2; cases h2
  · intro j hj hw
    rw [hg, if_neg]
    rintro rfl
    rcases note_self (s := s) (b := j) with o | o
    · omega
    · exact hw o
  · intro j _ e
    rw [hg, if_neg]
    · exact e
    · rintro rfl; exact hl e

/-- A new block on both sides. -/
theorem Po.new (hW : WR P ι s w) {c : Nat} {o : LO} {x : Obj} (hn : s.n < limH) (ho : ∀ ι', Ext ι ι' → OR P ι' c o x) :
    ∃ ι', ι' s.n = some (w.heap.size, c) ∧ Po P ι s w ι' (s.new o) { w with heap := w.heap.push x } := by
  have hfresh : ι s.n = none := by
    cases h : ι s.n with
    | none => rfl
    | some r => exact absurd (hW.dom _ _ h) (Nat.lt_irrefl _)
  let ι' : Io := fun b => if b = s.n then some (w.heap.size, c) else ι b
  have hext : Ext ι ι' := fun b r h => by
    show (if b = s.n then _ else ι b) = _
    rw [if_neg]
    · exact h
    · rintro rfl; rw [hfresh] at h; cases h
  have hι : ∀ b r, ι' b = some r → (b = s.n ∧ r = (w.heap.size, c)) ∨ (b ≠ s.n ∧ ι b = some r) := fun b r h => by
    have h' : (if b = s.n then some (w.heap.size, c) else ι b) = some r := h
    split at h'
    · rename_i e; cases h'; exact .inl ⟨e, rfl⟩
    · rename_i e; exact .inr ⟨e, h'⟩
  have hg : ∀ j, (s.new o).h.get j = if j = s.n then some o else s.h.get j := fun j => Tr.get_set DH s.h s.n (some o) j (lim_ok hn)
  have hnone : s.h.get s.n = none := by
    cases h : s.h.get s.n with
    | none => rfl
    | some o' =>
      obtain ⟨r, c', x', h1, _⟩ := hW.obj _ _ h
      rw [hfresh] at h1; cases h1
  have hpush : ∀ k, k < w.heap.size → (w.heap.push x)[k]? = w.heap[k]? := fun k hk => by
    rw [Array.getElem?_push, if_neg (by omega)]
  refine ⟨ι', by simp [ι'], hW, hext, ⟨?_, ?_, ?_, ?_, ?_, ?_, hW.wsb, hW.pin.mono hext, hW.env.mono (fun b r c h => (hι b _ h).elim (fun e => .inr (by have := hW.env.top; cases e.2; exact this)) fun e => .inl ⟨b, c, e.2⟩) (by simp) fun k hk _ => hpush k hk⟩, rfl, rfl, rfl, by simp, fun k hk _ => hpush k hk, ?_, ?_, ?_, ?_, rfl, Nat.le_succ _, fun _ h => h⟩
  · intro j oj hj
    rw [hg] at hj
    split at hj
    · rename_i e
      subst e
      cases hj
      exact ⟨w.heap.size, c, x, by simp [ι'], by simp, ho ι' hext⟩
    · rename_i e
      obtain ⟨r', c', x', h1, h2, h3⟩ := hW.obj j oj hj
      exact ⟨r', c', x', hext _ _ h1, (hpush r' (hW.bound _ _ _ h1)).trans h2, h3.mono hext⟩
  · intro j j' r c1 c2 h1 h2 h3 h4
    rw [hg] at h1 h2
    rcases hι _ _ h3 with ⟨e1, e2⟩ | ⟨e1, e2⟩ <;> rcases hι _ _ h4 with ⟨e3, e4⟩ | ⟨e3, e4⟩
    · rw [e1, e3]
    · have := hW.bound _ _ _ e4
      cases e2
      omega
    · have := hW.bound _ _ _ e2
      cases e4
      omega
    · rw [if_neg e1] at h1
      rw [if_neg e3] at h2
      exact hW.inj j j' r c1 c2 h1 h2 e2 e4
  · intro j r c' h
    rcases hι _ _ h with ⟨e1, e2⟩ | ⟨e1, e2⟩
    · cases e2; simp
    · have := hW.bound _ _ _ e2; simp; omega
  · intro j r h
    show j < Nat.succ s.n
    rcases hι _ _ h with ⟨e1, e2⟩ | ⟨e1, e2⟩
    · omega
    · have := hW.dom _ _ e2; omega
  · show Nat.succ s.n ≤ limH; omega
  · show s.bs ≤ Nat.succ s.n; have := hW.bsn; omega
  · intro b r c' h1 h2 hr
    rcases hι _ _ h2 with ⟨e1, e2⟩ | ⟨e1, e2⟩
    · cases e2; omega
    · rw [h1] at e2; cases e2
  · intro b r h1 h2
    rcases hι _ _ h2 with ⟨e1, e2⟩ | ⟨e1, e2⟩
    · omega
    · rw [h1] at e2; cases e2
  · intro j hj _
    rw [hg, if_neg (by have := hW.bsn; omega)]
  · intro j hj e
    rw [hg, if_neg (by omega)]
    exact e
end
end Go.Sim
