import Derived.Test.YtkjgachpmebipaiGreatDoorSimR
/- What is told beforehand of a region that draws its order. -/
namespace Go.Sim
set_option linter.all false
open Go
variable [Rho] [Asm] [SymOK]

theorem beqN {a b : Nat} (h : Nat.beq a b = true) : a = b := Nat.eq_of_beq_eq_true h
theorem eqI_ok {x y : Int} (h : eqI x y = true) : x = y := by
  unfold eqI at h
  split at h
  · rw [beqN h]
  · rw [beqN h]
  · cases h
theorem kindB_ok {k l : IntKind} (h : kindB k l = true) : k = l := by
  cases k <;> cases l <;> first | rfl | cases h
theorem sameB_ok {a b : Bool} (h : sameB a b = true) : a = b := by
  cases a <;> cases b <;> first | rfl | cases h
theorem veqL_ok {eq : Value → Value → Bool} (h : ∀ v w, eq v w = true → v = w) : ∀ {l m : List Value}, veq.veqL eq l m = true → l = m
  | [], [], _ => rfl
  | [], _ :: _, e => by simp [veq.veqL] at e
  | _ :: _, [], e => by simp [veq.veqL] at e
  | x :: l, y :: m, e => by
    simp only [veq.veqL] at e
    split at e
    · rename_i h1
      rw [h _ _ h1, veqL_ok h e]
    · cases e
theorem veq_ok : ∀ (n : Nat) (v w : Value), veq n v w = true → v = w := by
  intro n
  induction n with
  | zero => intro v w h; simp [veq] at h
  | succ n ih =>
    intro v w h
    unfold veq at h
    split at h
    · split at h
      · rename_i hk; rw [kindB_ok hk, eqI_ok h]
      · cases h
    · rw [sameB_ok h]
    · rw [eqU_eq] at h
      simp only [beq_iff_eq] at h
      rw [h]
    · rfl
    · split at h
      · rename_i hk; rw [beqN hk, beqN h]
      · cases h
    · split at h
      · rename_i hk; rw [beqN hk, beqN h]
      · cases h
    · split at h
      · rename_i h1 h2 h3; rw [beqN h1, beqN h2, beqN h3, beqN h]
      · cases h
    · rfl
    · rw [beqN h]
    · rfl
    · rfl
    · split at h
      · rename_i h1 h2; rw [beqN h1, veqL_ok ih h2, veqL_ok ih h]
      · cases h
    · rw [beqN h]
    · split at h
      · rename_i h1; rw [beqN h1, ih _ _ h]
      · cases h
    · rw [← seq_ok _ _ _ h]
    · rw [veqL_ok ih h]
    · rw [veqL_ok ih h]
    · cases h

/-! ### the given order -/
theorem okD_ok : ∀ {l : List (Ins × Nat)} {k : Nat}, okD k l = true → (∀ (i : Nat) (a : Ins × Nat), l[i]? = some a → a.2 < 2 ^ (k + i)) ∧ ∀ (i j : Nat) (a b : Ins × Nat), i < j → l[i]? = some a → l[j]? = some b → ok2 (k + i) a b = true
  | [], k, _ => ⟨fun i a h => by simp at h, fun i j a b _ h => by simp at h⟩
  | x :: l, k, h => by
    simp only [okD] at h
    split at h
    · rename_i h1 h2
      obtain ⟨q1, q2⟩ := okD_ok h
      constructor
      · intro i a hi
        cases i with
        | zero => simp at hi; subst hi; exact blt_true h1
        | succ i =>
          have := q1 i a (by simpa using hi)
          rwa [Nat.succ_add_eq_add_succ] at this
      · intro i j a b hij hi hj
        cases j with
        | zero => omega
        | succ j =>
          cases i with
          | zero =>
            simp at hi hj
            subst hi
            exact List.all_eq_true.1 h2 b (List.mem_of_getElem? hj)
          | succ i =>
            have := q2 i j a b (by omega) (by simpa using hi) (by simpa using hj)
            rwa [Nat.succ_add_eq_add_succ] at this
    · cases h
theorem csD_ok : ∀ {l : List (Ins × Nat)} {k : Nat}, (∀ (i : Nat) (a : Ins × Nat), l[i]? = some a → isC a.1.op = true → (k + i, a.2) ∈ csD k l) ∧ ∀ c ∈ csD k l, ∃ (i : Nat) (a : Ins × Nat), l[i]? = some a ∧ isC a.1.op = true ∧ c = (k + i, a.2)
  | [], k => ⟨fun i a h => by simp at h, fun c h => by simp [csD] at h⟩
  | x :: l, k => by
    obtain ⟨q1, q2⟩ := csD_ok (l := l) (k := k + 1)
    constructor
    · intro i a hi hc
      cases i with
      | zero =>
        simp at hi
        subst hi
        simp [csD, hc]
      | succ i =>
        have := q1 i a (by simpa using hi) hc
        rw [Nat.succ_add_eq_add_succ] at this
        simp only [csD]
        split
        · exact List.mem_cons_of_mem _ this
        · exact this
    · intro c hc
      simp only [csD] at hc
      have tail : c ∈ csD (k + 1) l → ∃ i a, (x :: l)[i]? = some a ∧ isC a.1.op = true ∧ c = (k + i, a.2) := fun h => by
        obtain ⟨i, a, h1, h2, h3⟩ := q2 c h
        exact ⟨i + 1, a, by simpa using h1, h2, by rw [h3, Nat.succ_add_eq_add_succ]⟩
      split at hc
      · rename_i hx
        rcases List.mem_cons.1 hc with rfl | h
        · exact ⟨0, x, by simp, hx, rfl⟩
        · exact tail h
      · exact tail hc
theorem mkD_ok {cs : List (Nat × Nat)} : ∀ {l : List (Ins × Nat)} {k : Nat}, (mkD cs k l).length = l.length ∧ ∀ (i : Nat) (d : DI), (mkD cs k l)[i]? = some d → l[i]? = some (d.io, d.m) ∧ d.cs = (0 :: cs.map fun c => Nat.succ c.1).filter fun p => !exempt cs p (k + i) d.m
  | [], k => ⟨rfl, fun i a h => by simp [mkD] at h⟩
  | x :: l, k => by
    obtain ⟨q1, q2⟩ := mkD_ok (cs := cs) (l := l) (k := k + 1)
    constructor
    · simp [mkD, q1]
    · intro i d hi
      cases i with
      | zero =>
        simp [mkD] at hi
        subst hi
        simp
      | succ i =>
        have := q2 i d (by simpa [mkD] using hi)
        rw [Nat.succ_add_eq_add_succ] at this
        simpa using this

/-- What is told beforehand. -/
structure Told (dl : List DI) : Prop where
  lt : ∀ (i : Nat) (d : DI), dl[i]? = some d → d.m < 2 ^ i
  two : ∀ (i j : Nat) (a b : DI), i < j → dl[i]? = some a → dl[j]? = some b → ok2 i (a.io, a.m) (b.io, b.m) = true
  cs0 : ∀ (i : Nat) (d : DI), dl[i]? = some d → 0 ∈ d.cs ∨ ∃ (k : Nat) (c : DI), dl[k]? = some c ∧ isC c.io.op = true ∧ d.m.testBit k = true
  csC : ∀ (i : Nat) (d : DI) (k : Nat) (c : DI), dl[i]? = some d → dl[k]? = some c → isC c.io.op = true → (k + 1) ∈ d.cs ∨ (∃ (j : Nat) (e : DI), dl[j]? = some e ∧ isC e.io.op = true ∧ ((k < j ∧ d.m.testBit j = true) ∨ (j ≤ k ∧ e.m.testBit i = true)))

theorem drawI_ok {l : List (Ins × Nat)} {dl : List DI} (h : drawI l = some dl) : dl.length = l.length ∧ (∀ (i : Nat) (d : DI), dl[i]? = some d → l[i]? = some (d.io, d.m)) ∧ Told dl := by
  unfold drawI at h
  split at h
  · rename_i hok
    cases h
    obtain ⟨q1, q2⟩ := okD_ok hok
    obtain ⟨c1, c2⟩ := csD_ok (l := l) (k := 0)
    obtain ⟨m1, m2⟩ := mkD_ok (cs := csD 0 l) (l := l) (k := 0)
    simp only [Nat.zero_add] at q1 q2 c1 c2 m2
    have back : ∀ (i : Nat) (a : Ins × Nat), l[i]? = some a → ∃ d : DI, (mkD (csD 0 l) 0 l)[i]? = some d ∧ d.io = a.1 ∧ d.m = a.2 := fun i a hi => by
      have hlt : i < (mkD (csD 0 l) 0 l).length := by rw [m1]; exact (List.getElem?_eq_some_iff.1 hi).1
      refine ⟨_, List.getElem?_eq_getElem hlt, ?_⟩
      have := (m2 i _ (List.getElem?_eq_getElem hlt)).1
      rw [hi] at this
      cases this
      exact ⟨rfl, rfl⟩
    have ex : ∀ (p i m : Nat), exempt (csD 0 l) p i m = true → ∃ (j : Nat) (e : DI), (mkD (csD 0 l) 0 l)[j]? = some e ∧ isC e.io.op = true ∧ ((p ≤ j ∧ m.testBit j = true) ∨ (j < p ∧ e.m.testBit i = true)) := fun p i m hx => by
      simp only [exempt, List.any_eq_true] at hx
      obtain ⟨c, hc, hx⟩ := hx
      obtain ⟨j, a, h1, h2, rfl⟩ := c2 c hc
      obtain ⟨e, e1, e2, e3⟩ := back j a h1
      refine ⟨j, e, e1, by rw [e2]; exact h2, ?_⟩
      simp only [Bool.or_eq_true, Bool.and_eq_true] at hx
      rcases hx with ⟨x1, x2⟩ | ⟨x1, x2⟩
      · exact .inl ⟨Nat.le_of_ble_eq_true x1, x2⟩
      · exact .inr ⟨blt_true x1, by rw [e3]; exact x2⟩
    refine ⟨m1, fun i d hd => (m2 i d hd).1, ⟨fun i d hd => q1 i _ (m2 i d hd).1, fun i j a b hij ha hb => q2 i j _ _ hij (m2 i a ha).1 (m2 j b hb).1, ?_, ?_⟩⟩
    · intro i d hd
      have hcs := (m2 i d hd).2
      cases hx : exempt (csD 0 l) 0 i d.m with
      | false => left; rw [hcs]; simp [hx]
      | true =>
        right
        obtain ⟨j, e, e1, e2, e3⟩ := ex 0 i d.m hx
        rcases e3 with ⟨_, e3⟩ | ⟨e3, _⟩
        · exact ⟨j, e, e1, e2, e3⟩
        · omega
    · intro i d k c hd hk hc
      have hcs := (m2 i d hd).2
      have hmem : (k, c.m) ∈ csD 0 l := c1 k _ (m2 k c hk).1 hc
      cases hx : exempt (csD 0 l) (k + 1) i d.m with
      | false =>
        left
        rw [hcs]
        simp only [List.mem_filter, List.mem_cons, List.mem_map]
        exact ⟨.inr ⟨_, hmem, rfl⟩, by simp [hx]⟩
      | true =>
        right
        obtain ⟨j, e, e1, e2, e3⟩ := ex _ i d.m hx
        refine ⟨j, e, e1, e2, ?_⟩
        rcases e3 with ⟨e3, e4⟩ | ⟨e3, e4⟩
        · exact .inl ⟨by omega, e4⟩
        · exact .inr ⟨by omega, e4⟩
  · cases h

theorem inO_ok {d : Nat} : ∀ {l : List Opd}, inO d l = false → ∀ x ∈ l, x ≠ .t d
  | [], _, x, hx => by cases hx
  | .t n :: l, h, x, hx => by
    simp only [inO] at h
    split at h
    · cases h
    · rename_i hb
      rcases List.mem_cons.1 hx with rfl | hx
      · rintro ⟨⟩
        simp at hb
      · exact inO_ok h x hx
  | .v _ :: l, h, x, hx => by
    simp only [inO] at h
    rcases List.mem_cons.1 hx with rfl | hx
    · rintro ⟨⟩
    · exact inO_ok h x hx
theorem looks_ok {o : Ins} {d : Nat} (h : looks o (some d) = false) : (∀ x ∈ iO o.op, x ≠ .t d) ∧ ∀ t b, o.grd = some (t, b) → t ≠ d := by
  simp only [looks] at h
  split at h
  · cases h
  · rename_i h1
    refine ⟨inO_ok h1, fun t b e => ?_⟩
    rw [e] at h
    rintro rfl
    simp at h

/-! ### what comes before -/
theorem one_bit (look : Nat → Nat) (o : Oper) (k : Nat) : (CheckFast.one look o).testBit k = true ↔ ∃ e ∈ o.after, Region.binds .any e = true ∧ (e.on = k ∨ (look e.on).testBit k = true) := by
  unfold CheckFast.one
  rw [← Array.foldl_toList]
  have : ∀ (l : List Edge) (s : Nat), (l.foldl (fun s e => if Region.binds .any e then s ||| 2 ^ e.on ||| look e.on else s) s).testBit k = true ↔ s.testBit k = true ∨ ∃ e ∈ l, Region.binds .any e = true ∧ (e.on = k ∨ (look e.on).testBit k = true) := by
    intro l
    induction l with
    | nil => intro s; simp
    | cons e l ih =>
      intro s
      rw [List.foldl_cons, ih]
      by_cases hb : Region.binds .any e = true
      · simp only [hb, if_true, Nat.testBit_or, Nat.testBit_two_pow, Bool.or_eq_true, decide_eq_true_eq, List.mem_cons, exists_eq_or_imp, true_and]
        constructor
        · rintro (((h | h) | h) | h)
          · exact .inl h
          · exact .inr (.inl (.inl h))
          · exact .inr (.inl (.inr h))
          · exact .inr (.inr h)
        · rintro (h | (h | h) | h)
          · exact .inl (.inl (.inl h))
          · exact .inl (.inl (.inr h))
          · exact .inl (.inr h)
          · exact .inr h
      · simp [hb]
  rw [this]
  simp
end Go.Sim
