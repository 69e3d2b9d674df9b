import Derived.Test.YtkimdnckbdeekaaSimGc
/- What is told beforehand of a region that draws its order. -/
namespace Go.Sim
set_option linter.all false
open Go
variable [Rho] [Asm] [SymOK]

theorem beqN {a b : Nat} (h : Nat.beq a b = true) : a = b := Nat.eq_of_beq_eq_true h
theorem eqI_ok {x y : Int} (h : eqI x y = true) : x = y := by
  unfold eqI at h
  split at h
  · rw [beqN h]
  · rw [beqN h]
  · cases h
theorem kindB_ok {k l : IntKind} (h : kindB k l = true) : k = l := by
  cases k <;> cases l <;> first | rfl | cases h
theorem sameB_ok {a b : Bool} (h : sameB a b = true) : a = b := by
  cases a <;> cases b <;> first | rfl | cases h
theorem veqL_ok {eq : Value → Value → Bool} (h : ∀ v w, eq v w = true → v = w) : ∀ {l m : List Value}, veq.veqL eq l m = true → l = m
  | [], [], _ => rfl
  | [], _ :: _, e => by simp [veq.veqL] at e
  | _ :: _, [], e => by simp [veq.veqL] at e
  | x :: l, y :: m, e => by
    simp only [veq.veqL] at e
    split at e
    · rename_i h1
      rw [h _ _ h1, veqL_ok h e]
    · cases e
theorem veq_ok : ∀ (n : Nat) (v w : Value), veq n v w = true → v = w := by
  intro n
  induction n with
  | zero => intro v w h; simp [veq] at h
  | succ n ih =>
    intro v w h
    unfold veq at h
    split at h
    · split at h
      · rename_i hk; rw [kindB_ok hk, eqI_ok h]
      · cases h
    · rw [sameB_ok h]
    · rw [eqU_eq] at h
      simp only [beq_iff_eq] at h
      rw [h]
    · rfl
    · split at h
      · rename_i hk; rw [beqN hk, beqN h]
      · cases h
    · split at h
      · rename_i hk; rw [beqN hk, beqN h]
      · cases h
    · split at h
      · rename_i h1 h2 h3; rw [beqN h1, beqN h2, beqN h3, beqN h]
      · cases h
    · rfl
    · rw [beqN h]
    · rfl
    · rfl
    · split at h
      · rename_i h1 h2; rw [beqN h1, veqL_ok ih h2, veqL_ok ih h]
      · cases h
    · rw [← seq_ok _ _ _ h]
    · rw [veqL_ok ih h]
    · rw [veqL_ok ih h]
    · cases h

/-! ### the given order -/
theorem okD_ok : ∀ {l : List (Ins × Nat)} {k : Nat}, okD k l = true → (∀ (i : Nat) (a : Ins × Nat), l[i]? = some a → a.2 < 2 ^ (k + i)) ∧ ∀ (i j : Nat) (a b : Ins × Nat), i < j → l[i]? = some a → l[j]? = some b → ok2 (k + i) a b = true
  | [], k, _ => ⟨fun i a h => by simp at h, fun i j a b _ h => by simp at h⟩
  | x :: l, k, h => by
    simp only [okD] at h
    split at h
    · rename_i h1 h2
      obtain ⟨q1, q2⟩ := okD_ok h
      constructor
      · intro i a hi
        cases i with
        | zero => simp at hi; subst hi; exact blt_true h1
        | succ i =>
          have := q1 i a (by simpa using hi)
          rwa [Nat.succ_add_eq_add_succ] at this
      · intro i j a b hij hi hj
        cases j with
        | zero => omega
        | succ j =>
          cases i with
          | zero =>
            simp at hi hj
            subst hi
            exact List.all_eq_true.1 h2 b (List.mem_of_getElem? hj)
          | succ i =>
            have := q2 i j a b (by omega) (by simpa using hi) (by simpa using hj)
            rwa [Nat.succ_add_eq_add_succ] at this
    · cases h
theorem csD_ok : ∀ {l : List (Ins × Nat)} {k : Nat}, (∀ (i : Nat) (a : Ins × Nat), l[i]? = some a → isC a.1.op = true → (k + i, a.2) ∈ csD k l) ∧ ∀ c ∈ csD k l, ∃ (i : Nat) (a : Ins × Nat), l[i]? = some a ∧ isC a.1.op = true ∧ c = (k + i, a.2)
  | [], k => ⟨fun i a h => by simp at h, fun c h => by simp [csD] at h⟩
  | x :: l, k => by
    obtain ⟨q1, q2⟩ := csD_ok (l := l) (k := k + 1)
    constructor
    · intro i a hi hc
      cases i with
      | zero =>
        simp at hi
        subst hi
        simp [csD, hc]
      | succ i =>
        have := q1 i a (by simpa using hi) hc
        rw [Nat.succ_add_eq_add_succ] at this
        simp only [csD]
        split
        · exact List.mem_cons_of_mem _ this
        · exact this
    · intro c hc
      simp only [csD] at hc
      have tail : c ∈ csD (k + 1) l → ∃ i a, (x :: l)[i]? = some a ∧ isC a.1.op = true ∧ c = (k + i, a.2) := fun h => by
        obtain ⟨i, a, h1, h2, h3⟩ := q2 c h
        exact ⟨i + 1, a, by simpa using h1, h2, by rw [h3, Nat.succ_add_eq_add_succ]⟩
      split at hc
      · rename_i hx
        rcases List.mem_cons.1 hc with rfl | h
        · exact ⟨0, x, by simp, hx, rfl⟩
        · exact tail h
      · exact tail hc
theorem mkD_ok {cs : List (Nat × Nat)} : ∀ {l : List (Ins × Nat)} {k : Nat}, (mkD cs k l).length = l.length ∧ ∀ (i : Nat) (d : DI), (mkD cs k l)[i]? = some d → l[i]? = some (d.io, d.m) ∧ d.cs = (0 :: cs.map fun c => Nat.succ c.1).filter fun p => !exempt cs p (k + i) d.m
  | [], k => ⟨rfl, fun i a h => by simp [mkD] at h⟩
  | x :: l, k => by
    obtain ⟨q1, q2⟩ := mkD_ok (cs := cs) (l := l) (k := k + 1)
    constructor
    · simp [mkD, q1]
    · intro i d hi
      cases i with
      | zero =>
        simp [mkD] at hi
        subst hi
        simp
      | succ i =>
        have := q2 i d (by simpa [mkD] using hi)
        rw [Nat.succ_add_eq_add_succ] at this
        simpa using this

/-- What is told beforehand. -/
structure Told (dl : List DI) : Prop where
  lt : ∀ (i : Nat) (d : DI), dl[i]? = some d → d.m < 2 ^ i
  two : ∀ (i j : Nat) (a b : DI), i < j → dl[i]? = some a → dl[j]? = some b → ok2 i (a.io, a.m) (b.io, b.m) = true
  cs0 : ∀ (i : Nat) (d : DI), dl[i]? = some d → 0 ∈ d.cs ∨ ∃ (k : Nat) (c : DI), dl[k]? = some c ∧ isC c.io.op = true ∧ d.m.testBit k = true
  csC : ∀ (i : Nat) (d : DI) (k : Nat) (c : DI), dl[i]? = some d → dl[k]? = some c → isC c.io.op = true → (k + 1) ∈ d.cs ∨ (∃ (j : Nat) (e : DI), dl[j]? = some e ∧ isC e.io.op = true ∧ ((k < j ∧ d.m.testBit j = true) ∨ (j ≤ k ∧ e.m.testBit i = true)))

theorem drawI_ok {l : List (Ins × Nat)} {dl : List DI} (h : drawI l = some dl) : dl.length = l.length ∧ (∀ (i : Nat) (d : DI), dl[i]? = some d → l[i]? = some (d.io, d.m)) ∧ Told dl := by
  unfold drawI at h
  split at h
  · rename_i hok
    cases h
    obtain ⟨q1, q2⟩ := okD_ok hok
    obtain ⟨c1, c2⟩ := csD_ok (l := l) (k := 0)
    obtain ⟨m1, m2⟩ := mkD_ok (cs := csD 0 l) (l := l) (k := 0)
    simp only [Nat.zero_add] at q1 q2 c1 c2 m2
    have back : ∀ (i : Nat) (a : Ins × Nat), l[i]? = some a → ∃ d : DI, (mkD (csD 0 l) 0 l)[i]? = some d ∧ d.io = a.1 ∧ d.m = a.2 := fun i a hi => by
      have hlt : i < (mkD (csD 0 l) 0 l).length := by rw [m1]; exact (List.getElem?_eq_some_iff.1 hi).1
      refine ⟨_, List.getElem?_eq_getElem hlt, ?_⟩
      have := (m2 i _ (List.getElem?_eq_getElem hlt)).1
      rw [hi] at this
      cases this
      exact ⟨rfl, rfl⟩
    have ex : ∀ (p i m : Nat), exempt (csD 0 l) p i m = true → ∃ (j : Nat) (e : DI), (mkD (csD 0 l) 0 l)[j]? = some e ∧ isC e.io.op = true ∧ ((p ≤ j ∧ m.testBit j = true) ∨ (j < p ∧ e.m.testBit i = true)) := fun p i m hx => by
      simp only [exempt, List.any_eq_true] at hx
      obtain ⟨c, hc, hx⟩ := hx
      obtain ⟨j, a, h1, h2, rfl⟩ := c2 c hc
      obtain ⟨e, e1, e2, e3⟩ := back j a h1
      refine ⟨j, e, e1, by rw [e2]; exact h2, ?_⟩
      simp only [Bool.or_eq_true, Bool.and_eq_true] at hx
      rcases hx with ⟨x1, x2⟩ | ⟨x1, x2⟩
      · exact .inl ⟨Nat.le_of_ble_eq_true x1, x2⟩
      · exact .inr ⟨blt_true x1, by rw [e3]; exact x2⟩
    refine ⟨m1, fun i d hd => (m2 i d hd).1, ⟨fun i d hd => q1 i _ (m2 i d hd).1, fun i j a b hij ha hb => q2 i j _ _ hij (m2 i a ha).1 (m2 j b hb).1, ?_, ?_⟩⟩
    · intro i d hd
      have hcs := (m2 i d hd).2
      cases hx : exempt (csD 0 l) 0 i d.m with
      | false => left; rw [hcs]; simp [hx]
      | true =>
        right
        obtain ⟨j, e, e1, e2, e3⟩ := ex 0 i d.m hx
        rcases e3 with ⟨_, e3⟩ | ⟨e3, _⟩
        · exact ⟨j, e, e1, e2, e3⟩
        · omega
    · intro i d k c hd hk hc
      have hcs := (m2 i d hd).2
      have hmem : (k, c.m) ∈ csD 0 l := c1 k _ (m2 k c hk).1 hc
      cases hx : exempt (csD 0 l) (k + 1) i d.m with
      | false =>
        left
        rw [hcs]
        simp only [List.mem_filter, List.mem_cons, List.mem_map]
        exact ⟨.inr ⟨_, hmem, rfl⟩, by simp [hx]⟩
      | true =>
        right
        obtain ⟨j, e, e1, e2, e3⟩ := ex _ i d.m hx
        refine ⟨j, e, e1, e2, ?_⟩
        rcases e3 with ⟨e3, e4⟩ | ⟨e3, e4⟩
        · exact .inl ⟨by omega, e4⟩
        · exact .inr ⟨by omega, e4⟩
  · cases h

theorem inO_ok {d : Nat} : ∀ {l : List Opd}, inO d l = false → ∀ x ∈ l, x ≠ .t d
  | [], _, x, hx => by cases hx
  | .t n :: l, h, x, hx => by
    simp only [inO] at h
    split at h
    · cases h
    · rename_i hb
      rcases List.mem_cons.1 hx with rfl | hx
      · rintro ⟨⟩
        simp at hb
      · exact inO_ok h x hx
  | .v _ :: l, h, x, hx => by
    simp only [inO] at h
    rcases List.mem_cons.1 hx with rfl | hx
    · rintro ⟨⟩
    · exact inO_ok h x hx
theorem looks_ok {o : Ins} {d : Nat} (h : looks o (some d) = false) : (∀ x ∈ iO o.op, x ≠ .t d) ∧ ∀ t b, o.grd = some (t, b) → t ≠ d := by
  simp only [looks] at h
  split at h
  · cases h
  · rename_i h1
    refine ⟨inO_ok h1, fun t b e => ?_⟩
    rw [e] at h
    rintro rfl
    simp at h

/-! ### what comes before -/
theorem one_bit (look : Nat → Nat) (o : Oper) (k : Nat) : (CheckFast.one look o).testBit k = true ↔ ∃ e ∈ o.after, Region.binds .any e = true ∧ (e.on = k ∨ (look e.on).testBit k = true) := by
  unfold CheckFast.one
  rw [← Array.foldl_toList]
  have : ∀ (l : List Edge) (s : Nat), (l.foldl (fun s e => if Region.binds .any e then s ||| 2 ^ e.on ||| look e.on else s) s).testBit k = true ↔ s.testBit k = true ∨ ∃ e ∈ l, Region.binds .any e = true ∧ (e.on = k ∨ (look e.on).testBit k = true) := by
    intro l
    induction l with
    | nil => intro s; simp
    | cons e l ih =>
      intro s
      rw [List.foldl_cons, ih]
      by_cases hb : Region.binds .any e = true
      · simp only [hb, if_true, Nat.testBit_or, Nat.testBit_two_pow, Bool.or_eq_true, decide_eq_true_eq, List.mem_cons, exists_eq_or_imp, true_and]
        constructor
        · rintro (((h | h) | h) | h)
          · exact .inl h
          · exact .inr (.inl (.inl h))
          · exact .inr (.inl (.inr h))
          · exact .inr (.inr h)
        · rintro (h | (h | h) | h)
          · exact .inl (.inl (.inl h))
          · exact .inl (.inl (.inr h))
          · exact .inl (.inr h)
          · exact .inr h
      · simp [hb]
  rw [this]
  simp
end Go.Sim

/- Another order than the written one. -/
namespace Go.Sim
set_option linter.all false
open Go
variable [Rho] [Asm] [SymOK]

theorem rmask_bit {p : List Nat} {m : Nat} : ∀ (n k : Nat), (rmask p m n).testBit k = (decide (k < n) && m.testBit (pm p k))
  | 0, k => by simp [rmask]
  | n + 1, k => by
    have ih := rmask_bit (p := p) (m := m) n k
    simp only [rmask]
    split
    · rename_i h
      show ((rmask p m n) ||| 2 ^ n).testBit k = _
      rw [Nat.testBit_or, ih, Nat.testBit_two_pow]
      by_cases hk : k = n
      · subst hk; simp [h]
      · have e1 : decide (k < n + 1) = decide (k < n) := by simp only [decide_eq_decide]; omega
        have e2 : decide (n = k) = false := by simp only [decide_eq_false_iff_not]; omega
        rw [e1, e2, Bool.or_false]
    · rename_i h
      rw [ih]
      by_cases hk : k = n
      · subst hk; simp [h]
      · have e1 : decide (k < n + 1) = decide (k < n) := by simp only [decide_eq_decide]; omega
        rw [e1]
theorem permL_ok {l : List (Ins × Nat)} {p : List Nat} {n : Nat} : ∀ {r : List Nat} {l' : List (Ins × Nat)}, permL l p n r = some l' → l'.length = r.length ∧ ∀ (k : Nat) (x : Ins × Nat), l'[k]? = some x → ∃ (j : Nat) (a : Ins × Nat), r[k]? = some j ∧ l[j]? = some a ∧ x = (a.1, rmask p a.2 n)
  | [], l', h => by simp only [permL, Option.some.injEq] at h; subst h; exact ⟨rfl, fun k x h => by simp at h⟩
  | j :: r, l', h => by
    simp only [permL] at h
    split at h
    · cases h
    · rename_i a ha
      split at h
      · cases h
      · rename_i s hs
        cases h
        obtain ⟨q1, q2⟩ := permL_ok hs
        refine ⟨by simp [q1], fun k x hk => ?_⟩
        cases k with
        | zero => simp at hk; subst hk; exact ⟨j, a, by simp, ha, rfl⟩
        | succ k => simpa using q2 k x (by simpa using hk)

/-- What is told of an order: where each operation stands (π), and back (σ). -/
structure Laid (l : List (Ins × Nat)) (dl : List DI) (π σ : Nat → Nat) : Prop where
  len : dl.length = l.length
  left : ∀ i, σ (π i) = i
  right : ∀ i, π (σ i) = i
  lt : ∀ i, i < l.length → π i < l.length
  lt' : ∀ i, i < l.length → σ i < l.length
  get : ∀ (i : Nat) (d : DI), dl[i]? = some d → ∃ m, l[π i]? = some (d.io, m) ∧ m < 2 ^ l.length ∧ ∀ k, d.m.testBit k = (decide (k < l.length) && m.testBit (π k))
  told : Told dl

theorem drawP_ok {l : List (Ins × Nat)} {dl : List DI} (h : drawP l = some dl) : ∃ π σ, Laid l dl π σ := by
  unfold drawP at h
  generalize lateA 0 l [] = p at h
  simp only at h
  generalize (List.range l.length).map (fun i => p.findIdx (Nat.beq i)) = q at h
  split at h
  · rename_i l' h1 h2
    simp only [Bool.and_eq_true] at h1
    obtain ⟨hp, hm⟩ := h1
    simp only [permOK, Bool.and_eq_true, List.all_eq_true, List.mem_range] at hp
    obtain ⟨⟨hl1, hl2⟩, hp⟩ := hp
    have hl1 := beqN hl1
    have hl2 := beqN hl2
    obtain ⟨q1, q2⟩ := permL_ok h2
    obtain ⟨d1, d2, told⟩ := drawI_ok h
    have out : ∀ (r : List Nat), r.length = l.length → ∀ i, ¬ i < l.length → pm r i = i := fun r hr i hi => by
      unfold pm
      rw [List.getElem?_eq_none (by omega)]
    have hlen : dl.length = l.length := by rw [d1, q1, hl1]
    refine ⟨pm p, pm q, hlen, fun i => ?_, fun i => ?_, fun i hi => blt_true (hp i hi).1.2, fun i hi => blt_true (hp i hi).2, fun i d hd => ?_, told⟩
    · by_cases hi : i < l.length
      · exact beqN (hp i hi).1.1.1
      · rw [out p hl1 i hi, out q hl2 i hi]
    · by_cases hi : i < l.length
      · exact beqN (hp i hi).1.1.2
      · rw [out q hl2 i hi, out p hl1 i hi]
    · obtain ⟨j, a, e1, e2, e3⟩ := q2 i _ (d2 i d hd)
      simp only [Prod.mk.injEq] at e3
      refine ⟨a.2, ?_, ?_, fun k => ?_⟩
      · unfold pm; rw [e1, e3.1]; exact e2
      · exact blt_true (List.all_eq_true.1 hm a (List.mem_of_getElem? e2))
      · rw [e3.2]; exact rmask_bit _ _
  · cases h
theorem drawA_ok {l : List (Ins × Nat)} {dl : List DI} (h : drawA l = some dl) : ∃ π σ, Laid l dl π σ := by
  unfold drawA at h
  split at h
  · rename_i d hd
    cases h
    obtain ⟨d1, d2, told⟩ := drawI_ok hd
    refine ⟨id, id, d1, fun _ => rfl, fun _ => rfl, fun _ h => h, fun _ h => h, fun i e he => ?_, told⟩
    have hi : i < l.length := by rw [← d1]; exact (List.getElem?_eq_some_iff.1 he).1
    have hlt := told.lt i e he
    refine ⟨e.m, d2 i e he, Nat.lt_of_lt_of_le hlt (Nat.pow_le_pow_right (by omega) (by omega)), fun k => ?_⟩
    by_cases hk : k < l.length
    · simp [hk]
    · have : e.m.testBit k = false := Nat.testBit_lt_two_pow (Nat.lt_of_lt_of_le hlt (Nat.pow_le_pow_right (by omega) (by omega)))
      simp [this]
  · exact drawP_ok h
end Go.Sim

namespace Go.Sim
set_option linter.all false
open Go
variable [Rho] [Asm] [SymOK]

theorem beforeL_ok : ∀ {l : List Oper} {j : Nat} {acc R : List Nat}, CheckFast.beforeL l j acc = R → acc.length = j →
    R.length = j + l.length ∧ (∀ i, i < j → R[i]? = acc.reverse[i]?) ∧ ∀ (i : Nat) (o : Oper), l[i]? = some o → R[j + i]? = some (CheckFast.one (fun x => if x < j + i then R.getD x 0 else 0) o)
  | [], j, acc, R, h, hj => by
    simp only [CheckFast.beforeL] at h
    subst h
    exact ⟨by simp [hj], fun i _ => rfl, fun i o h => by simp at h⟩
  | o :: l, j, acc, R, h, hj => by
    simp only [CheckFast.beforeL, CheckFast.force_eq] at h
    obtain ⟨q1, q2, q3⟩ := beforeL_ok h (by simp [hj])
    have old : ∀ i, i < j → R[i]? = acc.reverse[i]? := fun i hi => by
      rw [q2 i (by omega), List.reverse_cons, List.getElem?_append_left (by simp; omega)]
    refine ⟨by rw [q1]; simp; omega, old, fun i o' hi => ?_⟩
    cases i with
    | zero =>
      simp at hi
      subst hi
      rw [Nat.add_zero, q2 j (by omega), List.reverse_cons, List.getElem?_append_right (by simp; omega)]
      simp only [List.length_reverse, hj, Nat.sub_self, List.getElem?_cons_zero]
      congr 2
      funext x
      split
      · rename_i hx
        rw [List.getD_eq_getElem?_getD, List.getD_eq_getElem?_getD, old x hx, List.getElem?_reverse (by omega)]
        congr 3
        omega
      · rfl
    | succ i =>
      have := q3 i o' (by simpa using hi)
      rw [Nat.add_right_comm] at this
      exact this
theorem before_ok {ops : Array Oper} {bl : List Nat} (h : CheckFast.beforeL ops.toList 0 [] = bl) : bl.length = ops.size ∧ ∀ (i : Nat) (o : Oper) (m : Nat), ops[i]? = some o → bl[i]? = some m →
    (∀ e ∈ o.after, Region.binds .any e = true → m.testBit e.on = true) ∧ ∀ k, m.testBit k = true → ∃ e ∈ o.after, Region.binds .any e = true ∧ (e.on = k ∨ ∃ m', bl[e.on]? = some m' ∧ m'.testBit k = true) := by
  obtain ⟨q1, _, q3⟩ := beforeL_ok h rfl
  refine ⟨by simpa using q1, fun i o m ho hm => ?_⟩
  have h1 := q3 i o (by rw [Array.getElem?_toList]; exact ho)
  rw [Nat.zero_add] at h1
  rw [hm] at h1
  cases h1
  constructor
  · intro e he hb
    rw [one_bit]
    exact ⟨e, he, hb, .inl rfl⟩
  · intro k hk
    rw [one_bit] at hk
    obtain ⟨e, he, hb, hk⟩ := hk
    refine ⟨e, he, hb, hk.imp id fun hk => ?_⟩
    split at hk
    · rw [List.getD_eq_getElem?_getD] at hk
      cases hq : bl[e.on]? with
      | none => rw [hq] at hk; simp at hk
      | some m' => rw [hq] at hk; exact ⟨m', rfl, hk⟩
    · simp at hk
end Go.Sim

namespace Go.Sim
set_option linter.all false
open Go
variable [Rho] [Asm] [SymOK]

section
variable {P : Program} {ι ι' ι'' : Io} {s s' s'' S S' : St} {w w' w'' : World}
/-- Two states of the reckoner that hold the same. -/
structure Like (s s' : St) : Prop where
  get : ∀ b, s'.h.get b = s.h.get b
  n : s'.n = s.n
  bs : s'.bs = s.bs
  ws : s'.ws = s.ws
theorem WR.like (h : WR P ι s w) (e : Like s s') : WR P ι s' w where
  obj := fun b o hb => h.obj b o (by rw [← e.get]; exact hb)
  inj := fun b b' r c c' h1 h2 => h.inj b b' r c c' (by rw [← e.get]; exact h1) (by rw [← e.get]; exact h2)
  bound := h.bound
  dom := fun b r hb => by rw [e.n]; exact h.dom b r hb
  lim := by rw [e.n]; exact h.lim
  bsn := by rw [e.n, e.bs]; exact h.bsn
  wsb := fun b hb => by rw [e.ws] at hb; rw [e.bs]; exact h.wsb b hb
  pin := h.pin
  env := h.env
theorem Po.like (h : Po P ι s w ι' s' w') (e : Like s' s'') : Po P ι s w ι' s'' w' where
  wr0 := h.wr0
  ext := h.ext
  wr := h.wr.like e
  os := h.os
  tape := h.tape
  output := h.output
  size := h.size
  frame := fun k hk hh => h.frame k hk fun b c hb => by have := hh b c hb; rwa [e.ws] at this
  newold := fun b r c h1 h2 h3 => by rw [e.ws]; exact h.newold b r c h1 h2 h3
  newid := h.newid
  inv := fun b hb hw => by rw [e.get]; exact h.inv b hb (by rw [← e.ws]; exact hw)
  dead := fun b hb hg => by rw [e.get]; exact h.dead b hb hg
  bs := e.bs.trans h.bs
  nle := by rw [e.n]; exact h.nle
  wsm := fun b hb => by rw [e.ws]; exact h.wsm b hb
/-- Less is held. -/
theorem WR.less (h : WR P ι S w) (hg : ∀ b o, s.h.get b = some o → S.h.get b = some o) (hn : s.n = S.n) (hbs : s.bs = S.bs) (hws : s.ws = S.ws) : WR P ι s w where
  obj := fun b o hb => h.obj b o (hg b o hb)
  inj := fun b b' r c c' h1 h2 => by
    refine h.inj b b' r c c' ?_ ?_
    · cases hq : s.h.get b with
      | none => exact absurd hq h1
      | some o => rw [hg b o hq]; simp
    · cases hq : s.h.get b' with
      | none => exact absurd hq h2
      | some o => rw [hg b' o hq]; simp
  bound := h.bound
  dom := fun b r hb => by rw [hn]; exact h.dom b r hb
  lim := by rw [hn]; exact h.lim
  bsn := by rw [hn, hbs]; exact h.bsn
  wsb := fun b hb => by rw [hws] at hb; rw [hbs]; exact h.wsb b hb
  pin := h.pin
  env := h.env

/-- Some numbers are kept free. -/
theorem Po.keep (h : WR P ι s w) {n : Nat} (hn : s.n ≤ n) (hl : n ≤ limH) : Po P ι s w ι ⟨s.h, n, s.bs, s.ws⟩ w :=
  ⟨h, .refl _, ⟨h.obj, h.inj, h.bound, fun b r hb => Nat.lt_of_lt_of_le (h.dom b r hb) hn, hl, Nat.le_trans h.bsn hn, h.wsb, h.pin, h.env⟩, rfl, rfl, rfl, Nat.le_refl _, fun _ _ _ => rfl, fun b r c h1 h2 => (by rw [h1] at h2; cases h2), fun b r h1 h2 => (by rw [h1] at h2; cases h2), fun _ _ _ => rfl, fun _ _ h => h, rfl, hn, fun _ h => h⟩

/-- A new block under a number that was kept free. -/
theorem Po.newAt (hp : Po P ι s w ι' s' w') {b c : Nat} {o : LO} {x : Obj} (h1 : s.n ≤ b) (h2 : b < s'.n) (h3 : ι' b = none) (ho : ∀ ι'', Ext ι' ι'' → OR P ι'' c o x) :
    ∃ ι'', ι'' b = some (w'.heap.size, c) ∧ Ext ι' ι'' ∧ (∀ j, j ≠ b → ι'' j = ι' j) ∧ Po P ι s w ι'' ⟨Tr.set DH s'.h b (some o), s'.n, s'.bs, s'.ws⟩ { w' with heap := w'.heap.push x } := by
  have hW := hp.wr
  let ι2 : Io := fun j => if j = b then some (w'.heap.size, c) else ι' j
  have hext : Ext ι' ι2 := fun j r h => by
    show (if j = b then _ else ι' j) = _
    rw [if_neg]
    · exact h
    · rintro rfl; rw [h3] at h; cases h
  have hι : ∀ j r, ι2 j = some r → (j = b ∧ r = (w'.heap.size, c)) ∨ (j ≠ b ∧ ι' j = some r) := fun j r h => by
    have h' : (if j = b then some (w'.heap.size, c) else ι' j) = some r := h
    split at h'
    · rename_i e; cases h'; exact .inl ⟨e, rfl⟩
    · rename_i e; exact .inr ⟨e, h'⟩
  have hg : ∀ j, (Tr.set DH s'.h b (some o)).get j = if j = b then some o else s'.h.get j := fun j => Tr.get_set DH s'.h b (some o) j (lim_le (by have := hW.lim; omega))
  have hpush : ∀ k, k < w'.heap.size → (w'.heap.push x)[k]? = w'.heap[k]? := fun k hk => by
    rw [Array.getElem?_push, if_neg (by omega)]
  have hbs := hp.wr0.bsn
  refine ⟨ι2, by simp [ι2], hext, fun j hj => by simp [ι2, hj], hp.wr0, hp.ext.trans hext, ⟨?_, ?_, ?_, ?_, hW.lim, hW.bsn, hW.wsb, hW.pin.mono hext, hW.env.mono (fun b r c h => (hι b _ h).elim (fun e => .inr (by have := hW.env.top; cases e.2; exact this)) fun e => .inl ⟨b, c, e.2⟩) (by simp) fun k hk _ => hpush k hk⟩, hp.os, hp.tape, hp.output, ?_, ?_, ?_, ?_, ?_, ?_, hp.bs, hp.nle, hp.wsm⟩
  · intro j oj hj
    rw [hg] at hj
    split at hj
    · rename_i e
      subst e
      cases hj
      exact ⟨w'.heap.size, c, x, by simp [ι2], by simp, ho ι2 hext⟩
    · rename_i e
      obtain ⟨r', c', x', q1, q2, q3⟩ := hW.obj j oj hj
      exact ⟨r', c', x', hext _ _ q1, (hpush r' (hW.bound _ _ _ q1)).trans q2, q3.mono hext⟩
  · intro j j' r c1 c2 q1 q2 q3 q4
    rw [hg] at q1 q2
    rcases hι _ _ q3 with ⟨e1, e2⟩ | ⟨e1, e2⟩ <;> rcases hι _ _ q4 with ⟨e3, e4⟩ | ⟨e3, e4⟩
    · rw [e1, e3]
    · have := hW.bound _ _ _ e4
      cases e2
      omega
    · have := hW.bound _ _ _ e2
      cases e4
      omega
    · rw [if_neg e1] at q1
      rw [if_neg e3] at q2
      exact hW.inj j j' r c1 c2 q1 q2 e2 e4
  · intro j r c' h
    rcases hι _ _ h with ⟨e1, e2⟩ | ⟨e1, e2⟩
    · cases e2; simp
    · have := hW.bound _ _ _ e2; simp; omega
  · intro j r h
    rcases hι _ _ h with ⟨e1, e2⟩ | ⟨e1, e2⟩
    · rw [e1]; exact h2
    · exact hW.dom _ _ e2
  · have := hp.size; simp; omega
  · intro k hk hh
    have hk' : k < w'.heap.size := Nat.lt_of_lt_of_le hk hp.size
    exact (hpush k hk').trans (hp.frame k hk hh)
  · intro j r c' q1 q2 q3
    rcases hι _ _ q2 with ⟨e1, e2⟩ | ⟨e1, e2⟩
    · cases e2
      have := hp.size
      omega
    · exact hp.newold j r c' q1 e2 q3
  · intro j r q1 q2
    rcases hι _ _ q2 with ⟨e1, e2⟩ | ⟨e1, e2⟩
    · rw [e1]; exact h1
    · exact hp.newid j r q1 e2
  · intro j hj hw
    show (Tr.set DH s'.h b (some o)).get j = _
    rw [hg, if_neg (by omega)]
    exact hp.inv j hj hw
  · intro j hj e
    show (Tr.set DH s'.h b (some o)).get j = _
    rw [hg, if_neg (by omega)]
    exact hp.dead j hj e

/-- More blocks lie about that are not touched. -/
theorem Po.more (hp : Po P ι s w ι' s' w') (E : Nat → Option LO) (hS : WR P ι S w) (g : ∀ b, S.h.get b = (E b).or (s.h.get b)) (g' : ∀ b, S'.h.get b = (E b).or (s'.h.get b))
    (he : ∀ b, E b ≠ none → s.h.get b = none) (n : S.n = s.n) (n' : S'.n = s'.n) (bs : S.bs = s.bs) (bs' : S'.bs = s'.bs) (ws : S.ws = s.ws) (ws' : S'.ws = s'.ws) : Po P ι S w ι' S' w' := by
  have up : ∀ b, s.h.get b ≠ none → S.h.get b ≠ none := fun b h => by
    rw [g]
    cases hE : E b with
    | none => simpa using h
    | some lo => simp
  have alive : ∀ b lo, E b = some lo → ∃ r c x, ι b = some (r, c) ∧ w.heap[r]? = some x ∧ OR P ι c lo x ∧ (∀ b' c', ι b' = some (r, c') → s.h.get b' = none) := fun b lo hE => by
    obtain ⟨r, c, x, q1, q2, q3⟩ := hS.obj b lo (by rw [g, hE]; rfl)
    refine ⟨r, c, x, q1, q2, q3, fun b' c' hb' => ?_⟩
    cases hq : s.h.get b' with
    | none => rfl
    | some o =>
      have e := hS.inj b b' r c c' (by rw [g, hE]; simp) (up b' (by rw [hq]; simp)) q1 hb'
      subst e
      rw [he b (by rw [hE]; simp)] at hq
      cases hq
  have live' : ∀ b, S'.h.get b ≠ none → E b = none → s'.h.get b ≠ none := fun b h hE => by rw [g', hE] at h; simpa using h
  have apart : ∀ b b' lo r c c', E b = some lo → ι' b = some (r, c) → ι' b' = some (r, c') → s'.h.get b' ≠ none → False := fun b b' lo r c c' hE q1 q2 q3 => by
    obtain ⟨r0, c0, x, p1, p2, p3, p4⟩ := alive b lo hE
    have e := hp.ext _ _ p1
    rw [q1] at e
    cases e
    cases hi : ι b' with
    | none =>
      obtain ⟨b0, c1, e1, l1, _⟩ := hp.newold b' r c' hi q2 (hS.bound _ _ _ p1)
      exact l1 (p4 b0 c1 e1)
    | some y =>
      have e := hp.ext _ _ hi
      rw [q2] at e
      cases e
      exact q3 (hp.dead b' (hp.wr0.dom _ _ hi) (p4 b' c' hi))
  refine ⟨hS, hp.ext, ⟨?_, ?_, hp.wr.bound, ?_, ?_, ?_, ?_, hp.wr.pin, hp.wr.env⟩, hp.os, hp.tape, hp.output, hp.size, ?_, ?_, ?_, ?_, ?_, ?_, ?_, ?_⟩
  · intro b o hb'
    cases hE : E b with
    | none =>
      rw [g', hE] at hb'
      exact hp.wr.obj b o (by simpa using hb')
    | some lo =>
      rw [g', hE] at hb'
      cases hb'
      obtain ⟨r, c, x, p1, p2, p3, p4⟩ := alive b _ hE
      refine ⟨r, c, x, hp.ext _ _ p1, ?_, p3.mono hp.ext⟩
      rw [hp.frame r (hS.bound _ _ _ p1) fun b' c' hb' => .inl (p4 b' c' hb')]
      exact p2
  · intro b b' r c c' q1 q2 q3 q4
    cases hE : E b with
    | none =>
      cases hE' : E b' with
      | none => exact hp.wr.inj b b' r c c' (live' b q1 hE) (live' b' q2 hE') q3 q4
      | some lo' => exact (apart b' b lo' r c' c hE' q4 q3 (live' b q1 hE)).elim
    | some lo =>
      cases hE' : E b' with
      | none => exact (apart b b' lo r c c' hE q3 q4 (live' b' q2 hE')).elim
      | some lo' =>
        obtain ⟨r1, c1, x1, p1, _⟩ := alive b lo hE
        obtain ⟨r2, c2, x2, p2, _⟩ := alive b' lo' hE'
        have e1 := hp.ext _ _ p1
        have e2 := hp.ext _ _ p2
        rw [q3] at e1
        rw [q4] at e2
        cases e1
        cases e2
        exact hS.inj b b' r c c' (by rw [g, hE]; simp) (by rw [g, hE']; simp) p1 p2
  · intro b r h; rw [n']; exact hp.wr.dom b r h
  · rw [n']; exact hp.wr.lim
  · rw [n', bs']; exact hp.wr.bsn
  · intro b h; rw [ws'] at h; rw [bs']; exact hp.wr.wsb b h
  · intro k hk hh
    refine hp.frame k hk fun b c h => ?_
    rcases hh b c h with e | ⟨e1, e2⟩
    · left
      cases hq : s.h.get b with
      | none => rfl
      | some o => exact absurd e (up b (by rw [hq]; simp))
    · right
      rw [bs] at e1
      rw [ws'] at e2
      exact ⟨e1, e2⟩
  · intro b r c q1 q2 q3
    obtain ⟨b0, c0, e1, e2, e3⟩ := hp.newold b r c q1 q2 q3
    exact ⟨b0, c0, e1, up b0 e2, by rw [bs, ws']; exact e3⟩
  · intro b r q1 q2; rw [n]; exact hp.newid b r q1 q2
  · intro b h1 h2
    rw [g', g]
    cases hE : E b with
    | some lo => rfl
    | none =>
      simp only [Option.none_or]
      exact hp.inv b (by rw [← bs]; exact h1) (by rw [← ws']; exact h2)
  · intro b h1 h2
    rw [g] at h2
    rw [g']
    cases hE : E b with
    | some lo => rw [hE] at h2; cases h2
    | none =>
      rw [hE] at h2
      simp only [Option.none_or] at h2 ⊢
      exact hp.dead b (by rw [← n]; exact h1) h2
  · rw [bs', bs]; exact hp.bs
  · rw [n, n']; exact hp.nle
  · intro b h; rw [ws] at h; rw [ws']; exact hp.wsm b h
end
end Go.Sim

namespace Go.Sim
set_option linter.all false
open Go
variable [Rho] [Asm] [SymOK]

/-- A region was gone through in its written order. -/
structure Run (call : Value → List Value → St → Option (Value × St)) (n0 k : Nat) (dl : List DI) (Tf : Nat → Tm) (Hf : Nat → St) (V : Nat → Value) (L : Nat → Option LO) : Prop where
  step : ∀ (i : Nat) (d : DI), dl[i]? = some d → stepD call (n0 + (k + i)) d.io (Tf i) (Hf i) = some (V i, Hf (i + 1), L i)
  put : ∀ (i : Nat) (d : DI), dl[i]? = some d → Tf (i + 1) = match d.io.dst with
    | none => Tf i
    | some t => tput (Tf i) t (V i)

theorem evD_ok {call : Value → List Value → St → Option (Value × St)} {n0 : Nat} : ∀ {dl : List DI} {k : Nat} {T T2 : Tm} {s s2 : St} {rs : List DR}, evD call n0 k dl T s = some (rs, T2, s2) →
    ∃ Tf Hf V L, Run call n0 k dl Tf Hf V L ∧ Tf 0 = T ∧ Hf 0 = s ∧ Tf dl.length = T2 ∧ Hf dl.length = s2 ∧ rs.length = dl.length ∧ ∀ (i : Nat) (r : DR), rs[i]? = some r → r.T = Tf i ∧ r.s = Hf i ∧ r.v = V i
  | [], k, T, T2, s, s2, rs, h => by
    simp only [evD, Option.some.injEq, Prod.mk.injEq] at h
    obtain ⟨rfl, rfl, rfl⟩ := h
    exact ⟨fun _ => T, fun _ => s, fun _ => .tuple #[], fun _ => none, ⟨fun i d h => by simp at h, fun i d h => by simp at h⟩, rfl, rfl, rfl, rfl, rfl, fun i r h => by simp at h⟩
  | d :: l, k, T, T2, s, s2, rs, h => by
    simp only [evD] at h
    split at h
    · cases h
    · rename_i v s1 lo h1
      rw [force_eq] at h
      have h2 : ∃ T1, (T1 = match d.io.dst with
          | none => T
          | some t => tput T t v) ∧ (match evD call n0 (k + 1) l T1 s1 with
          | none => none
          | some (rs, T2, s2) => some (⟨T, s, v, lo⟩ :: rs, T2, s2)) = some (rs, T2, s2) := by
        cases hd : d.io.dst with
        | none => rw [hd] at h; exact ⟨T, rfl, h⟩
        | some t => rw [hd] at h; simp only [putD, Tr.setK_eq] at h; exact ⟨_, rfl, h⟩
      obtain ⟨T1, e1, h2⟩ := h2
      split at h2
      · cases h2
      · rename_i rs' T2' s2' h3
        cases h2
        obtain ⟨Tf, Hf, V, L, hr, q1, q2, q3, q4, q5, q6⟩ := evD_ok h3
        refine ⟨fun | 0 => T | i + 1 => Tf i, fun | 0 => s | i + 1 => Hf i, fun | 0 => v | i + 1 => V i, fun | 0 => lo | i + 1 => L i, ⟨?_, ?_⟩, rfl, rfl, q3, q4, by simp [q5], ?_⟩
        · intro i d' hi
          cases i with
          | zero =>
            simp at hi
            subst hi
            show stepD call (n0 + (k + 0)) d.io T s = some (v, Hf 0, lo)
            rw [q2]
            exact h1
          | succ i =>
            have := hr.step i d' (by simpa using hi)
            rw [show k + 1 + i = k + (i + 1) by omega] at this
            exact this
        · intro i d' hi
          cases i with
          | zero =>
            simp at hi
            subst hi
            show Tf 0 = _
            rw [q1]
            exact e1
          | succ i => exact hr.put i d' (by simpa using hi)
        · intro i r hi
          cases i with
          | zero => simp at hi; subst hi; exact ⟨rfl, rfl, rfl⟩
          | succ i => exact q6 i r (by simpa using hi)

theorem hAt_ok {h2 : Tr LO} {N : Nat} {Hf : Nat → St} (h : (Hf N).h = h2) : ∀ {rs : List DR} {k : Nat}, k + rs.length = N → (∀ (i : Nat) (r : DR), rs[i]? = some r → r.s = Hf (k + i)) → ∀ p, k + p ≤ N → hAt h2 rs p = (Hf (k + p)).h
  | [], k, hk, _, p, hp => by
    have : k + p = N := by simp at hk; omega
    simp only [hAt]
    rw [this, h]
  | r :: rs, k, hk, hr, p, hp => by
    cases p with
    | zero => simp only [hAt]; rw [hr 0 r (by simp)]
    | succ p =>
      simp only [hAt]
      have := hAt_ok h (rs := rs) (k := k + 1) (by simp at hk; omega) (fun i r' hi => by
        have := hr (i + 1) r' (by simpa using hi)
        rw [this]; congr 1; omega) p (by omega)
      rw [this]
      congr 2
      omega
theorem chk_ok {h2 : Tr LO} {all : List DR} {T : Tm} {o : ROp} {v : Value} : ∀ {ps : List Nat}, chk h2 all T o v ps = true → ∀ p ∈ ps, evR T (hAt h2 all p) o = some v
  | [], _, p, hp => by cases hp
  | q :: ps, h, p, hp => by
    simp only [chk] at h
    split at h
    · cases h
    · rename_i v' hv
      split at h
      · rename_i he
        rcases List.mem_cons.1 hp with rfl | hp
        · rw [hv, veq_ok _ _ _ he]
        · exact chk_ok h p hp
      · cases h
theorem recheck_ok {h2 : Tr LO} {all : List DR} : ∀ {dl : List DI} {rs : List DR}, recheck h2 all dl rs = true → ∀ (i : Nat) (d : DI) (r : DR) (o : ROp), dl[i]? = some d → rs[i]? = some r → d.io.op = .r o → wanted r.T d.io.grd = true → ∀ p ∈ d.cs, evR r.T (hAt h2 all p) o = some r.v
  | [], _, _, i, d, r, o, hd, _, _, _, _, _ => by simp at hd
  | _ :: _, [], _, i, d, r, o, _, hr, _, _, _, _ => by simp at hr
  | d0 :: l, r0 :: rs, h, i, d, r, o, hd, hr, ho, hw, p, hp => by
    simp only [recheck] at h
    split at h
    · rename_i h1
      cases i with
      | zero =>
        simp at hd hr
        subst hd
        subst hr
        rw [ho, hw] at h1
        exact chk_ok h1 p hp
      | succ i => exact recheck_ok h i d r o (by simpa using hd) (by simpa using hr) ho hw p hp
    · cases h
theorem lenD_ok : ∀ (l : List DI), lenD l = l.length
  | [] => rfl
  | _ :: l => by simp [lenD, lenD_ok l]

theorem stepD_still {call : Value → List Value → St → Option (Value × St)} {b : Nat} {o : Ins} {T : Tm} {s s' : St} {v : Value} {lo : Option LO} (hc : isC o.op = false) (h : stepD call b o T s = some (v, s', lo)) :
    (s' = s ∧ lo = none) ∨ ∃ x, lo = some x ∧ s' = ⟨Tr.set DH s.h b (some x), s.n, s.bs, s.ws⟩ := by
  unfold stepD at h
  split at h
  · split at h
    · cases h; exact .inl ⟨rfl, rfl⟩
    · cases h
  · split at h
    · split at h
      · cases h; exact .inl ⟨rfl, rfl⟩
      · cases h
    · split at h
      · cases h; exact .inl ⟨rfl, rfl⟩
      · cases h
    · split at h
      · rw [Tr.setK_eq] at h; cases h; exact .inr ⟨_, rfl, rfl⟩
      · cases h
    · rename_i ho; rw [ho] at hc; cases hc
    · rename_i ho; rw [ho] at hc; cases hc
end Go.Sim
