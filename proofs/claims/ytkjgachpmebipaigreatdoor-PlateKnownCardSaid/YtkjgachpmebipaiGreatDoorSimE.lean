import Derived.Test.YtkjgachpmebipaiGreatDoorSimD2
/- The plain operations: values out of values. -/
namespace Go.Sim
set_option linter.all false
open Go
variable [Rho] [Asm] [SymOK]

section
variable {P : Program} {ι : Io} {T : Tm} {a : Act}

theorem compX_ok {x : Operand} {y : Opd} (h : compX x = some y) (hT : TR ι T a.tmps) : VR ι (oev T y) (a.eval x) := by
  cases x with
  | tmp t => simp only [compX, Option.some.injEq] at h; subst h; exact hT t
  | const v =>
    simp only [compX] at h
    split at h
    · cases h; exact konst_refl _ _ (by assumption)
    · cases h
  | func f => simp only [compX, Option.some.injEq] at h; subst h; exact .func (fun _ e => by cases e) .nil .nil
  | global g => simp [compX] at h

theorem mapX_ok (hT : TR ι T a.tmps) : ∀ {xs : List Operand} {ys : List Opd}, xs.mapM compX = some ys → LR ι (oevs T ys) (xs.map a.eval) := by
  intro xs
  induction xs with
  | nil => intro ys h; simp at h; subst h; exact .nil
  | cons x xs ih =>
    intro ys h
    simp only [List.mapM_cons, bind, Option.bind] at h
    cases h1 : compX x with
    | none => rw [h1] at h; cases h
    | some y =>
      rw [h1] at h
      simp only at h
      cases h2 : xs.mapM compX with
      | none => rw [h2] at h; cases h
      | some r =>
        rw [h2] at h
        cases h
        exact .cons (compX_ok h1 hT) (ih h2)
theorem compXs_ok {xs : Array Operand} {ys : List Opd} (h : compXs xs = some ys) (hT : TR ι T a.tmps) : LR ι (oevs T ys) (xs.map a.eval).toList := by
  rw [Array.toList_map]; exact mapX_ok hT h

/-- What an operation yields that only reckons. -/
def Yields (P : Program) (ι : Io) (a : Act) (o : Oper) (v : Value) : Prop := ∃ v', VR ι v v' ∧ ∀ w, (execOp a.eval o).run P w = .ok (.value v') w

theorem run_und {t : TypeId} {d : TypeDesc} (h : P.underlying t = some d) (w : World) : (Go.underlying t).run P w = .ok d w := by
  simp [Go.underlying, h]
theorem run_info {t : TypeId} {i : TypeInfo} (h : P.info? t = some i) (w : World) : (Go.typeInfo t).run P w = .ok i w := by
  simp [Go.typeInfo, h]
theorem run_sz {t : TypeId} {n : Nat} (h : szOf P t = some n) (w : World) : (Go.sizeOf t).run P w = .ok n w := by
  unfold szOf at h
  cases hi : P.info? t with
  | none => rw [hi] at h; cases h
  | some i => rw [hi] at h; cases h; simp [Go.sizeOf, run_info hi]
theorem run_agg {t : TypeId} {b : Bool} (h : aggB P t = some b) (w : World) : (Go.isAgg t).run P w = .ok b w := by
  unfold aggB at h
  cases hu : P.underlying t with
  | none => rw [hu] at h; cases h
  | some d =>
    rw [hu] at h
    cases d <;> cases h <;> simp [Go.isAgg, run_und hu]
theorem run_zeroV {t : TypeId} {v : Value} (h : zeroV P t = some v) (w : World) : (Go.zeroValue t).run P w = .ok v w := by
  unfold zeroV at h
  cases hi : P.info? t with
  | none => rw [hi] at h; cases h
  | some i =>
    rw [hi] at h
    cases hz : i.zero with
    | none => simp [hz] at h
    | some z =>
      simp only [Option.bind_some, hz] at h
      split at h
      · cases h; simp [Go.zeroValue, run_info hi, hz]
      · cases h
theorem zeroV_konst {t : TypeId} {v : Value} (h : zeroV P t = some v) : VR ι v v := by
  unfold zeroV at h
  split at h
  · split at h
    · cases h; exact konst_refl _ _ (by assumption)
    · cases h
  · cases h

theorem asBool_run {v : Value} {b : Bool} (h : v = .bool b) (w : World) : (asBool v).run P w = .ok b w := by subst h; rfl
theorem place_inv {v v' : Value} {n : Nat} (h : place v = some n) (hv : VR ι v v') : ∃ k, v' = .int k (n : Int) := by
  unfold place at h
  split at h
  · cases h; cases hv; exact ⟨_, rfl⟩
  · cases h
theorem ltI_eq (x y : Int) : ltI x y = decide (x < y) := by
  unfold ltI
  cases x <;> cases y <;> simp only [] <;> rw [Bool.eq_iff_iff] <;> simp [Nat.blt_eq] <;> omega
theorem leI_eq (x y : Int) : (!decide (y < x)) = decide (x ≤ y) := by
  rw [Bool.eq_iff_iff]; simp
theorem eqI_eq (x y : Int) : eqI x y = (x == y) := by
  unfold eqI
  cases x <;> cases y <;> rw [Bool.eq_iff_iff] <;> simp [Nat.beq_eq] <;> omega
theorem fits_ok {x : Int} (h : fits x = true) : -9223372036854775808 ≤ x ∧ x < 9223372036854775808 := by
  unfold fits at h
  cases x with
  | ofNat n => simp [Nat.blt_eq] at h; have : (Int.ofNat n) = (n : Int) := rfl; omega
  | negSucc n => simp [Nat.blt_eq] at h; omega
theorem wrapF_eq (k : IntKind) (n : Int) : wrapF k n = k.wrap n := by
  unfold wrapF
  cases k <;> try rfl
  simp only []
  split
  · rename_i h
    have := fits_ok h
    exact (IntWalk.i64_in n (by omega)).symm
  · rfl

theorem toU_eq (k : IntKind) (x : Int) : (BitVec.ofInt k.bits x).toNat = toU k x := by
  rw [BitVec.toNat_ofInt]
  have h2 : ((2 ^ k.bits : Nat) : Int) = (twoK k : Int) := by cases k <;> rfl
  have hp : 0 < twoK k := by cases k <;> decide
  have h3 : 2 ^ k.bits = twoK k := by cases k <;> rfl
  rw [h3]
  cases x with
  | ofNat n =>
    show (((n : Int) % (twoK k : Int))).toNat = n % twoK k
    have : (n : Int) % (twoK k : Int) = ((n % twoK k : Nat) : Int) := by simp
    rw [this, Int.toNat_natCast]
  | negSucc n =>
    show ((Int.negSucc n) % (twoK k : Int)).toNat = twoK k - 1 - n % twoK k
    rw [Int.negSucc_emod _ (by omega)]
    have : (n : Int) % (twoK k : Int) = ((n % twoK k : Nat) : Int) := by simp
    rw [this]
    have := Nat.mod_lt n hp
    omega
theorem bitsK_eq (k : IntKind) : bitsK k = k.bits := by cases k <;> rfl
theorem twoK_eq (k : IntKind) : twoK k = 2 ^ k.bits := by cases k <;> rfl
theorem shlI_eq (a : Int) (n : Nat) : shlI a n = a * 2 ^ n := by
  cases a with
  | ofNat m => simp [shlI]
  | negSucc m =>
    simp only [shlI]
    have hp : 0 < 2 ^ n := Nat.pow_pos (by decide)
    have h1 : 1 ≤ (m + 1) * 2 ^ n := Nat.mul_pos (by omega) hp
    show Int.negSucc ((m + 1) * 2 ^ n - 1) = Int.negSucc m * 2 ^ n
    rw [Int.negSucc_eq, Int.negSucc_eq]
    have h2 : (((m + 1) * 2 ^ n - 1 : Nat) : Int) = ((m + 1) * 2 ^ n : Nat) - 1 := by omega
    rw [h2]
    simp only [Int.natCast_mul, Int.natCast_add, Int.natCast_pow]
    simp [Int.neg_mul]
theorem shrI_eq (a : Int) (n : Nat) : shrI a n = a.fdiv (2 ^ n) := by
  have hp : (2 : Int) ^ n = ((2 ^ n : Nat) : Int) := by simp
  rw [hp]
  obtain ⟨m, hm⟩ : ∃ m, 2 ^ n = m + 1 := ⟨2 ^ n - 1, by have : 0 < 2 ^ n := Nat.pow_pos (by decide); omega⟩
  cases a with
  | ofNat k =>
    show Int.ofNat (k / 2 ^ n) = _
    rw [hm]
    cases k <;> simp [Int.fdiv]
  | negSucc k =>
    show Int.negSucc (k / 2 ^ n) = _
    rw [hm]
    rfl
theorem minN_eq (a b : Nat) : minN a b = min a b := by
  unfold minN
  split
  · rename_i h; have := Nat.le_of_ble_eq_true h; omega
  · rename_i h
    have : ¬ a ≤ b := fun h' => by rw [Nat.ble_eq_true_of_le h'] at h; cases h
    omega
theorem binI_run {op : BinOp} {k : IntKind} {x y : Int} {v : Value} (h : binI op k x y = some v) (t : TypeId) (w : World) : (binOp op t (.int k x) (.int k y)).run P w = .ok v w ∧ VR ι v v := by
  cases op <;> simp only [binI] at h <;> first
    | (cases h; done)
    | (cases h; refine ⟨?_, by constructor⟩; simp [binOp, Op.intArith, wrapF_eq]; done)
    | (cases h; refine ⟨?_, by constructor⟩; simp [binOp, Op.intArith, wrapF_eq]; rfl)
    | (cases h; refine ⟨?_, by constructor⟩; simp [binOp, Op.intCmp, eqI_eq, ltI_eq, leI_eq, bne]; done)
    | (cases h; refine ⟨?_, by constructor⟩; simp [binOp, Op.intCmp, eqI_eq, ltI_eq, bne]; rw [← leI_eq]; done)
    | skip
  · split at h
    · cases h
    · rename_i h0
      rw [eqI_eq] at h0
      cases h
      have h0' : y ≠ 0 := by simpa using h0
      exact ⟨by simp [binOp, Op.intDiv, h0', wrapF_eq], by constructor⟩
  · split at h
    · cases h
    · rename_i h0
      rw [eqI_eq] at h0
      cases h
      have h0' : y ≠ 0 := by simpa using h0
      exact ⟨by simp [binOp, Op.intDiv, h0'], by constructor⟩
  · cases h
    refine ⟨?_, by constructor⟩
    simp only [binOp, Op.intBits, wrapF_eq, BitVec.toNat_and, toU_eq, ne_eq, not_true_eq_false, if_false, Sem.run_pure]
    rfl
  · cases h
    refine ⟨?_, by constructor⟩
    simp only [binOp, Op.intBits, wrapF_eq, BitVec.toNat_or, toU_eq, ne_eq, not_true_eq_false, if_false, Sem.run_pure]
    rfl
  · cases h
    refine ⟨?_, by constructor⟩
    simp only [binOp, Op.intBits, wrapF_eq, BitVec.toNat_xor, toU_eq, ne_eq, not_true_eq_false, if_false, Sem.run_pure]
    rfl
  · cases h
    refine ⟨?_, by constructor⟩
    simp only [binOp, Op.intBits, wrapF_eq, BitVec.toNat_and, BitVec.toNat_not, toU_eq, twoK_eq, ne_eq, not_true_eq_false, if_false, Sem.run_pure]
    rfl

/-- The step of an operation that only reckons. -/
theorem yields_of {o : Oper} {v v' : Value} (hv : VR ι v v') (h : ∀ w, (execOp a.eval o).run P w = .ok (.value v') w) : Yields P ι a o v := ⟨v', hv, h⟩

theorem same1_ok {v u v' u' : Value} {b : Bool} (h : same1 v u = some b) (hv : VR ι v v') (hu : VR ι u u') : v' = v ∧ u' = u := by
  unfold same1 at h
  split at h
  · cases hv; cases hu; exact ⟨rfl, rfl⟩
  · cases h

theorem maxL_ok : ∀ {l : List Value} {v r : Value}, maxL v l = some r → ∀ {l' : List Value}, LR ι l l' → (∀ w, (l'.foldlM Builtin.max2 v : Sem Value).run P w = .ok r w) ∧ ((∃ k n, v = .int k n) → VR ι r r) := by
  intro l
  induction l with
  | nil =>
    intro v r h l' hl
    cases hl
    simp only [maxL, Option.some.injEq] at h
    subst h
    exact ⟨fun w => by simp, fun ⟨k, n, e⟩ => by subst e; exact .int k n⟩
  | cons x l ih =>
    intro v r h l' hl
    cases hl with
    | cons hx hl =>
      simp only [maxL] at h
      split at h
      · rename_i k p k2 q
        cases hx
        split at h <;> rename_i hlt
        · obtain ⟨h1, h2⟩ := ih h hl
          rw [ltI_eq] at hlt
          have hlt' : p < q := by simpa using hlt
          refine ⟨fun w => ?_, fun _ => h2 ⟨_, _, rfl⟩⟩
          simp only [List.foldlM_cons, Builtin.max2, Sem.run_bind, Sem.run_pure, Result.andThen_ok]
          rw [if_pos (show q > p from hlt')]
          exact h1 w
        · obtain ⟨h1, h2⟩ := ih h hl
          rw [ltI_eq] at hlt
          have hlt' : ¬ p < q := by simpa using hlt
          refine ⟨fun w => ?_, fun _ => h2 ⟨_, _, rfl⟩⟩
          simp only [List.foldlM_cons, Builtin.max2, Sem.run_bind, Sem.run_pure, Result.andThen_ok]
          rw [if_neg (show ¬ q > p from hlt')]
          exact h1 w
      · cases h
theorem minL_ok : ∀ {l : List Value} {v r : Value}, minL v l = some r → ∀ {l' : List Value}, LR ι l l' → (∀ w, (l'.foldlM Builtin.min2 v : Sem Value).run P w = .ok r w) ∧ ((∃ k n, v = .int k n) → VR ι r r) := by
  intro l
  induction l with
  | nil =>
    intro v r h l' hl
    cases hl
    simp only [minL, Option.some.injEq] at h
    subst h
    exact ⟨fun w => by simp, fun ⟨k, n, e⟩ => by subst e; exact .int k n⟩
  | cons x l ih =>
    intro v r h l' hl
    cases hl with
    | cons hx hl =>
      simp only [minL] at h
      split at h
      · rename_i k p k2 q
        cases hx
        split at h <;> rename_i hlt
        · obtain ⟨h1, h2⟩ := ih h hl
          rw [ltI_eq] at hlt
          have hlt' : q < p := by simpa using hlt
          refine ⟨fun w => ?_, fun _ => h2 ⟨_, _, rfl⟩⟩
          simp only [List.foldlM_cons, Builtin.min2, Sem.run_bind, Sem.run_pure, Result.andThen_ok]
          rw [if_pos hlt']
          exact h1 w
        · obtain ⟨h1, h2⟩ := ih h hl
          rw [ltI_eq] at hlt
          have hlt' : ¬ q < p := by simpa using hlt
          refine ⟨fun w => ?_, fun _ => h2 ⟨_, _, rfl⟩⟩
          simp only [List.foldlM_cons, Builtin.min2, Sem.run_bind, Sem.run_pure, Result.andThen_ok]
          rw [if_neg hlt']
          exact h1 w
      · cases h

theorem maxS_ok {k : IntKind} : ∀ {l : List Value} {v r : Value} {p : Int}, maxS k v l = some r → Den v k p → ∀ {l' : List Value}, LR ι l l' → ∃ n, Den r k n ∧ ∀ w, (l'.foldlM Builtin.max2 (.int k p) : Sem Value).run P w = .ok (.int k n) w := by
  intro l
  induction l with
  | nil =>
    intro v r p h hd l' hl
    cases hl
    simp only [maxS, Option.some.injEq] at h
    subst h
    exact ⟨p, hd, fun w => by simp⟩
  | cons x l ih =>
    intro v r p h hd l' hl
    cases hl with
    | cons hx hl =>
      simp only [maxS] at h
      split at h
      · rename_i k' hk
        split at h
        · rename_i hkk
          have hkk := kindB_eq hkk
          subst hkk
          obtain ⟨q, rfl, dq⟩ := symK_ok hk hx
          obtain ⟨n, hn, hr⟩ := ih h (.max hd dq) hl
          refine ⟨n, hn, fun w => ?_⟩
          rw [← hr w]
          simp only [List.foldlM_cons, Builtin.max2, Sem.run_bind, Sem.run_pure, Result.andThen_ok]
        · cases h
      · cases h
theorem minS_ok {k : IntKind} : ∀ {l : List Value} {v r : Value} {p : Int}, minS k v l = some r → Den v k p → ∀ {l' : List Value}, LR ι l l' → ∃ n, Den r k n ∧ ∀ w, (l'.foldlM Builtin.min2 (.int k p) : Sem Value).run P w = .ok (.int k n) w := by
  intro l
  induction l with
  | nil =>
    intro v r p h hd l' hl
    cases hl
    simp only [minS, Option.some.injEq] at h
    subst h
    exact ⟨p, hd, fun w => by simp⟩
  | cons x l ih =>
    intro v r p h hd l' hl
    cases hl with
    | cons hx hl =>
      simp only [minS] at h
      split at h
      · rename_i k' hk
        split at h
        · rename_i hkk
          have hkk := kindB_eq hkk
          subst hkk
          obtain ⟨q, rfl, dq⟩ := symK_ok hk hx
          obtain ⟨n, hn, hr⟩ := ih h (.min hd dq) hl
          refine ⟨n, hn, fun w => ?_⟩
          rw [← hr w]
          simp only [List.foldlM_cons, Builtin.min2, Sem.run_bind, Sem.run_pure, Result.andThen_ok]
        · cases h
      · cases h
theorem den_VR {v : Value} {k : IntKind} {n : Int} (h : Den v k n) : VR ι v (.int k n) := by
  cases h with
  | lit => exact .int _ _
  | _ => exact .sym (by constructor <;> assumption)

/-- A struct or an array laid out of parts. -/
theorem fill_step {cells : Array Value} {off : Nat} {cs : Array Value} (h : off + cs.size ≤ cells.size) :
    (cs.zipIdx.foldl (fun acc (c, j) => acc.setIfInBounds (off + j) c) cells).toList = cells.toList.take off ++ cs.toList ++ cells.toList.drop (off + cs.size) := by
  obtain ⟨cs⟩ := cs
  obtain ⟨cells⟩ := cells
  simp only [List.size_toArray] at h
  have key : ∀ (l : List Value) (i : Nat) (z : List Value), off + i + l.length ≤ z.length →
      ((l.zipIdx i).foldl (fun (acc : Array Value) (p : Value × Nat) => acc.setIfInBounds (off + p.2) p.1) z.toArray).toList = z.take (off + i) ++ l ++ z.drop (off + i + l.length) := by
    intro l
    induction l with
    | nil => intro i z _; simp
    | cons x l ih =>
      intro i z hz
      simp only [List.length_cons] at hz
      simp only [List.zipIdx_cons, List.foldl_cons, List.setIfInBounds_toArray]
      rw [ih (i + 1) (z.set (off + i) x) (by simp; omega)]
      have e1 : (z.set (off + i) x).take (off + (i + 1)) = z.take (off + i) ++ [x] := by
        rw [List.take_set, show off + (i + 1) = off + i + 1 from by omega, List.take_succ_eq_append_getElem (by omega)]
        rw [List.set_append_right _ _ (by simp; exact Nat.min_le_left _ _)]
        simp
        rw [Nat.min_eq_left (by omega), Nat.sub_self]
        rfl
      have e2 : (z.set (off + i) x).drop (off + (i + 1) + l.length) = z.drop (off + i + (l.length + 1)) := by
        rw [List.drop_set_of_lt (by omega)]
        congr 1
        omega
      rw [e1, e2]
      simp
  have := key cs 0 cells (by simpa using h)
  simpa using this

theorem lay_ok {pl : Nat → Option (Nat × Nat)} (hT : TR ι T a.tmps) : ∀ {l : List (Nat × Operand)} {ps : List (Nat × Nat × Opd)} {z z' r : List Value}, l.mapM (compPart pl) = some ps → lay T z ps = some r → LR ι z z' →
    ∃ r', Instr.fill pl z'.toArray (l.map fun p => (p.1, a.eval p.2)) = some r'.toArray ∧ LR ι r r' := by
  intro l
  induction l with
  | nil =>
    intro ps z z' r hc h hz
    simp at hc
    subst hc
    simp only [lay, Option.some.injEq] at h
    subst h
    exact ⟨z', rfl, hz⟩
  | cons p l ih =>
    intro ps z z' r hc h hz
    obtain ⟨i, x⟩ := p
    simp only [List.mapM_cons, bind, Option.bind] at hc
    cases h1 : compPart pl (i, x) with
    | none => rw [h1] at hc; cases hc
    | some q =>
      rw [h1] at hc
      simp only at hc
      cases h2 : l.mapM (compPart pl) with
      | none => rw [h2] at hc; cases hc
      | some qs =>
        rw [h2] at hc
        cases hc
        unfold compPart at h1
        simp only at h1
        cases hp : pl i with
        | none => rw [hp] at h1; cases h1
        | some on =>
          obtain ⟨off, n⟩ := on
          rw [hp] at h1
          cases hx : compX x with
          | none => rw [hx] at h1; cases h1
          | some y =>
            rw [hx] at h1
            cases h1
            simp only [lay] at h
            have hv := compX_ok hx hT
            have hcs := hv.cells
            cases hb : Nat.beq (len (cellsOf (oev T y))) n with
            | false => rw [hb] at h; cases h
            | true =>
              rw [hb] at h
              simp only at h
              cases ho : over z off (cellsOf (oev T y)) with
              | none => rw [ho] at h; cases h
              | some z1 =>
                rw [ho] at h
                simp only at h
                have hn : (a.eval x).cells.size = n := by
                  have e1 := Nat.eq_of_beq_eq_true hb
                  rw [len_eq, hcs.length] at e1
                  simpa using e1
                obtain ⟨h0, r1, hr1, hl1, he1⟩ := LR.over (tl := []) hz hcs ho
                obtain ⟨r', hf, hr'⟩ := ih h2 h hr1
                refine ⟨r', ?_, hr'⟩
                simp only [List.map_cons, Instr.fill, hp]
                have hle : off + (a.eval x).cells.size ≤ z'.length := by simpa using h0
                rw [if_neg (by simp [hn]; omega)]
                have e3 := fill_step (cells := z'.toArray) (off := off) (cs := (a.eval x).cells) (by simpa using hle)
                have e4 : (Array.foldl (fun cs x_1 => cs.setIfInBounds (off + x_1.snd) x_1.fst) z'.toArray (a.eval x).cells.zipIdx) = r1.toArray := by
                  apply Array.ext'
                  rw [e3]
                  simpa using he1
                rw [← hf]
                congr 1

theorem run_places : ∀ {fs : List Field} {pl : List (Nat × Nat)}, fs.mapM (fun f => match szOf P f.type with
        | some n => some (f.offset, n)
        | none => none) = some pl → ∀ w, (fs.mapM (fun f => (do pure (f.offset, ← sizeOf f.type) : Sem (Nat × Nat)))).run P w = .ok pl w := by
  intro fs
  induction fs with
  | nil => intro pl h w; simp at h; subst h; simp
  | cons f fs ih =>
    intro pl h w
    simp only [List.mapM_cons, bind, Option.bind] at h
    cases h1 : szOf P f.type with
    | none => rw [h1] at h; cases h
    | some n =>
      rw [h1] at h
      simp only at h
      split at h
      · cases h
      · rename_i r h2
        cases h
        simp only [List.mapM_cons, Sem.run_bind, run_sz h1, Result.andThen_ok, Sem.run_pure]
        rw [ih h2]
        rfl

/-- Bounds of a slice expression. -/
theorem cut_ok (sl : Bool) {l top top' m h : Nat} {lo hi : Option Operand} {lo' hi' : Option Opd} (hT : TR ι T a.tmps) (hlo : compO lo = some lo') (hhi : compO hi = some hi') (hc : cut T l top lo' hi' = some (m, h)) (ht : top ≤ top') (w : World) :
    (Instr.sliceBounds sl l top' (lo.map a.eval) (hi.map a.eval) none).run P w = .ok (m, h, top') w ∧ m ≤ h ∧ (h ≤ top ∨ h = l) := by
  have hh : ∀ h0, cutHi T l top hi' = some h0 → (match hi.map a.eval, (none : Option Value) with
        | some v, some _ => Instr.sliceBound v top' .slice3B
        | some v, none => Instr.sliceBound v top' (if sl then .sliceAcap else .sliceAlen)
        | none, none => (pure l : Sem Nat)
        | none, some _ => stuck "Slice: max without high").run P w = .ok h0 w ∧ (h0 ≤ top ∨ h0 = l) := by
    intro h0 e0
    cases hi with
    | none =>
      simp only [compO, Option.some.injEq] at hhi
      subst hhi
      cases e0
      exact ⟨rfl, .inr rfl⟩
    | some x =>
      simp only [compO] at hhi
      cases hx : compX x with
      | none => rw [hx] at hhi; cases hhi
      | some y =>
        rw [hx] at hhi
        cases hhi
        simp only [cutHi] at e0
        cases hp : place (oev T y) with
        | none => rw [hp] at e0; cases e0
        | some h1 =>
          rw [hp] at e0
          simp only at e0
          cases hb : Nat.ble h1 top with
          | false => rw [hb] at e0; cases e0
          | true =>
            rw [hb] at e0
            cases e0
            have hle : h0 ≤ top := Nat.le_of_ble_eq_true hb
            obtain ⟨k, hk⟩ := place_inv hp (compX_ok hx hT)
            refine ⟨?_, .inl hle⟩
            simp only [Option.map_some, hk, Instr.sliceBound, asIntOf, Sem.run_bind, Sem.run_pure, Result.andThen_ok]
            rw [if_pos ⟨by omega, by omega⟩]
            rfl
  have hl : ∀ h0 m0, cutLo T h0 lo' = some m0 → (match lo.map a.eval with
      | some v => Instr.sliceBound v h0 (if (none : Option Value).isSome then .slice3C else .sliceB)
      | none => (pure 0 : Sem Nat)).run P w = .ok m0 w ∧ m0 ≤ h0 := by
    intro h0 m0 e0
    cases lo with
    | none =>
      simp only [compO, Option.some.injEq] at hlo
      subst hlo
      cases e0
      exact ⟨rfl, Nat.zero_le _⟩
    | some x =>
      simp only [compO] at hlo
      cases hx : compX x with
      | none => rw [hx] at hlo; cases hlo
      | some y =>
        rw [hx] at hlo
        cases hlo
        simp only [cutLo] at e0
        cases hp : place (oev T y) with
        | none => rw [hp] at e0; cases e0
        | some h1 =>
          rw [hp] at e0
          simp only at e0
          cases hb : Nat.ble h1 h0 with
          | false => rw [hb] at e0; cases e0
          | true =>
            rw [hb] at e0
            cases e0
            have hle : m0 ≤ h0 := Nat.le_of_ble_eq_true hb
            obtain ⟨k, hk⟩ := place_inv hp (compX_ok hx hT)
            refine ⟨?_, hle⟩
            simp only [Option.map_some, hk, Instr.sliceBound, asIntOf, Sem.run_bind, Sem.run_pure, Result.andThen_ok]
            rw [if_pos ⟨by omega, by omega⟩]
            rfl
  unfold cut at hc
  cases e1 : cutHi T l top hi' with
  | none => rw [e1] at hc; cases hc
  | some h0 =>
    rw [e1] at hc
    simp only at hc
    cases e2 : cutLo T h0 lo' with
    | none => rw [e2] at hc; cases hc
    | some m0 =>
      rw [e2] at hc
      cases hc
      obtain ⟨r1, hb⟩ := hh _ e1
      obtain ⟨r2, hle⟩ := hl _ _ e2
      refine ⟨?_, hle, hb⟩
      cases hi <;> cases lo <;> simp only [Option.map_none, Option.map_some, Sem.run_pure, Result.ok.injEq] at r1 r2 ⊢ <;> simp_all [Instr.sliceBounds]

theorem part_ok {ag : Bool} {t : TypeId} {size off : Nat} {l l' : List Value} {v : Value} (hag : aggB P t = some ag) (hsz : szOf P t = some size) (hl : LR ι l l')
    (he : partL ag l off size = some v) : ∃ v', VR ι v v' ∧ ∀ w, (part t ⟨l'⟩ off).run P w = .ok v' w := by
  cases ag with
  | true =>
    simp only [partL] at he
    cases hs : sub l off size with
    | none => rw [hs] at he; cases he
    | some r =>
      rw [hs] at he
      cases he
      obtain ⟨r', h1, h2, h3, h4⟩ := LR.sub (tl := []) hl hs
      refine ⟨.agg ⟨r'⟩, .agg h1, fun w => ?_⟩
      simp only [part, Sem.run_bind, run_agg hag, Result.andThen_ok, if_true, run_sz hsz, Sem.run_pure]
      congr 2
      apply Array.ext'
      simp only [List.append_nil] at h3
      simp [← h3, List.extract_toArray, List.extract_eq_take_drop]
  | false =>
    simp only [partL] at he
    obtain ⟨v', h1, h2⟩ := LR.nth (tl := []) hl he
    refine ⟨v', h2, fun w => ?_⟩
    have h1' : (⟨l'⟩ : Array Value)[off]? = some v' := by simpa using h1
    simp only [part, Sem.run_bind, run_agg hag, Result.andThen_ok]
    simp [h1']
end
end Go.Sim
