import Derived.Test.YtkjgachpmebipaiGreatDoorSimE
import Derived.Laws.StructEq
import Derived.Laws.Concat
import Derived.Laws.Strings
import Derived.ChangeKeysEq
/- Structs of plain cells, compared. -/
namespace Go.Sim
set_option linter.all false
open Go
variable [Rho] [Asm] [SymOK]
section
variable {P : Program} {ι : Io} {T : Tm} {a : Act}

theorem same1_plain {x y : Value} {b : Bool} (h : same1 x y = some b) : ∃ k p q, x = .int k p ∧ y = .int k q ∧ b = (p == q) := by
  unfold same1 at h
  split at h
  · rename_i k p l q
    split at h
    · rename_i hk
      cases kindB_eq hk
      cases h
      exact ⟨_, _, _, rfl, rfl, eqI_eq _ _⟩
    · cases h
  · cases h

theorem sameL_cons {x y : Value} {l m : List Value} {b : Bool} (h : sameL (x :: l) (y :: m) = some b) : ∃ c, same1 x y = some c ∧ ((c = true ∧ sameL l m = some b) ∨ (c = false ∧ b = false)) := by
  simp only [sameL] at h
  split at h
  · cases h
  · rename_i h1
    exact ⟨true, h1, .inl ⟨rfl, h⟩⟩
  · rename_i h1
    cases h
    exact ⟨false, h1, .inr ⟨rfl, rfl⟩⟩
theorem sameL_append : ∀ {l m : List Value} {l2 m2 : List Value} {b : Bool}, l.length = m.length → sameL (l ++ l2) (m ++ m2) = some b → ∃ c, sameL l m = some c ∧ ((c = true ∧ sameL l2 m2 = some b) ∨ (c = false ∧ b = false))
  | [], [], _, _, b, _, h => ⟨true, rfl, .inl ⟨rfl, h⟩⟩
  | [], _ :: _, _, _, _, h, _ => by simp at h
  | _ :: _, [], _, _, _, h, _ => by simp at h
  | x :: l, y :: m, l2, m2, b, hl, h => by
    obtain ⟨c, h1, h2⟩ := sameL_cons h
    rcases h2 with ⟨rfl, h2⟩ | ⟨rfl, rfl⟩
    · obtain ⟨c2, h3, h4⟩ := sameL_append (by simpa using hl) h2
      exact ⟨c2, by simp only [sameL, h1, h3], h4⟩
    · exact ⟨false, by simp only [sameL, h1], .inr ⟨rfl, rfl⟩⟩
theorem sameL_real : ∀ {l m l' m' : List Value} {b : Bool}, sameL l m = some b → LR ι l l' → LR ι m m' → sameL l' m' = some b
  | [], [], _, _, _, h, hl, hm => by cases hl; cases hm; exact h
  | [], _ :: _, _, _, _, h, _, _ => by simp [sameL] at h
  | _ :: _, [], _, _, _, h, _, _ => by simp [sameL] at h
  | x :: l, y :: m, _, _, b, h, hl, hm => by
    obtain ⟨c, h1, h2⟩ := sameL_cons h
    cases hl with
    | cons hx hl =>
      cases hm with
      | cons hy hm =>
        obtain ⟨e1, e2⟩ := same1_ok h1 hx hy
        rw [e1, e2]
        rcases h2 with ⟨rfl, h2⟩ | ⟨rfl, rfl⟩
        · simp only [sameL, h1, sameL_real h2 hl hm]
        · simp only [sameL, h1]
/-- What is told the same is the same, and all numbers. -/
theorem sameL_true : ∀ {l m : List Value}, sameL l m = some true → m = l ∧ ∀ x ∈ l, ∃ k n, x = .int k n
  | [], [], _ => ⟨rfl, by simp⟩
  | [], _ :: _, h => by simp [sameL] at h
  | _ :: _, [], h => by simp [sameL] at h
  | x :: l, y :: m, h => by
    obtain ⟨c, h1, h2⟩ := sameL_cons h
    rcases h2 with ⟨rfl, h2⟩ | ⟨rfl, h2⟩
    · obtain ⟨k, p, q, rfl, rfl, h3⟩ := same1_plain h1
      have : p = q := by simpa using h3.symm
      subst this
      obtain ⟨e1, e2⟩ := sameL_true h2
      exact ⟨by rw [e1], fun x hx => (List.mem_cons.1 hx).elim (fun e => ⟨_, _, e⟩) (e2 x)⟩
    · cases h2

/-- The value of a type whose cells are l. -/
def Holds (P : Program) (t : TypeId) (l : List Value) (x : Value) : Prop := ∃ b, aggB P t = some b ∧ (if b then x = .agg ⟨l⟩ else l = [x])

theorem part_holds {t : TypeId} {n off : Nat} {l : List Value} (ht : (aggB P t).isSome) (hs : szOf P t = some n) (hn : aggB P t = some false → n = 1) (h : off + n ≤ l.length) (w : World) :
    ∃ x, (part t ⟨l⟩ off).run P w = .ok x w ∧ Holds P t ((l.drop off).take n) x := by
  obtain ⟨b, hb⟩ := Option.isSome_iff_exists.1 ht
  cases b with
  | true =>
    refine ⟨.agg ⟨(l.drop off).take n⟩, ?_, true, hb, rfl⟩
    simp only [part, Sem.run_bind, run_agg hb, Result.andThen_ok, if_true, run_sz hs, Sem.run_pure]
    congr 2
    apply Array.ext'
    simp [List.extract_eq_take_drop]
  | false =>
    have h1 := hn hb
    subst h1
    have hlt : off < l.length := by omega
    refine ⟨l[off], ?_, false, hb, ?_⟩
    · have : (⟨l⟩ : Array Value)[off]? = some l[off] := by simp [hlt]
      simp only [part, Sem.run_bind, run_agg hb, Result.andThen_ok]
      simp [this]
    · simp only [Bool.false_eq_true, if_false]
      rw [List.drop_eq_getElem_cons hlt]
      rfl

theorem eqT_agg : ∀ {d : Nat} {t : TypeId} {n : Nat}, eqT P d t = some n → (aggB P t).isSome ∧ (aggB P t = some false → n = 1)
  | 0, _, _, h => by simp [eqT] at h
  | d + 1, t, n, h => by
    unfold eqT at h
    split at h
    · rename_i k hu; cases h; simp [aggB, hu]
    · rename_i fs hu; simp [aggB, hu]
    · rename_i n e hu; simp [aggB, hu]
    · cases h

theorem eqFs_ok {eq : TypeId → Option Nat} {D : Nat} (ih : ∀ t n, eq t = some n → (aggB P t).isSome ∧ (aggB P t = some false → n = 1) ∧ ∀ l m x y b w, Holds P t l x → Holds P t m y → l.length = n → m.length = n → sameL l m = some b → (Op.equalIn D t x y).run P w = .ok b w) :
    ∀ {fs : List Field} {off n : Nat} {l m : List Value} {b : Bool} {w : World}, eqFs P eq fs off = some n → l.length = n → m.length = n → sameL (l.drop off) (m.drop off) = some b → off ≤ n →
      (Op.eqFields D ⟨l⟩ ⟨m⟩ fs).run P w = .ok b w
  | [], off, n, l, m, b, w, h, hl, hm, hs, _ => by
    simp only [eqFs, Option.some.injEq] at h
    subst h
    rw [List.drop_of_length_le (by omega), List.drop_of_length_le (by omega)] at hs
    simp only [sameL, Option.some.injEq] at hs
    subst hs
    rfl
  | f :: fs, off, n, l, m, b, w, h, hl, hm, hs, hle => by
    simp only [eqFs] at h
    cases he : eq f.type with
    | none => rw [he] at h; cases h
    | some k =>
      rw [he] at h
      simp only at h
      split at h
      · rename_i hc
        obtain ⟨h1, h2, h3⟩ := hc
        obtain ⟨i1, i2, i3⟩ := ih _ _ he
        have hk : off + k ≤ n := by
          have : ∀ {fs : List Field} {o : Nat}, eqFs P eq fs o = some n → o ≤ n := by
            intro fs
            induction fs with
            | nil => intro o h; simp only [eqFs, Option.some.injEq] at h; omega
            | cons f fs ihf =>
              intro o h
              simp only [eqFs] at h
              split at h
              · cases h
              · split at h
                · have := ihf h; omega
                · cases h
          exact this h
        obtain ⟨x, hx, hx2⟩ := part_holds (off := off) (l := l) i1 h3 i2 (by omega) w
        obtain ⟨y, hy, hy2⟩ := part_holds (off := off) (l := m) i1 h3 i2 (by omega) w
        have e1 : l.drop off = (l.drop off).take k ++ l.drop (off + k) := by rw [← List.drop_drop, List.take_append_drop]
        have e2 : m.drop off = (m.drop off).take k ++ m.drop (off + k) := by rw [← List.drop_drop, List.take_append_drop]
        rw [e1, e2] at hs
        obtain ⟨c, hc, hd⟩ := sameL_append (by simp; omega) hs
        have r := i3 _ _ x y c w hx2 hy2 (by simp; omega) (by simp; omega) hc
        simp only [Op.eqFields, h2, ne_eq, not_false_eq_true, if_true, Sem.run_bind, h1, hx, hy, Result.andThen_ok, r, Sem.run_ite]
        rcases hd with ⟨rfl, hd⟩ | ⟨rfl, rfl⟩
        · simp only [Bool.not_true, Bool.false_eq_true, if_false]
          exact eqFs_ok ih h hl hm hd hk
        · rfl
      · cases h

theorem eqItems_ok {e : TypeId} {m D : Nat} (he1 : (aggB P e).isSome) (he2 : aggB P e = some false → m = 1) (hs : szOf P e = some m)
    (ih : ∀ l k x y b w, Holds P e l x → Holds P e k y → l.length = m → k.length = m → sameL l k = some b → (Op.equalIn D e x y).run P w = .ok b w) {n : Nat} {l k : List Value} (hl : l.length = n * m) (hk : k.length = n * m) :
    ∀ (j o : Nat) (b : Bool) (w : World), o + j = n → sameL (l.drop (o * m)) (k.drop (o * m)) = some b → (Op.eqItems D e m ⟨l⟩ ⟨k⟩ (List.range' o j)).run P w = .ok b w
  | 0, o, b, w, ho, h => by
    have : o * m = n * m := by rw [← ho, Nat.add_zero]
    rw [List.drop_of_length_le (by omega), List.drop_of_length_le (by omega)] at h
    simp only [sameL, Option.some.injEq] at h
    subst h
    rfl
  | j + 1, o, b, w, ho, h => by
    have hle : o * m + m ≤ n * m := by
      have : (o + 1) * m ≤ n * m := Nat.mul_le_mul_right m (by omega)
      rw [Nat.add_mul, Nat.one_mul] at this
      exact this
    have hoo : (o + 1) * m = o * m + m := by rw [Nat.add_mul, Nat.one_mul]
    obtain ⟨x, hx, hx2⟩ := part_holds (off := o * m) (l := l) he1 hs he2 (by omega) w
    obtain ⟨y, hy, hy2⟩ := part_holds (off := o * m) (l := k) he1 hs he2 (by omega) w
    have e1 : l.drop (o * m) = (l.drop (o * m)).take m ++ l.drop ((o + 1) * m) := by rw [hoo, ← List.drop_drop, List.take_append_drop]
    have e2 : k.drop (o * m) = (k.drop (o * m)).take m ++ k.drop ((o + 1) * m) := by rw [hoo, ← List.drop_drop, List.take_append_drop]
    rw [e1, e2] at h
    obtain ⟨c, hc, hd⟩ := sameL_append (by simp; omega) h
    have r := ih _ _ x y c w hx2 hy2 (by simp; omega) (by simp; omega) hc
    simp only [List.range'_succ, Op.eqItems, Sem.run_bind, hx, hy, Result.andThen_ok, r, Sem.run_ite]
    rcases hd with ⟨rfl, hd⟩ | ⟨rfl, rfl⟩
    · simp only [Bool.not_true, Bool.false_eq_true, if_false]
      exact eqItems_ok he1 he2 hs ih hl hk j (o + 1) b w (by omega) hd
    · rfl
theorem eqT_ok : ∀ {d : Nat} {t : TypeId} {n : Nat}, eqT P d t = some n → ∀ {D : Nat} {l m : List Value} {x y : Value} {b : Bool} {w : World}, Holds P t l x → Holds P t m y → l.length = n → m.length = n → sameL l m = some b →
    (Op.equalIn (d + D) t x y).run P w = .ok b w
  | 0, _, _, h, _, _, _, _, _, _, _, _, _, _, _, _ => by simp [eqT] at h
  | d + 1, t, n, h, D, l, m, x, y, b, w, hx, hy, hl, hm, hs => by
    unfold eqT at h
    rw [show d + 1 + D = (d + D) + 1 from by omega]
    split at h
    · rename_i k hu
      cases h
      have ha : aggB P t = some false := by simp [aggB, hu]
      obtain ⟨b1, hb1, hx⟩ := hx
      obtain ⟨b2, hb2, hy⟩ := hy
      rw [ha] at hb1 hb2
      cases hb1
      cases hb2
      simp only [Bool.false_eq_true, if_false] at hx hy
      subst hx
      subst hy
      obtain ⟨c, hc, hd⟩ := sameL_cons hs
      obtain ⟨k', p, q, rfl, rfl, e⟩ := same1_plain hc
      have hb : b = (p == q) := by
        rcases hd with ⟨rfl, hd⟩ | ⟨rfl, rfl⟩
        · simp only [sameL, Option.some.injEq] at hd
          rw [← hd, ← e]
        · exact e
      rw [hb]
      exact run_equalIn_int w _ t k' _ p q hu
    · rename_i fs hu
      split at h
      · cases h
      · rename_i hst
        have hf : P.fieldsOf t = fs := by simp [Program.fieldsOf, hu]
        have ha : aggB P t = some true := by simp [aggB, hu]
        obtain ⟨b1, hb1, hx⟩ := hx
        obtain ⟨b2, hb2, hy⟩ := hy
        rw [ha] at hb1 hb2
        cases hb1
        cases hb2
        simp only [if_true] at hx hy
        subst hx
        subst hy
        rw [run_equalIn_struct w _ t _ _ (by rw [hf]; exact hu) (by simpa using hst), hf]
        exact eqFs_ok (fun t n he => ⟨(eqT_agg he).1, (eqT_agg he).2, fun l m x y b w h1 h2 h3 h4 h5 => eqT_ok he h1 h2 h3 h4 h5⟩) h hl hm (by simpa using hs) (Nat.zero_le _)
    · rename_i len e hu
      split at h
      · rename_i m0 he
        split at h
        · rename_i hsz
          cases h
          have ha : aggB P t = some true := by simp [aggB, hu]
          obtain ⟨b1, hb1, hx⟩ := hx
          obtain ⟨b2, hb2, hy⟩ := hy
          rw [ha] at hb1 hb2
          cases hb1
          cases hb2
          simp only [if_true] at hx hy
          subst hx
          subst hy
          have hsz' := hsz
          unfold szOf at hsz'
          cases hi : P.info? e with
          | none => rw [hi] at hsz'; cases hsz'
          | some i =>
            rw [hi] at hsz'
            simp only [Option.map_some, Option.some.injEq] at hsz'
            have hcells : P.cellsOf e = m0 := by simp [Program.cellsOf, hi, hsz']
            rw [run_equalIn_array w _ _ _ hu hi, hcells, List.range_eq_range']
            exact eqItems_ok (eqT_agg he).1 (eqT_agg he).2 hsz (fun l m x y b w h1 h2 h3 h4 h5 => eqT_ok he h1 h2 h3 h4 h5) hl hm len 0 b w (by omega) (by simpa using hs)
        · cases h
      · cases h
    · cases h

theorem blt_true0 {a b : Nat} (h : Nat.blt a b = true) : a < b := by simpa [Nat.blt_eq] using h
theorem VR.boolI {b : Bool} {v : Value} (h : VR ι (.bool b) v) : v = .bool b := by cases h; rfl
theorem VR.intI {k : IntKind} {n : Int} {v : Value} (h : VR ι (.int k n) v) : v = .int k n := by cases h; rfl
theorem VR.strI {s : ByteArray} {v : Value} (h : VR ι (.string s) v) : v = .string s := by cases h; rfl
theorem VR.aggI {l : List Value} {v : Value} (h : VR ι (.agg ⟨l⟩) v) : ∃ l', v = .agg ⟨l'⟩ ∧ LR ι l l' := by cases h; exact ⟨_, rfl, by assumption⟩
theorem VR.tupI {l : List Value} {v : Value} (h : VR ι (.tuple ⟨l⟩) v) : ∃ l', v = .tuple ⟨l'⟩ ∧ LR ι l l' := by cases h; exact ⟨_, rfl, by assumption⟩
theorem VR.ptrI {b o : Nat} {v : Value} (h : VR ι (.pointer (some ⟨b, o, none⟩)) v) : ∃ r c, v = .pointer (some ⟨r, o, none⟩) ∧ ι b = some (r, c) := by cases h; exact ⟨_, _, rfl, by assumption⟩
theorem VR.ptrA {x : Addr} {v : Value} (h : VR ι (.pointer (some x)) v) : ∃ y, v = .pointer (some y) := by cases h; exact ⟨_, rfl⟩
theorem VR.ptr0I {v : Value} (h : VR ι (.pointer none) v) : v = .pointer none := by cases h; rfl
theorem VR.sl0I {n k : Nat} {v : Value} (hk : k < 2 ^ 64) (h : VR ι (.slice none n k) v) : v = .slice none n k := by
  generalize hc : (Value.slice none n k) = x at h
  cases h <;> cases hc
  · omega
  · rfl
theorem VR.slI {b o n k : Nat} {v : Value} (hk : k < 2 ^ 64) (h : VR ι (.slice (some ⟨b, o, none⟩) n k) v) : ∃ r c, v = .slice (some ⟨r, o, none⟩) n k ∧ ι b = some (r, c) := by
  cases h
  · exact ⟨_, _, rfl, by assumption⟩
  · omega
theorem VR.slN {x : Option Addr} {n k : Nat} {v : Value} (h : VR ι (.slice x n k) v) : ∃ y k', v = .slice y n k' := by cases h <;> exact ⟨_, _, rfl⟩
theorem VR.slUI {b o n z : Nat} {v : Value} (h : VR ι (.slice (some ⟨b, o, none⟩) n (2 ^ 64 + z)) v) : ∃ r c k, v = .slice (some ⟨r, o, none⟩) n k ∧ ι b = some (r, c) ∧ n ≤ k ∧ o + k * z = c ∧ 0 < z ∧ z < 2 ^ 64 := by
  generalize hc : 2 ^ 64 + z = cc at h
  cases h with
  | sl hb hk => omega
  | slU hb h1 h2 h3 h4 =>
    have hz := Nat.add_left_cancel hc
    subst hz
    exact ⟨_, _, _, rfl, hb, h1, h2, h3, h4⟩
theorem VR.slB {b o n k : Nat} {v : Value} (h : VR ι (.slice (some ⟨b, o, none⟩) n k) v) : ∃ r c k', v = .slice (some ⟨r, o, none⟩) n k' ∧ ι b = some (r, c) := by cases h <;> exact ⟨_, _, _, rfl, by assumption⟩
theorem VR.mapI {b : Nat} {v : Value} (h : VR ι (.map (some b)) v) : ∃ r c, v = .map (some r) ∧ ι b = some (r, c) := by cases h; exact ⟨_, _, rfl, by assumption⟩
theorem VR.map0I {v : Value} (h : VR ι (.map none) v) : v = .map none := by cases h; rfl
theorem map_ok {x : Option Opd} {g : Opd → POp} {p : POp} (h : x.map g = some p) : ∃ y, x = some y ∧ p = g y := by
  cases x with
  | none => cases h
  | some y => exact ⟨y, rfl, by cases h; rfl⟩

theorem appU_eq : ∀ (l m : List UInt8), appU l m = l ++ m
  | [], m => rfl
  | v :: l, m => by simp [appU, appU_eq l m]
theorem lenU_eq : ∀ (l : List UInt8), lenU l = l.length
  | [] => rfl
  | _ :: l => by simp [lenU, lenU_eq l]
theorem eqU_eq : ∀ (l m : List UInt8), eqU l m = (l == m)
  | [], [] => rfl
  | [], _ :: _ => rfl
  | _ :: _, [] => rfl
  | a :: l, b :: m => by
    simp only [eqU, List.cons_beq_cons]
    split
    · rename_i h
      have := Nat.eq_of_beq_eq_true h
      rw [eqU_eq l m, UInt8.toNat_inj.1 this]
      simp
    · rename_i h
      have := Nat.ne_of_beq_eq_false h
      have hne : a ≠ b := fun e => this (by rw [e])
      simp [hne]
theorem p_str_inv {op : BinOp} {v u r : Value} (h : p_str op v u = some r) : (∃ a b, v = .string ⟨⟨a⟩⟩ ∧ u = .string ⟨⟨b⟩⟩ ∧ strB op a b = some r) ∨ p_sym op v u = some r := by
  unfold p_str at h
  split at h
  · exact .inl ⟨_, _, rfl, rfl, h⟩
  · exact .inr h
theorem strB_run {op : BinOp} {a b : List UInt8} {v : Value} (h : strB op a b = some v) (t : TypeId) (w : World) : (binOp op t (.string ⟨⟨a⟩⟩) (.string ⟨⟨b⟩⟩)).run P w = .ok v w ∧ VR ι v v := by
  have e : ∀ l : List UInt8, (ByteArray.mk ⟨l⟩).toList = l := fun l => ByteArray.toList_mk l
  cases op <;> simp only [strB] at h <;> first | (cases h; done) | skip
  · split at h
    · rename_i hl
      cases h
      refine ⟨?_, .str _⟩
      have hl := Nat.le_of_ble_eq_true hl
      rw [lenU_eq, lenU_eq] at hl
      have hl : a.length + b.length ≤ 1048576 := hl
      rw [binOp_string_add, appU_eq]
      exact run_string_add_lists w a b (by omega) (by omega)
    · cases h
  · cases h
    refine ⟨?_, .bool _⟩
    rw [binOp_string_eql, e, e, eqU_eq]
    rfl
  · cases h
    refine ⟨?_, .bool _⟩
    rw [binOp_string_neq, e, e, eqU_eq]
    rfl

theorem p_sym_run {op : BinOp} {v u v' u' r : Value} (h : p_sym op v u = some r) (hv : VR ι v v') (hu : VR ι u u') (t : TypeId) (x y : Operand) :
    ∃ r', VR ι r r' ∧ ∀ w, (binOp op t v' u').run P w = .ok r' w ∧ (eqGuard op t x y v' u').run P w = .ok () w := by
  unfold p_sym at h
  split at h
  · rename_i k l hk hl
    obtain ⟨p, rfl, dp⟩ := symK_ok hk hv
    obtain ⟨q, rfl, dq⟩ := symK_ok hl hu
    split at h
    · cases h
    · rename_i hkk
      have hkk := kindB_eq hkk
      subst hkk
      have g : ∀ w, (eqGuard op t x y (.int k p) (.int k q)).run P w = .ok () w := fun w => by cases op <;> simp [eqGuard]
      have leq : ∀ a b : Int, (!decide (b < a)) = decide (a ≤ b) := fun a b => by rw [Bool.eq_iff_iff]; simp
      split at h <;> cases h
      · exact ⟨_, .sym (.add dp dq), fun w => ⟨by simp [binOp, Op.intArith], g w⟩⟩
      · exact ⟨_, .sym (.sub dp dq), fun w => ⟨by simp [binOp, Op.intArith], g w⟩⟩
      · exact ⟨_, .sym (.mul dp dq), fun w => ⟨by simp [binOp, Op.intArith], g w⟩⟩
      · exact ⟨_, dec_ok (.eq dp dq), fun w => ⟨by simp [binOp, Op.intCmp], g w⟩⟩
      · exact ⟨_, decNot_ok (.eq dp dq), fun w => ⟨by simp [binOp, Op.intCmp, bne], g w⟩⟩
      · exact ⟨_, dec_ok (.lt dp dq), fun w => ⟨by simp [binOp, Op.intCmp], g w⟩⟩
      · exact ⟨_, dec_ok (.lt dq dp), fun w => ⟨by simp [binOp, Op.intCmp], g w⟩⟩
      · exact ⟨_, decNot_ok (.lt dq dp), fun w => ⟨by simp [binOp, Op.intCmp, leq], g w⟩⟩
      · exact ⟨_, decNot_ok (.lt dp dq), fun w => ⟨by simp [binOp, Op.intCmp, leq], g w⟩⟩
  · cases h

theorem sameX_real {l m l' m' : List Value} {b : Bool} (h : sameX l m = some b) (hl : LR ι l l') (hm : LR ι m m') : sameL l' m' = some b := by
  unfold sameX at h
  split at h
  · rename_i c hc
    cases h
    exact sameL_real hc hl hm
  · exact symL_real h hl hm

theorem evBin_ok {op : BinOp} {t yt : TypeId} {x y : Operand} {x' y' : Opd} {v : Value} {dst : Option Tmp} {ty : TypeId} {pos : String} {after : Array Edge} {guard : Option (Nat × Bool)}
    (hx : compX x = some x') (hy : compX y = some y') (hT : TR ι T a.tmps) (he : evP T (.bin op x' y') = some v) : Yields P ι a ⟨dst, .binOp op t x y yt, ty, pos, after, guard⟩ v := by
  have h1 := compX_ok hx hT
  have h2 := compX_ok hy hT
  simp only [evP, evPd, p_mov, p_pick, p_build, p_bin, p_eqB, p_eqG, p_isNil, p_neg, p_not, p_conv, p_mki, p_mkf, p_fld, p_idxA, p_idxS, p_ext, p_fad, p_iadS, p_iadA, p_slcS, p_slcT, p_slcA, p_lenS, p_lenT, p_lenC, p_max, p_min, p_nilc] at he
  split at he
  · rename_i k p l q e1 e2
    rw [e1] at h1
    rw [e2] at h2
    split at he
    · rename_i hk
      cases kindB_eq hk
      refine ⟨v, (binI_run (P := P) (ι := ι) he t default).2, fun w => ?_⟩
      have r := (binI_run (P := P) (ι := ι) he t w).1
      simp only [execOp, h1.intI, h2.intI, Sem.run_bind]
      have g : (eqGuard op t x y (.int k p) (.int k q)).run P w = .ok () w := by cases op <;> simp [eqGuard]
      rw [g]
      simp only [Result.andThen_ok, r, Sem.run_pure]
    · cases he
  · rcases p_str_inv he with ⟨p, q, e1, e2, he⟩ | he
    case inr =>
      obtain ⟨r', h3, h4⟩ := p_sym_run (P := P) he h1 h2 t x y
      refine ⟨r', h3, fun w => ?_⟩
      simp only [execOp, Sem.run_bind, (h4 w).2, Result.andThen_ok, (h4 w).1, Sem.run_pure]
    rw [e1] at h1
    rw [e2] at h2
    refine ⟨v, (strB_run (P := P) (ι := ι) he t default).2, fun w => ?_⟩
    have r := (strB_run (P := P) (ι := ι) he t w).1
    simp only [execOp, h1.strI, h2.strI, Sem.run_bind]
    have g : (eqGuard op t x y (.string ⟨⟨p⟩⟩) (.string ⟨⟨q⟩⟩)).run P w = .ok () w := by cases op <;> simp [eqGuard]
    rw [g]
    simp only [Result.andThen_ok, r, Sem.run_pure]

section
variable (w : World) (d : Nat) {t e e2 : TypeId} {n m k j : Nat} {b : Option Addr} {c : Addr}
theorem eqn_s0 (hu : P.underlying t = some (.slice e)) : (Op.equalIn (d + 1) t (.slice none n k) (.slice b m j)).run P w = .ok b.isNone w := by simp [Op.equalIn, run_und hu]
theorem eqn_s1 (hu : P.underlying t = some (.slice e)) : (Op.equalIn (d + 1) t (.slice (some c) n k) (.slice none m j)).run P w = .ok false w := by simp [Op.equalIn, run_und hu]
theorem eqn_m0 (hu : P.underlying t = some (.map e e2)) : (Op.equalIn (d + 1) t (.map none) (.map none)).run P w = .ok true w := by simp [Op.equalIn, run_und hu]
theorem eqn_m1 (hu : P.underlying t = some (.map e e2)) : (Op.equalIn (d + 1) t (.map (some n)) (.map none)).run P w = .ok false w := by simp [Op.equalIn, run_und hu]
theorem eqn_f0 {x y : Array TypeId} {z : Bool} (hu : P.underlying t = some (.func x y z)) : (Op.equalIn (d + 1) t .nilFunc .nilFunc).run P w = .ok true w := by simp [Op.equalIn, run_und hu]
theorem eqn_f1 {x y : Array TypeId} {z : Bool} {f : Fn} {xs ys : Array Value} (hu : P.underlying t = some (.func x y z)) : (Op.equalIn (d + 1) t (.func f xs ys) .nilFunc).run P w = .ok false w := by simp [Op.equalIn, run_und hu]
theorem eqn_i0 {x : Array (String × TypeId)} (hu : P.underlying t = some (.interface x)) : (Op.equalIn (d + 1) t .nilIface .nilIface).run P w = .ok true w := by simp [Op.equalIn, run_und hu]
theorem eqn_i1 {x : Array (String × TypeId)} {ti : TypeId} {v : Value} (hu : P.underlying t = some (.interface x)) : (Op.equalIn (d + 1) t (.iface ti v) .nilIface).run P w = .ok false w := by simp [Op.equalIn, run_und hu]
end
theorem nthU_eq : ∀ (l : List UInt8) (j : Nat), nthU l j = l[j]?
  | [], j => by cases j <;> rfl
  | v :: l, 0 => rfl
  | v :: l, j + 1 => by simpa [nthU] using nthU_eq l j
theorem nthU_ok : ∀ {l : List UInt8} {j : Nat} {b : UInt8}, nthU l j = some b → (⟨⟨l⟩⟩ : ByteArray)[j]? = some b := by
  have h : ∀ (l : List UInt8) (j : Nat), nthU l j = l[j]? := by
    intro l
    induction l with
    | nil => intro j; cases j <;> rfl
    | cons v l ih => intro j; cases j with
      | zero => rfl
      | succ j => simpa [nthU] using ih j
  intro l j b hb
  rw [h] at hb
  obtain ⟨hj, e⟩ := List.getElem?_eq_some_iff.1 hb
  have hs : j < (⟨⟨l⟩⟩ : ByteArray).size := hj
  rw [getElem?_pos (⟨⟨l⟩⟩ : ByteArray) j hs]
  exact congrArg some e
theorem dropU_eq : ∀ (l : List UInt8) (n : Nat), dropU l n = l.drop n
  | [], n => by cases n <;> rfl
  | v :: l, 0 => rfl
  | v :: l, n + 1 => dropU_eq l n
theorem takeU_eq : ∀ (l : List UInt8) (n : Nat), takeU l n = l.take n
  | [], n => by cases n <;> rfl
  | v :: l, 0 => rfl
  | v :: l, n + 1 => by simp [takeU, takeU_eq l n]
theorem takeU_ok (l : List UInt8) (m h : Nat) : (⟨⟨takeU (dropU l m) (Nat.sub h m)⟩⟩ : ByteArray) = (⟨⟨l⟩⟩ : ByteArray).extract m h := by
  rw [takeU_eq, dropU_eq]
  apply ByteArray.ext
  rw [ByteArray.data_extract]
  apply Array.ext'
  simp [List.extract_eq_take_drop]
theorem evNil_ok {op : BinOp} {t yt : TypeId} {x y : Operand} {v : Value} {neg : Bool} {d : TypeDesc} {p : POp} {dst : Option Tmp} {ty : TypeId} {pos : String} {after : Array Edge} {guard : Option (Nat × Bool)}
    (hop : op = if neg then .neq else .eql) (hu : P.underlying t = some d) (hc : compN neg d x y = some p) (hT : TR ι T a.tmps) (he : evP T p = some v) : Yields P ι a ⟨dst, .binOp op t x y yt, ty, pos, after, guard⟩ v := by
  unfold compN at hc
  split at hc
  case h_2 => cases hc
  rename_i q x' hq hx
  cases hc
  have h1 := compX_ok hx hT
  have hrun : ∀ b : Bool, (∀ w, (Op.equal t (a.eval x) (a.eval y)).run P w = .ok b w) → (∀ w, (eqGuard op t x y (a.eval x) (a.eval y)).run P w = .ok () w) →
      (∀ w, (binOp op t (a.eval x) (a.eval y)).run P w = ((Op.equal t (a.eval x) (a.eval y)).run P w).andThen fun b w' => .ok (.bool (xor neg b)) w') → Yields P ι a ⟨dst, .binOp op t x y yt, ty, pos, after, guard⟩ (.bool (xor neg b)) := fun b h2 h3 h4 =>
    ⟨_, .bool _, fun w => by simp only [execOp, Sem.run_bind, h3, Result.andThen_ok, h4, h2, Sem.run_pure]⟩
  simp only [evP, evPd, p_isNil] at he
  unfold isNilC at hq
  split at hq <;> cases hq
  · rename_i el n k
    split at he
    all_goals first | (exfalso; omega) | (cases he; done) | skip
    · rename_i n1 k1 e1
      rw [e1] at h1
      split at he
      · rename_i hk
        have hv := h1.sl0I (blt_true0 hk)
        cases he
        refine hrun true (fun w => ?_) (fun w => ?_) (fun w => ?_)
        · rw [hv]; exact eqn_s0 w 9999 hu
        · rw [hv]; subst hop; cases neg <;> simp [Act.eval, eqGuard]
        · rw [hv]; subst hop; cases neg <;> simp [Act.eval, binOp]
      · cases he
    · rename_i ad n1 k1 e1
      rw [e1] at h1
      cases he
      obtain ⟨ad', n', k', hv⟩ : ∃ ad' n' k', a.eval x = .slice (some ad') n' k' := by
        generalize a.eval x = z at h1
        cases h1 <;> exact ⟨_, _, _, rfl⟩
      refine hrun false (fun w => ?_) (fun w => ?_) (fun w => ?_)
      · rw [hv]; exact eqn_s1 w 9999 hu
      · rw [hv]; subst hop; cases neg <;> simp [Act.eval, eqGuard]
      · rw [hv]; subst hop; cases neg <;> simp [Act.eval, binOp]
  · rename_i ky el
    split at he
    all_goals first | (exfalso; omega) | (cases he; done) | skip
    · rename_i e1
      rw [e1] at h1
      have hv := h1.map0I
      cases he
      refine hrun true (fun w => ?_) (fun w => ?_) (fun w => ?_)
      · rw [hv]; exact eqn_m0 w 9999 hu
      · rw [hv]; subst hop; cases neg <;> simp [Act.eval, eqGuard]
      · rw [hv]; subst hop; cases neg <;> simp [Act.eval, binOp]
    · rename_i b e1
      rw [e1] at h1
      obtain ⟨r, c, hv, _⟩ := h1.mapI
      cases he
      refine hrun false (fun w => ?_) (fun w => ?_) (fun w => ?_)
      · rw [hv]; exact eqn_m1 w 9999 hu
      · rw [hv]; subst hop; cases neg <;> simp [Act.eval, eqGuard]
      · rw [hv]; subst hop; cases neg <;> simp [Act.eval, binOp]
  · split at he
    all_goals first | (exfalso; omega) | (cases he; done) | skip
    · rename_i e1
      rw [e1] at h1
      have hv : a.eval x = .nilFunc := by
        generalize a.eval x = z at h1
        cases h1; rfl
      cases he
      refine hrun true (fun w => ?_) (fun w => ?_) (fun w => ?_)
      · rw [hv]; exact eqn_f0 w 9999 hu
      · rw [hv]; subst hop; cases neg <;> simp [Act.eval, eqGuard]
      · rw [hv]; subst hop; cases neg <;> simp [Act.eval, binOp]
    · rename_i f xs ys e1
      rw [e1] at h1
      obtain ⟨f', xs', ys', hv⟩ : ∃ f' xs' ys', a.eval x = .func (.func f') xs' ys' := by
        generalize a.eval x = z at h1
        cases h1; exact ⟨_, _, _, rfl⟩
      cases he
      refine hrun false (fun w => ?_) (fun w => ?_) (fun w => ?_)
      · rw [hv]; exact eqn_f1 w 9999 hu
      · rw [hv]; subst hop; cases neg <;> simp [Act.eval, eqGuard]
      · rw [hv]; subst hop; cases neg <;> simp [Act.eval, binOp]
  · split at he
    all_goals first | (exfalso; omega) | (cases he; done) | skip
    · rename_i e1
      rw [e1] at h1
      have hv : a.eval x = .nilIface := by
        generalize a.eval x = z at h1
        cases h1; rfl
      cases he
      refine hrun true (fun w => ?_) (fun w => ?_) (fun w => ?_)
      · rw [hv]; exact eqn_i0 w 9999 hu
      · rw [hv]; subst hop; cases neg <;> simp [Act.eval, eqGuard]
      · rw [hv]; subst hop; cases neg <;> simp [Act.eval, binOp]
    · rename_i ti vi e1
      rw [e1] at h1
      obtain ⟨ti', v', hv⟩ : ∃ ti' v', a.eval x = .iface ti' v' := by
        generalize a.eval x = z at h1
        cases h1; exact ⟨_, _, rfl⟩
      cases he
      refine hrun false (fun w => ?_) (fun w => ?_) (fun w => ?_)
      · rw [hv]; exact eqn_i1 w 9999 hu
      · rw [hv]; subst hop; cases neg <;> simp [Act.eval, eqGuard]
      · rw [hv]; subst hop; cases neg <;> simp [Act.eval, binOp]
theorem evShf_ok {op : BinOp} {t yt : TypeId} {x y : Operand} {x' y' : Opd} {v : Value} {l : Bool} {dst : Option Tmp} {ty : TypeId} {pos : String} {after : Array Edge} {guard : Option (Nat × Bool)}
    (hop : op = if l then .shl else .shr) (hx : compX x = some x') (hy : compX y = some y') (hT : TR ι T a.tmps) (he : evP T (.shf l x' y') = some v) : Yields P ι a ⟨dst, .binOp op t x y yt, ty, pos, after, guard⟩ v := by
  have h1 := compX_ok hx hT
  have h2 := compX_ok hy hT
  simp only [evP, evPd, p_shf] at he
  split at he
  · rename_i k p n e1 e2
    rw [e1] at h1
    obtain ⟨k2, hk2⟩ := place_inv e2 h2
    subst hop
    have hn : ¬ ((n : Int) < 0) := by omega
    split at he
    · cases he
      refine ⟨_, .int _ _, fun w => ?_⟩
      simp only [execOp, h1.intI, hk2, Sem.run_bind, if_true, eqGuard, binOp, Op.shift, hn, if_false, Int.toNat_natCast, wrapF_eq, shlI_eq, minN_eq, bitsK_eq]
      rfl
    · cases he
      refine ⟨_, .int _ _, fun w => ?_⟩
      simp only [execOp, h1.intI, hk2, Sem.run_bind, Bool.false_eq_true, eqGuard, binOp, Op.shift, hn, if_false, Int.toNat_natCast, shrI_eq, minN_eq, bitsK_eq]
      rfl
  · cases he
theorem evP_ok {o : Oper} {p : POp} {v : Value} (hc : compP P o = some p) (hT : TR ι T a.tmps) (he : evP T p = some v) : Yields P ι a o v := by
  obtain ⟨dst, op, type, pos, after, guard⟩ := o
  cases op <;> simp only [compP] at hc <;> try (cases hc; done)
  case move x =>
    obtain ⟨y, hx, rfl⟩ := map_ok hc
    simp only [evP, evPd, p_mov, p_pick, p_build, p_bin, p_eqB, p_eqG, p_isNil, p_neg, p_not, p_conv, p_mki, p_mkf, p_fld, p_idxA, p_idxS, p_ext, p_fad, p_iadS, p_iadA, p_slcS, p_slcT, p_slcA, p_lenS, p_lenT, p_lenC, p_max, p_min, p_nilc, Option.some.injEq] at he
    subst he
    exact ⟨_, compX_ok hx hT, fun w => rfl⟩
  case assign x =>
    obtain ⟨y, hx, rfl⟩ := map_ok hc
    simp only [evP, evPd, p_mov, p_pick, p_build, p_bin, p_eqB, p_eqG, p_isNil, p_neg, p_not, p_conv, p_mki, p_mkf, p_fld, p_idxA, p_idxS, p_ext, p_fad, p_iadS, p_iadA, p_slcS, p_slcT, p_slcA, p_lenS, p_lenT, p_lenC, p_max, p_min, p_nilc, Option.some.injEq] at he
    subst he
    exact ⟨_, compX_ok hx hT, fun w => rfl⟩
  case pick c x y =>
    simp only [bind, Option.bind_eq_some_iff, Option.some.injEq] at hc
    obtain ⟨c', hc', x', hx', y', hy', rfl⟩ := hc
    have h1 := compX_ok hc' hT
    have h2 := compX_ok hx' hT
    have h3 := compX_ok hy' hT
    simp only [evP, evPd, p_mov, p_pick, p_build, p_bin, p_eqB, p_eqG, p_isNil, p_neg, p_not, p_conv, p_mki, p_mkf, p_fld, p_idxA, p_idxS, p_ext, p_fad, p_iadS, p_iadA, p_slcS, p_slcT, p_slcA, p_lenS, p_lenT, p_lenC, p_max, p_min, p_nilc] at he
    split at he
    · rename_i hb
      rw [hb] at h1
      cases he
      exact ⟨_, h2, fun w => by simp [execOp, h1.boolI, asBool]⟩
    · rename_i hb
      rw [hb] at h1
      cases he
      exact ⟨_, h3, fun w => by simp [execOp, h1.boolI, asBool]⟩
    · cases he
  case build t parts =>
    simp only [bind, Option.bind_eq_some_iff] at hc
    obtain ⟨z, hz, hc⟩ := hc
    split at hc
    · rename_i fs hu
      split at hc
      · rename_i pl hpl
        split at hc
        · rename_i ps hps
          cases hc
          simp only [evP, evPd, p_mov, p_pick, p_build, p_bin, p_eqB, p_eqG, p_isNil, p_neg, p_not, p_conv, p_mki, p_mkf, p_fld, p_idxA, p_idxS, p_ext, p_fad, p_iadS, p_iadA, p_slcS, p_slcT, p_slcA, p_lenS, p_lenT, p_lenC, p_max, p_min, p_nilc] at he
          split at he
          · rename_i cs hlay
            cases he
            obtain ⟨r', hf, hr⟩ := lay_ok hT hps hlay (zeroV_konst hz).cells
            refine ⟨.agg ⟨r'⟩, .agg hr, fun w => ?_⟩
            simp only [execOp, Instr.build, Sem.run_bind, run_zeroV hz, run_und hu, Result.andThen_ok]
            have hm : (fs.mapM (fun f => (do pure (f.offset, ← sizeOf f.type) : Sem (Nat × Nat)))).run P w = .ok pl.toArray w := by
              rw [Array.mapM_eq_mapM_toList]
              simp only [Sem.run_map, run_places hpl, Result.andThen_ok]
            rw [hm]
            simp only [Result.andThen_ok, Array.toList_map]
            have hf' : Instr.fill (fun x => pl.toArray[x]?) z.cells (parts.toList.map fun p => (p.1, a.eval p.2)) = some r'.toArray := by simpa using hf
            rw [hf']
            rfl
          · cases he
        · cases hc
      · cases hc
    · rename_i len e hu
      split at hc
      · rename_i n hn
        split at hc
        · rename_i ps hps
          cases hc
          simp only [evP, evPd, p_mov, p_pick, p_build, p_bin, p_eqB, p_eqG, p_isNil, p_neg, p_not, p_conv, p_mki, p_mkf, p_fld, p_idxA, p_idxS, p_ext, p_fad, p_iadS, p_iadA, p_slcS, p_slcT, p_slcA, p_lenS, p_lenT, p_lenC, p_max, p_min, p_nilc] at he
          split at he
          · rename_i cs hlay
            cases he
            obtain ⟨r', hf, hr⟩ := lay_ok hT hps hlay (zeroV_konst hz).cells
            refine ⟨.agg ⟨r'⟩, .agg hr, fun w => ?_⟩
            simp only [execOp, Instr.build, Sem.run_bind, run_zeroV hz, run_und hu, run_sz hn, Result.andThen_ok, Array.toList_map]
            have hf' : Instr.fill (fun i => some (i * n, n)) z.cells (parts.toList.map fun p => (p.1, a.eval p.2)) = some r'.toArray := by simpa using hf
            rw [hf']
            rfl
          · cases he
        · cases hc
      · cases hc
    · cases hc
  case binOp op t x y yt =>
    have hB : ∀ (x' y' : Opd) (neg : Bool), P.underlying t = some .bool → compX x = some x' → compX y = some y' → evP T (.eqB neg x' y') = some v → (∀ (p q : Bool) w, (binOp op t (.bool p) (.bool q)).run P w = .ok (.bool (xor neg (p == q))) w) →
        (∀ (p q : Bool) w, (eqGuard op t x y (.bool p) (.bool q)).run P w = .ok () w) → Yields P ι a ⟨dst, .binOp op t x y yt, type, pos, after, guard⟩ v := by
      intro x' y' neg hu hx hy he hr hg
      have h1 := compX_ok hx hT
      have h2 := compX_ok hy hT
      simp only [evP, evPd, p_mov, p_pick, p_build, p_bin, p_eqB, p_eqG, p_isNil, p_neg, p_not, p_conv, p_mki, p_mkf, p_fld, p_idxA, p_idxS, p_ext, p_fad, p_iadS, p_iadA, p_slcS, p_slcT, p_slcA, p_lenS, p_lenT, p_lenC, p_max, p_min, p_nilc] at he
      split at he
      · rename_i p q e1 e2
        rw [e1] at h1
        rw [e2] at h2
        cases he
        exact ⟨_, .bool _, fun w => by simp only [execOp, h1.boolI, h2.boolI, Sem.run_bind, hg, hr, Result.andThen_ok, Sem.run_pure]⟩
      · split at he
        · rename_i s1 s2
          obtain ⟨p, ep, dp⟩ := symBv_ok s1 h1
          obtain ⟨q, eq_, dq⟩ := symBv_ok s2 h2
          have hx : DenB (nd 24 (oev T x') [oev T y']) (p ^^ q) := .xor dp dq
          have hrun : ∀ w, (execOp a.eval ⟨dst, .binOp op t x y yt, type, pos, after, guard⟩).run P w = .ok (.value (.bool (Bool.xor neg (p == q)))) w := fun w => by
            simp only [execOp, ep, eq_, Sem.run_bind, hg, hr, Result.andThen_ok, Sem.run_pure]
          split at he
          · cases he
            refine ⟨_, dec_ok hx, fun w => ?_⟩
            rw [hrun w]
            cases p <;> cases q <;> rfl
          · cases he
            refine ⟨_, decNot_ok hx, fun w => ?_⟩
            rw [hrun w]
            cases p <;> cases q <;> rfl
        · cases he
    have hS : ∀ (x' y' : Opd) (n : Nat) (neg : Bool), eqT P 6 t = some n → aggB P t = some true → P.eqGuardType P.depth t = false → compX x = some x' → compX y = some y' → evP T (.eqG neg n x' y') = some v →
        (∀ (p q : Array Value) (b : Bool) w, (Op.equalIn 10000 t (.agg p) (.agg q)).run P w = .ok b w → (binOp op t (.agg p) (.agg q)).run P w = .ok (.bool (xor neg b)) w) → Yields P ι a ⟨dst, .binOp op t x y yt, type, pos, after, guard⟩ v := by
      intro x' y' n neg hn hag hgd hx hy he hr
      have h1 := compX_ok hx hT
      have h2 := compX_ok hy hT
      simp only [evP, evPd, p_mov, p_pick, p_build, p_bin, p_eqB, p_eqG, p_isNil, p_neg, p_not, p_conv, p_mki, p_mkf, p_fld, p_idxA, p_idxS, p_ext, p_fad, p_iadS, p_iadA, p_slcS, p_slcT, p_slcA, p_lenS, p_lenT, p_lenC, p_max, p_min, p_nilc] at he
      split at he
      · rename_i l m e1 e2
        rw [e1] at h1
        rw [e2] at h2
        obtain ⟨l', hl1, hl2⟩ := h1.aggI
        obtain ⟨m', hm1, hm2⟩ := h2.aggI
        split at he
        · rename_i hlen hlen2
          split at he
          case h_2 => cases he
          rename_i b hs
          cases he
          refine ⟨_, .bool _, fun w => ?_⟩
          have hln := Nat.eq_of_beq_eq_true hlen
          have hln2 := Nat.eq_of_beq_eq_true hlen2
          rw [len_eq, hl2.length] at hln
          rw [len_eq, hm2.length] at hln2
          have := eqT_ok (D := 9994) (w := w) hn ⟨true, hag, rfl⟩ ⟨true, hag, rfl⟩ hln hln2 (sameX_real hs hl2 hm2)
          simp only [execOp, hl1, hm1, Sem.run_bind, run_eqGuard_agg w op t x y _ _ hgd, Result.andThen_ok, hr _ _ _ w this, Sem.run_pure]
        · cases he
      · cases he
    split at hc
    · rename_i hu
      simp only [bind, Option.bind_eq_some_iff, Option.some.injEq] at hc
      obtain ⟨x', hx, y', hy, rfl⟩ := hc
      exact hB x' y' false hu hx hy he (fun p q w => by simp [binOp, Op.equal, Op.maxDepth, run_equalIn_bool' w _ t p q hu]) (fun p q w => by simp [eqGuard])
    · rename_i hu
      simp only [bind, Option.bind_eq_some_iff, Option.some.injEq] at hc
      obtain ⟨x', hx, y', hy, rfl⟩ := hc
      exact hB x' y' true hu hx hy he (fun p q w => by simp [binOp, Op.equal, Op.maxDepth, run_equalIn_bool' w _ t p q hu]) (fun p q w => by simp [eqGuard])
    · simp only [bind, Option.bind_eq_some_iff, Option.some.injEq] at hc
      obtain ⟨x', hx, y', hy, rfl⟩ := hc
      exact evBin_ok hx hy hT he
    · simp only [bind, Option.bind_eq_some_iff, Option.some.injEq] at hc
      obtain ⟨x', hx, y', hy, rfl⟩ := hc
      exact evBin_ok hx hy hT he
    · simp only [bind, Option.bind_eq_some_iff, Option.some.injEq] at hc
      obtain ⟨x', hx, y', hy, rfl⟩ := hc
      exact evBin_ok hx hy hT he
    · simp only [bind, Option.bind_eq_some_iff, Option.some.injEq] at hc
      obtain ⟨x', hx, y', hy, rfl⟩ := hc
      exact evBin_ok hx hy hT he
    · rename_i fs hu
      have hag : aggB P t = some true := by simp [aggB, hu]
      split at hc
      · rename_i n x' y' hn hx hy
        split at hc
        · cases hc
        · rename_i hgd
          cases hc
          exact hS x' y' n false hn hag (by simpa using hgd) hx hy he (fun p q b w h => by rw [run_eql_struct, h]; simp)
      · cases hc
    · rename_i fs hu
      have hag : aggB P t = some true := by simp [aggB, hu]
      split at hc
      · rename_i n x' y' hn hx hy
        split at hc
        · cases hc
        · rename_i hgd
          cases hc
          exact hS x' y' n true hn hag (by simpa using hgd) hx hy he (fun p q b w h => by rw [run_neq_struct, h]; simp)
      · cases hc
    · rename_i ln el hu
      have hag : aggB P t = some true := by simp [aggB, hu]
      split at hc
      · rename_i n x' y' hn hx hy
        split at hc
        · cases hc
        · rename_i hgd
          cases hc
          exact hS x' y' n false hn hag (by simpa using hgd) hx hy he (fun p q b w h => by rw [run_eql_struct, h]; simp)
      · cases hc
    · rename_i ln el hu
      have hag : aggB P t = some true := by simp [aggB, hu]
      split at hc
      · rename_i n x' y' hn hx hy
        split at hc
        · cases hc
        · rename_i hgd
          cases hc
          exact hS x' y' n true hn hag (by simpa using hgd) hx hy he (fun p q b w h => by rw [run_neq_struct, h]; simp)
      · cases hc
    · rename_i d _ _ _ _ _ hu
      exact evNil_ok (neg := false) rfl hu hc hT he
    · rename_i d _ _ _ _ _ hu
      exact evNil_ok (neg := true) rfl hu hc hT he
    · cases hc
    · cases hc
    · simp only [bind, Option.bind_eq_some_iff, Option.some.injEq] at hc
      obtain ⟨x', hx, y', hy, rfl⟩ := hc
      exact evShf_ok (l := true) rfl hx hy hT he
    · simp only [bind, Option.bind_eq_some_iff, Option.some.injEq] at hc
      obtain ⟨x', hx, y', hy, rfl⟩ := hc
      exact evShf_ok (l := false) rfl hx hy hT he
    · simp only [bind, Option.bind_eq_some_iff, Option.some.injEq] at hc
      obtain ⟨x', hx, y', hy, rfl⟩ := hc
      exact evBin_ok hx hy hT he
  case unOp op t x =>
    cases op <;> simp only at hc <;> try (cases hc; done)
    · obtain ⟨y, hx, rfl⟩ := map_ok hc
      have h1 := compX_ok hx hT
      simp only [evP, evPd, p_mov, p_pick, p_build, p_bin, p_eqB, p_eqG, p_isNil, p_neg, p_not, p_conv, p_mki, p_mkf, p_fld, p_idxA, p_idxS, p_ext, p_fad, p_iadS, p_iadA, p_slcS, p_slcT, p_slcA, p_lenS, p_lenT, p_lenC, p_max, p_min, p_nilc] at he
      split at he
      · rename_i k n e1
        rw [e1] at h1
        cases he
        refine ⟨_, .int _ _, fun w => ?_⟩
        simp only [execOp, h1.intI, Op.unary, Op.intArith, Sem.run_bind, Sem.run_pure, Result.andThen_ok, wrapF_eq]
        rfl
      · split at he
        · rename_i k hk
          obtain ⟨n, en, dn⟩ := symK_ok hk h1
          cases he
          refine ⟨_, .sym (.sub (.lit k 0) dn), fun w => ?_⟩
          simp only [execOp, en, Op.unary, Op.intArith, Sem.run_bind, Sem.run_pure, Result.andThen_ok]
        · cases he
    · obtain ⟨y, hx, rfl⟩ := map_ok hc
      have h1 := compX_ok hx hT
      simp only [evP, evPd, p_mov, p_pick, p_build, p_bin, p_eqB, p_eqG, p_isNil, p_neg, p_not, p_conv, p_mki, p_mkf, p_fld, p_idxA, p_idxS, p_ext, p_fad, p_iadS, p_iadA, p_slcS, p_slcT, p_slcA, p_lenS, p_lenT, p_lenC, p_max, p_min, p_nilc] at he
      split at he
      · rename_i b e1
        rw [e1] at h1
        cases he
        exact ⟨_, .bool _, fun w => by simp [execOp, h1.boolI, Op.unary]⟩
      · split at he
        · rename_i s1
          obtain ⟨p, ep, dp⟩ := symBv_ok s1 h1
          cases he
          exact ⟨_, .symB (.not dp), fun w => by simp [execOp, ep, Op.unary]⟩
        · cases he
  case convert src dt x =>
    split at hc
    · rename_i d k hs hu
      obtain ⟨y, hx, rfl⟩ := map_ok hc
      have h1 := compX_ok hx hT
      simp only [evP, evPd, p_mov, p_pick, p_build, p_bin, p_eqB, p_eqG, p_isNil, p_neg, p_not, p_conv, p_mki, p_mkf, p_fld, p_idxA, p_idxS, p_ext, p_fad, p_iadS, p_iadA, p_slcS, p_slcT, p_slcA, p_lenS, p_lenT, p_lenC, p_max, p_min, p_nilc] at he
      split at he
      · rename_i k' n e1
        rw [e1] at h1
        cases he
        refine ⟨_, .int _ _, fun w => ?_⟩
        simp only [execOp, Go.convert, h1.intI, Sem.run_bind, run_und hs, run_und hu, Result.andThen_ok, wrapF_eq]
        cases d <;> simp [Conv.intToInt]
      · split at he
        · rename_i l hk
          obtain ⟨n, en, dn⟩ := symK_ok hk h1
          cases he
          refine ⟨_, .sym (.conv dn), fun w => ?_⟩
          simp only [execOp, Go.convert, en, Sem.run_bind, run_und hs, run_und hu, Result.andThen_ok]
          cases d <;> simp [Conv.intToInt]
        · cases he
    · cases hc
  case makeInterface t x =>
    split at hc
    · cases hc
    · cases hc
    · rename_i hn1 hn2
      obtain ⟨y, hx, rfl⟩ := map_ok hc
      have h1 := compX_ok hx hT
      simp only [evP, evPd, p_mov, p_pick, p_build, p_bin, p_eqB, p_eqG, p_isNil, p_neg, p_not, p_conv, p_mki, p_mkf, p_fld, p_idxA, p_idxS, p_ext, p_fad, p_iadS, p_iadA, p_slcS, p_slcT, p_slcA, p_lenS, p_lenT, p_lenC, p_max, p_min, p_nilc, Option.some.injEq] at he
      subst he
      refine ⟨_, .iface t h1, fun w => ?_⟩
      cases hu : P.underlying t with
      | none => exact absurd hu hn2
      | some d =>
        cases d <;> first
          | (exact absurd hu (hn1 _))
          | (simp [execOp, Instr.makeInterface, run_und hu])
  case makeFunc fn xs ys =>
    split at hc
    · cases hc
    · rename_i hn
      simp only [bind, Option.bind_eq_some_iff, Option.some.injEq] at hc
      obtain ⟨xs', hx, ys', hy, rfl⟩ := hc
      simp only [evP, evPd, p_mov, p_pick, p_build, p_bin, p_eqB, p_eqG, p_isNil, p_neg, p_not, p_conv, p_mki, p_mkf, p_fld, p_idxA, p_idxS, p_ext, p_fad, p_iadS, p_iadA, p_slcS, p_slcT, p_slcA, p_lenS, p_lenT, p_lenC, p_max, p_min, p_nilc, Option.some.injEq] at he
      subst he
      refine ⟨.func fn ⟨(xs.map a.eval).toList⟩ ⟨(ys.map a.eval).toList⟩, .func (fun l e => hn l e) (compXs_ok hx hT) (compXs_ok hy hT), fun w => ?_⟩
      simp only [execOp, Instr.makeFunc, Sem.run_bind, Sem.run_pure, Result.andThen_ok]
  case field t x i =>
    split at hc
    · rename_i fs hu
      simp only [bind, Option.bind_eq_some_iff, Option.some.injEq] at hc
      obtain ⟨f, hf, ag, hag, n, hn, x', hx, rfl⟩ := hc
      have h1 := compX_ok hx hT
      simp only [evP, evPd, p_mov, p_pick, p_build, p_bin, p_eqB, p_eqG, p_isNil, p_neg, p_not, p_conv, p_mki, p_mkf, p_fld, p_idxA, p_idxS, p_ext, p_fad, p_iadS, p_iadA, p_slcS, p_slcT, p_slcA, p_lenS, p_lenT, p_lenC, p_max, p_min, p_nilc] at he
      split at he
      · rename_i l e1
        rw [e1] at h1
        obtain ⟨l', hl1, hl2⟩ := h1.aggI
        obtain ⟨v', hv, hr⟩ := part_ok hag hn hl2 he
        refine ⟨v', hv, fun w => ?_⟩
        simp [execOp, Instr.field, run_und hu, hf, hl1, asAgg, hr]
      · cases he
    · cases hc
  case index t x i =>
    split at hc
    · rename_i len e hu
      simp only [bind, Option.bind_eq_some_iff, Option.some.injEq] at hc
      obtain ⟨ag, hag, n, hn, x', hx, i', hi, rfl⟩ := hc
      have h1 := compX_ok hx hT
      have h2 := compX_ok hi hT
      simp only [evP, evPd, p_mov, p_pick, p_build, p_bin, p_eqB, p_eqG, p_isNil, p_neg, p_not, p_conv, p_mki, p_mkf, p_fld, p_idxA, p_idxS, p_ext, p_fad, p_iadS, p_iadA, p_slcS, p_slcT, p_slcA, p_lenS, p_lenT, p_lenC, p_max, p_min, p_nilc] at he
      split at he
      · rename_i l j e1 e2
        rw [e1] at h1
        obtain ⟨l', hl1, hl2⟩ := h1.aggI
        obtain ⟨k, hk⟩ := place_inv e2 h2
        split at he
        · cases he
        · rename_i hlt
          have hlt' : j < len := by simpa [Nat.blt_eq] using hlt
          obtain ⟨v', hv, hr⟩ := part_ok hag hn hl2 he
          refine ⟨v', hv, fun w => ?_⟩
          have hr' : (part e ⟨l'⟩ (j * n)).run P w = .ok v' w := hr w
          simp [execOp, Instr.index, run_und hu, hl1, hk, asIntOf, hlt', run_sz hn, hr']
      · cases he
    · rename_i hu
      simp only [bind, Option.bind_eq_some_iff, Option.some.injEq] at hc
      obtain ⟨x', hx, i', hi, rfl⟩ := hc
      have h1 := compX_ok hx hT
      have h2 := compX_ok hi hT
      simp only [evP, evPd, p_idxS] at he
      split at he
      · rename_i l j e1 e2
        rw [e1] at h1
        obtain ⟨k, hk⟩ := place_inv e2 h2
        split at he
        · rename_i b hb
          cases he
          have hg := nthU_ok hb
          refine ⟨_, .int _ _, fun w => ?_⟩
          simp only [execOp, Instr.index, hk, asIntOf, Sem.run_bind, Sem.run_pure, run_und hu, Result.andThen_ok, h1.strI]
          rw [if_pos (by omega : (0 : Int) ≤ (j : Int)), Int.toNat_natCast, hg]
          rfl
        · cases he
      · cases he
    · cases hc
  case extract x i =>
    simp only [bind, Option.bind_eq_some_iff, Option.some.injEq] at hc
    obtain ⟨x', hx, rfl⟩ := hc
    have h1 := compX_ok hx hT
    simp only [evP, evPd, p_mov, p_pick, p_build, p_bin, p_eqB, p_eqG, p_isNil, p_neg, p_not, p_conv, p_mki, p_mkf, p_fld, p_idxA, p_idxS, p_ext, p_fad, p_iadS, p_iadA, p_slcS, p_slcT, p_slcA, p_lenS, p_lenT, p_lenC, p_max, p_min, p_nilc] at he
    split at he
    · rename_i l e1
      rw [e1] at h1
      obtain ⟨l', hl1, hl2⟩ := h1.tupI
      obtain ⟨v', hv, hr⟩ := LR.nth (tl := []) hl2 he
      refine ⟨v', hr, fun w => ?_⟩
      have hv' : (⟨l'⟩ : Array Value)[i]? = some v' := by simpa using hv
      simp [execOp, Instr.extract, hl1, hv']
    · cases he
  case fieldAddr t x i =>
    split at hc
    · rename_i fs hu
      simp only [bind, Option.bind_eq_some_iff] at hc
      obtain ⟨f, hf, n, hn, hc⟩ := hc
      split at hc
      · cases hc
      · rename_i h0
        simp only [Option.bind_eq_some_iff, Option.some.injEq] at hc
        obtain ⟨x', hx, rfl⟩ := hc
        have h1 := compX_ok hx hT
        simp only [evP, evPd, p_mov, p_pick, p_build, p_bin, p_eqB, p_eqG, p_isNil, p_neg, p_not, p_conv, p_mki, p_mkf, p_fld, p_idxA, p_idxS, p_ext, p_fad, p_iadS, p_iadA, p_slcS, p_slcT, p_slcA, p_lenS, p_lenT, p_lenC, p_max, p_min, p_nilc] at he
        split at he
        · rename_i b o e1
          rw [e1] at h1
          cases he
          obtain ⟨r, c, hr, hb⟩ := h1.ptrI
          refine ⟨_, .ptr hb, fun w => ?_⟩
          simp only [execOp, Instr.fieldAt, Sem.run_bind, run_und hu, Result.andThen_ok, hf, hr, Instr.sureAddr, Sem.run_pure, fieldPlace, run_sz hn, if_neg h0]
          by_cases hz : f.offset = 0 <;> simp [Addr.add, hz]
        · cases he
    · cases hc
  case indexAddr t x i =>
    split at hc
    · rename_i len e hu
      simp only [bind, Option.bind_eq_some_iff, Option.some.injEq] at hc
      obtain ⟨n, hn, x', hx, i', hi, rfl⟩ := hc
      have h1 := compX_ok hx hT
      have h2 := compX_ok hi hT
      simp only [evP, evPd, p_mov, p_pick, p_build, p_bin, p_eqB, p_eqG, p_isNil, p_neg, p_not, p_conv, p_mki, p_mkf, p_fld, p_idxA, p_idxS, p_ext, p_fad, p_iadS, p_iadA, p_slcS, p_slcT, p_slcA, p_lenS, p_lenT, p_lenC, p_max, p_min, p_nilc] at he
      split at he
      · rename_i b o j e1 e2
        rw [e1] at h1
        obtain ⟨k, hk⟩ := place_inv e2 h2
        obtain ⟨r, c, hr, hb⟩ := h1.ptrI
        split at he
        · rename_i hlt
          have hlt' : j < len := by simpa [Nat.blt_eq] using hlt
          cases he
          refine ⟨_, .ptr hb, fun w => ?_⟩
          simp only [execOp, Instr.indexAt, Sem.run_bind, run_und hu, Result.andThen_ok, hk, asIntOf, hr, Instr.sureAddr, Sem.run_pure]
          rw [if_pos ⟨by omega, by omega⟩]
          by_cases hz : j * n = 0 <;> simp [Addr.add, hz, run_sz hn]
        · cases he
      · cases he
    · rename_i e hu
      simp only [bind, Option.bind_eq_some_iff, Option.some.injEq] at hc
      obtain ⟨n, hn, x', hx, i', hi, rfl⟩ := hc
      have h1 := compX_ok hx hT
      have h2 := compX_ok hi hT
      simp only [evP, evPd, p_mov, p_pick, p_build, p_bin, p_eqB, p_eqG, p_isNil, p_neg, p_not, p_conv, p_mki, p_mkf, p_fld, p_idxA, p_idxS, p_ext, p_fad, p_iadS, p_iadA, p_slcS, p_slcT, p_slcA, p_lenS, p_lenT, p_lenC, p_max, p_min, p_nilc] at he
      split at he
      · rename_i b o len k0 j e1 e2
        rw [e1] at h1
        obtain ⟨k, hk⟩ := place_inv e2 h2
        obtain ⟨r, c, k', hr, hb⟩ := h1.slB
        split at he
        · rename_i hlt
          have hlt' : j < len := by simpa [Nat.blt_eq] using hlt
          cases he
          refine ⟨_, .ptr hb, fun w => ?_⟩
          simp only [execOp, Instr.indexAt, Sem.run_bind, run_und hu, Result.andThen_ok, hk, asIntOf, hr, Sem.run_pure]
          rw [if_pos ⟨by omega, by omega⟩]
          by_cases hz : j * n = 0 <;> simp [Addr.add, hz, run_sz hn]
        · cases he
      · cases he
    · cases hc
  case slice t x lo hi mx =>
    split at hc
    · rename_i e hu
      simp only [bind, Option.bind_eq_some_iff, Option.some.injEq] at hc
      obtain ⟨n, hn, x', hx, lo', hlo, hi', hhi, rfl⟩ := hc
      have h1 := compX_ok hx hT
      simp only [evP, evPd, p_mov, p_pick, p_build, p_bin, p_eqB, p_eqG, p_isNil, p_neg, p_not, p_conv, p_mki, p_mkf, p_fld, p_idxA, p_idxS, p_ext, p_fad, p_iadS, p_iadA, p_slcS, p_slcT, p_slcA, p_lenS, p_lenT, p_lenC, p_max, p_min, p_nilc] at he
      split at he
      · rename_i ad len k e1
        rw [e1] at h1
        split at he
        · rename_i hk64
          have hk64' : k < 2 ^ 64 := by simpa [Nat.blt_eq] using hk64
          split at he
          · rename_i m h hcut
            obtain ⟨_, hmh, _⟩ := cut_ok (P := P) true hT hlo hhi hcut (Nat.le_refl _) default
            have hrun : ∀ w, (Instr.sliceBounds true len k (lo.map a.eval) (hi.map a.eval) none).run P w = .ok (m, h, k) w := fun w => (cut_ok true hT hlo hhi hcut (Nat.le_refl _) w).1
            cases ad with
            | none =>
              have hv := h1.sl0I hk64'
              have hres : v = .slice none (h - m) (k - m) := by
                split at he
                · cases he; rfl
                · cases he; rfl
              subst hres
              refine ⟨_, .sl0 _ _ (by omega), fun w => ?_⟩
              simp only [execOp, Instr.sliceAt, Instr.slice, Sem.run_bind, run_und hu, Result.andThen_ok, hv, Option.map_none, hrun, run_sz hn, Sem.run_pure]
              split <;> rfl
            | some ad =>
              obtain ⟨b, o, sp⟩ := ad
              cases sp with
              | some s => cases h1
              | none =>
                obtain ⟨r, c, hr', hb⟩ := h1.slI hk64'
                split at he
                · rename_i hkm
                  have hkm' : k = m := Nat.eq_of_beq_eq_true hkm
                  cases he
                  refine ⟨_, .sl hb (show k - m < 2 ^ 64 by omega), fun w => ?_⟩
                  simp only [execOp, Instr.sliceAt, Instr.slice, Sem.run_bind, run_und hu, Result.andThen_ok, hr', Option.map_none, hrun, run_sz hn, Sem.run_pure, if_pos hkm']
                  rfl
                · rename_i hkm
                  have hkm' : ¬ k = m := Nat.ne_of_beq_eq_false hkm
                  cases he
                  refine ⟨_, .sl hb (show k - m < 2 ^ 64 by omega), fun w => ?_⟩
                  simp only [execOp, Instr.sliceAt, Instr.slice, Sem.run_bind, run_und hu, Result.andThen_ok, hr', Option.map_none, hrun, run_sz hn, Sem.run_pure, if_neg hkm', Option.map_some]
                  by_cases hz : m * n = 0 <;> simp [Addr.add, hz]
          · cases he
        · split at he
          · rename_i b o
            split at he
            · rename_i m h hk hcut
              have hk' : k = 2 ^ 64 + n := Nat.eq_of_beq_eq_true hk
              subst hk'
              obtain ⟨r, c, kk, hr', hb, hnk, hc, hz, hz2⟩ := h1.slUI
              obtain ⟨_, hmh, hht⟩ := cut_ok (P := P) true hT hlo hhi hcut hnk default
              have hrun : ∀ w, (Instr.sliceBounds true len kk (lo.map a.eval) (hi.map a.eval) none).run P w = .ok (m, h, kk) w := fun w => (cut_ok true hT hlo hhi hcut hnk w).1
              have hhn : h ≤ len := by omega
              split at he
              · rename_i hmh2
                have e : m = h := Nat.eq_of_beq_eq_true hmh2
                subst e
                cases he
                refine ⟨.slice (some (if kk = m then ⟨r, o, none⟩ else (⟨r, o, none⟩ : Addr).add (m * n))) 0 (kk - m), .slE _ _, fun w => ?_⟩
                simp only [execOp, Instr.sliceAt, Instr.slice, Sem.run_bind, run_und hu, Result.andThen_ok, hr', Option.map_none, hrun, run_sz hn, Sem.run_pure, Nat.sub_self]
                by_cases hkm : kk = m <;> simp [hkm]
              · rename_i hmh2
                have e : m ≠ h := Nat.ne_of_beq_eq_false hmh2
                cases he
                have hlt : m < kk := by omega
                have hmul : m * n + (kk - m) * n = kk * n := by rw [← Nat.add_mul]; congr 1; omega
                refine ⟨_, .slU (o := o + m * n) (k := kk - m) hb (show h - m ≤ kk - m by omega) (by omega) hz hz2, fun w => ?_⟩
                simp only [execOp, Instr.sliceAt, Instr.slice, Sem.run_bind, run_und hu, Result.andThen_ok, hr', Option.map_none, hrun, run_sz hn, Sem.run_pure, if_neg (show ¬ kk = m by omega), Option.map_some]
                by_cases hz : m * n = 0 <;> simp [Addr.add, hz]
            · cases he
          · cases he
      · cases he
    · rename_i hu
      simp only [bind, Option.bind_eq_some_iff, Option.some.injEq] at hc
      obtain ⟨x', hx, lo', hlo, hi', hhi, rfl⟩ := hc
      have h1 := compX_ok hx hT
      simp only [evP, evPd, p_slcT] at he
      split at he
      · rename_i l e1
        rw [e1] at h1
        split at he
        · rename_i m h hcut
          cases he
          have hrun : ∀ w, (Instr.sliceBounds false l.length l.length (lo.map a.eval) (hi.map a.eval) none).run P w = .ok (m, h, l.length) w := fun w => (cut_ok false hT hlo hhi (by rw [lenU_eq] at hcut; exact hcut) (Nat.le_refl _) w).1
          have hsz : (⟨⟨l⟩⟩ : ByteArray).size = l.length := rfl
          refine ⟨_, .str _, fun w => ?_⟩
          simp only [execOp, Instr.sliceAt, Instr.slice, Sem.run_bind, run_und hu, Result.andThen_ok, h1.strI, Option.map_none, Option.isSome_none, Bool.false_eq_true, if_false, Sem.run_pure, hsz, hrun]
          rw [takeU_ok]
        · cases he
      · cases he
    · rename_i len e hu
      simp only [bind, Option.bind_eq_some_iff, Option.some.injEq] at hc
      obtain ⟨n, hn, x', hx, lo', hlo, hi', hhi, rfl⟩ := hc
      have h1 := compX_ok hx hT
      simp only [evP, evPd, p_slcA] at he
      split at he
      · rename_i b o e1
        rw [e1] at h1
        obtain ⟨r, c, hr', hb⟩ := h1.ptrI
        split at he
        · rename_i m h hcut
          have hrun : ∀ w, (Instr.sliceBounds false len len (lo.map a.eval) (hi.map a.eval) none).run P w = .ok (m, h, len) w := fun w => (cut_ok false hT hlo hhi hcut (Nat.le_refl _) w).1
          split at he
          · rename_i hlen
            have hlm : len = m := Nat.eq_of_beq_eq_true hlen
            cases he
            refine ⟨_, .sl hb (show len - m < 2 ^ 64 by omega), fun w => ?_⟩
            simp only [execOp, Instr.sliceAt, Instr.sureAddr, Sem.run_bind, run_und hu, Result.andThen_ok, hr', Option.map_none, hrun, run_sz hn, Sem.run_pure, if_pos hlm]
            rfl
          · rename_i hlen
            have hlm : ¬ len = m := Nat.ne_of_beq_eq_false hlen
            split at he
            · rename_i h64
              cases he
              refine ⟨_, .sl hb (Nat.lt_of_le_of_lt (Nat.sub_le len m) (blt_true0 h64)), fun w => ?_⟩
              simp only [execOp, Instr.sliceAt, Instr.sureAddr, Sem.run_bind, run_und hu, Result.andThen_ok, hr', Option.map_none, hrun, run_sz hn, Sem.run_pure, if_neg hlm]
              by_cases hz : m * n = 0 <;> simp [Addr.add, hz]
            · cases he
        · cases he
      · cases he
    · cases hc
  case nilCheck x =>
    obtain ⟨y, hx, rfl⟩ := map_ok hc
    have h1 := compX_ok hx hT
    simp only [evP, evPd, p_mov, p_pick, p_build, p_bin, p_eqB, p_eqG, p_isNil, p_neg, p_not, p_conv, p_mki, p_mkf, p_fld, p_idxA, p_idxS, p_ext, p_fad, p_iadS, p_iadA, p_slcS, p_slcT, p_slcA, p_lenS, p_lenT, p_lenC, p_max, p_min, p_nilc] at he
    split at he
    · rename_i ad e1
      rw [e1] at h1
      cases he
      obtain ⟨y', hy⟩ := h1.ptrA
      rw [hy] at h1
      exact ⟨_, h1, fun w => by simp only [execOp, hy]; rfl⟩
    · cases he
  case call c =>
    obtain ⟨callee, args, argTypes⟩ := c
    cases callee with
    | value g => cases hc
    | invoke r m => cases hc
    | builtin b =>
      have hres : ∀ w, (execOp a.eval ⟨dst, .call ⟨.builtin b, args, argTypes⟩, type, pos, after, guard⟩).run P w = (builtin b argTypes type (args.map fun | .const _ => true | _ => false) (args.map a.eval)).run P w := by
        intro w
        simp only [execOp, resolve, invoke, Sem.run_bind, Sem.run_pure, Result.andThen_ok]
        rfl
      cases b <;> simp only at hc <;> try (cases hc; done)
      case len =>
        split at hc
        · rename_i e x hu hx0
          obtain ⟨y, hx, rfl⟩ := map_ok hc
          have h1 := compX_ok hx hT
          simp only [evP, evPd, p_mov, p_pick, p_build, p_bin, p_eqB, p_eqG, p_isNil, p_neg, p_not, p_conv, p_mki, p_mkf, p_fld, p_idxA, p_idxS, p_ext, p_fad, p_iadS, p_iadA, p_slcS, p_slcT, p_slcA, p_lenS, p_lenT, p_lenC, p_max, p_min, p_nilc] at he
          split at he
          · rename_i ad n k e1
            rw [e1] at h1
            cases he
            obtain ⟨y', k', hv⟩ := h1.slN
            refine ⟨_, .int _ _, fun w => ?_⟩
            rw [hres]
            cases ht : argTypes[0]? with
            | none => rw [ht] at hu; cases hu
            | some t =>
              rw [ht] at hu
              simp only [Option.bind_some] at hu
              simp [builtin, Builtin.len_, ht, hx0, run_und hu, hv, goInt]
          · cases he
        · rename_i x hu hx0
          obtain ⟨y, hx, rfl⟩ := map_ok hc
          have h1 := compX_ok hx hT
          simp only [evP, evPd, p_mov, p_pick, p_build, p_bin, p_eqB, p_eqG, p_isNil, p_neg, p_not, p_conv, p_mki, p_mkf, p_fld, p_idxA, p_idxS, p_ext, p_fad, p_iadS, p_iadA, p_slcS, p_slcT, p_slcA, p_lenS, p_lenT, p_lenC, p_max, p_min, p_nilc] at he
          split at he
          · rename_i s e1
            rw [e1] at h1
            cases he
            refine ⟨_, .int _ _, fun w => ?_⟩
            rw [hres]
            cases ht : argTypes[0]? with
            | none => rw [ht] at hu; cases hu
            | some t =>
              rw [ht] at hu
              simp only [Option.bind_some] at hu
              simp [builtin, Builtin.len_, ht, hx0, run_und hu, h1.strI, goInt]
          · cases he
        · rename_i n e x hu hx0
          cases hc
          simp only [evP, evPd, p_mov, p_pick, p_build, p_bin, p_eqB, p_eqG, p_isNil, p_neg, p_not, p_conv, p_mki, p_mkf, p_fld, p_idxA, p_idxS, p_ext, p_fad, p_iadS, p_iadA, p_slcS, p_slcT, p_slcA, p_lenS, p_lenT, p_lenC, p_max, p_min, p_nilc, Option.some.injEq] at he
          subst he
          refine ⟨_, .int _ _, fun w => ?_⟩
          rw [hres]
          cases ht : argTypes[0]? with
          | none => rw [ht] at hu; cases hu
          | some t =>
            rw [ht] at hu
            simp only [Option.bind_some] at hu
            simp [builtin, Builtin.len_, ht, hx0, run_und hu, goInt]
        · cases hc
      case max =>
        cases hxs : compXs args with
        | none => rw [hxs] at hc; cases hc
        | some xs =>
          rw [hxs] at hc
          cases hc
          have hl := compXs_ok hxs hT
          simp only [evP, evPd, p_mov, p_pick, p_build, p_bin, p_eqB, p_eqG, p_isNil, p_neg, p_not, p_conv, p_mki, p_mkf, p_fld, p_idxA, p_idxS, p_ext, p_fad, p_iadS, p_iadA, p_slcS, p_slcT, p_slcA, p_lenS, p_lenT, p_lenC, p_max, p_min, p_nilc] at he
          split at he
          · cases he
          · rename_i v0 l0 e0
            rw [e0] at hl
            split at he
            · rename_i k n
              generalize hm : (args.map a.eval).toList = m at hl
              cases hl with
              | cons hv hl =>
                split at he
                · rename_i r0 h0
                  cases he
                  obtain ⟨r1, r2⟩ := maxL_ok (P := P) h0 hl
                  refine ⟨v, r2 ⟨_, _, rfl⟩, fun w => ?_⟩
                  rw [hres]
                  simp only [builtin, Builtin.max_, Sem.run_bind, hm, hv.intI]
                  rw [r1]
                  simp
                · split at he
                  · rename_i k1 hk1
                    obtain ⟨p, ep, dp⟩ := symK_ok hk1 hv
                    obtain ⟨n1, dn1, r1⟩ := maxS_ok (P := P) he dp hl
                    refine ⟨_, den_VR dn1, fun w => ?_⟩
                    rw [hres]
                    simp only [builtin, Builtin.max_, Sem.run_bind, hm, ep]
                    rw [r1]
                    simp
                  · cases he
            · split at he
              · rename_i k1 hk1
                generalize hm : (args.map a.eval).toList = m at hl
                cases hl with
                | cons hv hl =>
                  obtain ⟨p, ep, dp⟩ := symK_ok hk1 hv
                  obtain ⟨n1, dn1, r1⟩ := maxS_ok (P := P) he dp hl
                  refine ⟨_, den_VR dn1, fun w => ?_⟩
                  rw [hres]
                  simp only [builtin, Builtin.max_, Sem.run_bind, hm, ep]
                  rw [r1]
                  simp
              · cases he
      case min =>
        cases hxs : compXs args with
        | none => rw [hxs] at hc; cases hc
        | some xs =>
          rw [hxs] at hc
          cases hc
          have hl := compXs_ok hxs hT
          simp only [evP, evPd, p_mov, p_pick, p_build, p_bin, p_eqB, p_eqG, p_isNil, p_neg, p_not, p_conv, p_mki, p_mkf, p_fld, p_idxA, p_idxS, p_ext, p_fad, p_iadS, p_iadA, p_slcS, p_slcT, p_slcA, p_lenS, p_lenT, p_lenC, p_max, p_min, p_nilc] at he
          split at he
          · cases he
          · rename_i v0 l0 e0
            rw [e0] at hl
            split at he
            · rename_i k n
              generalize hm : (args.map a.eval).toList = m at hl
              cases hl with
              | cons hv hl =>
                split at he
                · rename_i r0 h0
                  cases he
                  obtain ⟨r1, r2⟩ := minL_ok (P := P) h0 hl
                  refine ⟨v, r2 ⟨_, _, rfl⟩, fun w => ?_⟩
                  rw [hres]
                  simp only [builtin, Builtin.min_, Sem.run_bind, hm, hv.intI]
                  rw [r1]
                  simp
                · split at he
                  · rename_i k1 hk1
                    obtain ⟨p, ep, dp⟩ := symK_ok hk1 hv
                    obtain ⟨n1, dn1, r1⟩ := minS_ok (P := P) he dp hl
                    refine ⟨_, den_VR dn1, fun w => ?_⟩
                    rw [hres]
                    simp only [builtin, Builtin.min_, Sem.run_bind, hm, ep]
                    rw [r1]
                    simp
                  · cases he
            · split at he
              · rename_i k1 hk1
                generalize hm : (args.map a.eval).toList = m at hl
                cases hl with
                | cons hv hl =>
                  obtain ⟨p, ep, dp⟩ := symK_ok hk1 hv
                  obtain ⟨n1, dn1, r1⟩ := minS_ok (P := P) he dp hl
                  refine ⟨_, den_VR dn1, fun w => ?_⟩
                  rw [hres]
                  simp only [builtin, Builtin.min_, Sem.run_bind, hm, ep]
                  rw [r1]
                  simp
              · cases he
end
end Go.Sim
