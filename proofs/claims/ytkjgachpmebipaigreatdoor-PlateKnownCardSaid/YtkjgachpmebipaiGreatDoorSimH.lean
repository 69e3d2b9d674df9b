import Derived.Test.YtkjgachpmebipaiGreatDoorSimG
import Derived.Laws.Tables
import Derived.Laws.CopyRow
/- Loads and lookups. -/
namespace Go.Sim
set_option linter.all false
open Go
variable [Rho] [Asm] [SymOK]

section
variable {P : Program} {ι : Io} {T : Tm} {a : Act} {s : St} {w : World}

theorem getObj_run {r : Nat} {o : Obj} (h : w.heap[r]? = some o) (hn : ∀ c t f, o ≠ .cells c t f) : (getObj r).run P w = .ok o w := by
  cases o <;> first | (exact absurd rfl (hn _ _ _)) | (simp only [getObj, Sem.run, h])
theorem setObj_run {r : Nat} {o x : Obj} (h : w.heap[r]? = some o) (hn : ∀ c t f, o ≠ .cells c t f) : (setObj r x).run P w = .ok () { w with heap := w.heap.setIfInBounds r x } := by
  cases o <;> first | (exact absurd rfl (hn _ _ _)) | (simp only [setObj, Sem.run, h])
theorem upd_set {r : Nat} {x : Obj} (h : r < w.heap.size) : Upd w { w with heap := w.heap.setIfInBounds r x } r x :=
  ⟨by simp [h], fun k hk => by simp [Ne.symm hk], by simp, rfl, rfl, rfl⟩

theorem loadCells_ok {r o n : Nat} {cs : Array Value} {t : TypeId} {l : List Value} (hg : w.heap[r]? = some (.cells cs t (0, 0))) (hl : (cs.toList.drop o).take n = l) (hn : l.length = n) : (loadCells ⟨r, o, none⟩ n).run P w = .ok l.toArray w := by
  subst hn
  refine run_loadCells_list (P := P) w ⟨r, o, none⟩ l fun j v hv => ?_
  have hadd : (⟨r, o, none⟩ : Addr).add j = ⟨r, o + j, none⟩ := by unfold Addr.add; split <;> simp_all
  rw [hadd, cell_of_row w r (o + j) cs t (0, 0) hg]
  rw [← hl] at hv
  rw [List.getElem?_take] at hv
  split at hv
  · rw [List.getElem?_drop] at hv; simpa using hv
  · cases hv

/-- A load of one cell, and of many. -/
theorem load1_ok (hW : WR P ι s w) {b o : Nat} {c : List Value} {v x : Value} {t : TypeId} (hx : VR ι (.pointer (some ⟨b, o, none⟩)) x) (hb : s.h.get b = some (.cells c)) (hv : nth c o = some v) (ht : aggB P t = some false) :
    ∃ v', VR ι v v' ∧ (Instr.loadAt t x).run P w = .ok v' w := by
  obtain ⟨r, k, rfl, hr⟩ := hx.ptrI
  obtain ⟨r', k', y, h1, h2, cs, ty, rfl, hc, l', tl, h3, h4⟩ := hW.obj _ _ hb
  rw [hr] at h1
  cases h1
  obtain ⟨v', hv', hvr⟩ := LR.nth (tl := tl) h4 hv
  refine ⟨v', hvr, ?_⟩
  have hcell : w.cell? ⟨r, o, none⟩ = some v' := by
    rw [cell_of_row w r o cs ty (0, 0) h2]
    rw [← h3] at hv'
    simpa using hv'
  simp [Instr.loadAt, Instr.sureAddr, loadVar, run_agg ht, hcell]
theorem loadN_ok (hW : WR P ι s w) {b o n : Nat} {c l : List Value} {x : Value} {t : TypeId} (hx : VR ι (.pointer (some ⟨b, o, none⟩)) x) (hb : s.h.get b = some (.cells c)) (hv : sub c o n = some l) (ht : aggB P t = some true) (hs : szOf P t = some n) :
    ∃ v', VR ι (.agg ⟨l⟩) v' ∧ (Instr.loadAt t x).run P w = .ok v' w := by
  obtain ⟨r, k, rfl, hr⟩ := hx.ptrI
  obtain ⟨r', k', y, h1, h2, cs, ty, rfl, hc, l', tl, h3, h4⟩ := hW.obj _ _ hb
  rw [hr] at h1
  cases h1
  obtain ⟨q, hq1, hq2, hq3, hq4⟩ := LR.sub (tl := tl) h4 hv
  refine ⟨.agg ⟨q⟩, .agg hq1, ?_⟩
  rw [← h3] at hq3
  simp [Instr.loadAt, Instr.sureAddr, loadVar, run_agg ht, run_sz hs, loadCells_ok h2 hq3 hq2]

/-! ### keys -/
theorem keyFs_ok {eq : TypeId → Option Nat} {D : Nat} {emp : Bool} (ih : ∀ t n, eq t = some n → (aggB P t).isSome ∧ (aggB P t = some false → n = 1) ∧ ∀ l x w, Holds P t l x → l.length = n → (Instr.checkKey emp D t x).run P w = .ok () w) :
    ∀ {fs : List Field} {off n : Nat} {l : List Value} {w : World}, eqFs P eq fs off = some n → l.length = n →
      (forIn fs PUnit.unit (fun f (_ : PUnit) => if f.name ≠ "_" then (do
            let x ← part f.type ⟨l⟩ f.offset
            Instr.checkKey emp D f.type x
            pure (ForInStep.yield PUnit.unit) : Sem (ForInStep PUnit))
          else pure (ForInStep.yield PUnit.unit))).run P w = .ok PUnit.unit w
  | [], off, n, l, w, _, _ => rfl
  | f :: fs, off, n, l, w, h, hl => by
    simp only [eqFs] at h
    cases he : eq f.type with
    | none => rw [he] at h; cases h
    | some k =>
      rw [he] at h
      simp only at h
      split at h
      · rename_i hc
        obtain ⟨h1, h2, h3⟩ := hc
        obtain ⟨i1, i2, i3⟩ := ih _ _ he
        have hk : off + k ≤ n := by
          have : ∀ {fs : List Field} {o : Nat}, eqFs P eq fs o = some n → o ≤ n := by
            intro fs
            induction fs with
            | nil => intro o h; simp only [eqFs, Option.some.injEq] at h; omega
            | cons f fs ihf =>
              intro o h
              simp only [eqFs] at h
              split at h
              · cases h
              · split at h
                · have := ihf h; omega
                · cases h
          exact this h
        obtain ⟨x, hx, hx2⟩ := part_holds (off := off) (l := l) i1 h3 i2 (by omega) w
        have r := i3 _ x w hx2 (by simp; omega)
        simp only [List.forIn_cons, h2, ne_eq, not_false_eq_true, if_true, Sem.run_bind, h1, hx, Result.andThen_ok, r, Sem.run_pure]
        exact keyFs_ok ih h hl
      · cases h
theorem keyItems_ok {e : TypeId} {m D : Nat} {emp : Bool} (he1 : (aggB P e).isSome) (he2 : aggB P e = some false → m = 1) (hs : szOf P e = some m)
    (ih : ∀ l x w, Holds P e l x → l.length = m → (Instr.checkKey emp D e x).run P w = .ok () w) {n : Nat} {l : List Value} (hl : l.length = n * m) :
    ∀ (j o : Nat) (w : World), o + j = n →
      (forIn (List.range' o j) PUnit.unit (fun i (_ : PUnit) => (do
            let s ← sizeOf e
            let x ← part e ⟨l⟩ (i * s)
            Instr.checkKey emp D e x
            pure (ForInStep.yield PUnit.unit) : Sem (ForInStep PUnit)))).run P w = .ok PUnit.unit w
  | 0, o, w, ho => rfl
  | j + 1, o, w, ho => by
    have hle : o * m + m ≤ n * m := by
      have : (o + 1) * m ≤ n * m := Nat.mul_le_mul_right m (by omega)
      rw [Nat.add_mul, Nat.one_mul] at this
      exact this
    obtain ⟨x, hx, hx2⟩ := part_holds (off := o * m) (l := l) he1 hs he2 (by omega) w
    have r := ih _ x w hx2 (by simp; omega)
    simp only [List.range'_succ, List.forIn_cons, Sem.run_bind, run_sz hs, hx, Result.andThen_ok, r, Sem.run_pure]
    exact keyItems_ok he1 he2 hs ih hl j (o + 1) w (by omega)
theorem key_ok {emp : Bool} : ∀ {d : Nat} {t : TypeId} {n : Nat}, eqT P d t = some n → ∀ {D : Nat} {l : List Value} {x : Value} {w : World}, Holds P t l x → l.length = n → (Instr.checkKey emp (d + D) t x).run P w = .ok () w
  | 0, _, _, h, _, _, _, _, _, _ => by simp [eqT] at h
  | d + 1, t, n, h, D, l, x, w, hx, hl => by
    unfold eqT at h
    rw [show d + 1 + D = (d + D) + 1 from by omega]
    split at h
    · rename_i k hu
      cases h
      have ha : aggB P t = some false := by simp [aggB, hu]
      simp only [Instr.checkKey, Sem.run_bind, run_und hu, Result.andThen_ok]
      rfl
    · rename_i fs hu
      split at h
      · cases h
      · have ha : aggB P t = some true := by simp [aggB, hu]
        obtain ⟨b1, hb1, hx⟩ := hx
        rw [ha] at hb1
        cases hb1
        simp only [if_true] at hx
        subst hx
        simp only [Instr.checkKey, Sem.run_bind, run_und hu, Result.andThen_ok]
        rw [← Array.forIn_toList]
        have := keyFs_ok (emp := emp) (D := d + D) (w := w) (fun t n he => ⟨(eqT_agg he).1, (eqT_agg he).2, fun l x w h1 h2 => key_ok he h1 h2⟩) h hl
        rw [this]
        rfl
    · rename_i len e hu
      split at h
      · rename_i m0 he
        split at h
        · rename_i hsz
          cases h
          have ha : aggB P t = some true := by simp [aggB, hu]
          obtain ⟨b1, hb1, hx⟩ := hx
          rw [ha] at hb1
          cases hb1
          simp only [if_true] at hx
          subst hx
          simp only [Instr.checkKey, Sem.run_bind, run_und hu, Result.andThen_ok]
          simp only [Std.Legacy.Range.forIn_eq_forIn_range', Std.Legacy.Range.size, Nat.sub_zero, Nat.add_one_sub_one, Nat.div_one]
          have := keyItems_ok (emp := emp) (D := d + D) (eqT_agg he).1 (eqT_agg he).2 hsz (fun l x w h1 h2 => key_ok he h1 h2) hl len 0 w (by omega)
          rw [this]
          rfl
        · cases h
      · cases h
    · cases h

/-- A key fits its type. -/
theorem keyed_holds {t : TypeId} {n : Nat} {ag : Bool} {v v' : Value} (hag : aggB P t = some ag) (hk : keyed n ag v = true) (hv : VR ι v v') : Holds P t v'.cells.toList v' ∧ v'.cells.toList.length = n ∧ LR ι (cellsOf v) v'.cells.toList := by
  have hc := hv.cells
  unfold keyed at hk
  split at hk
  · rename_i l
    obtain ⟨l', rfl, hl⟩ := hv.aggI
    have e := Nat.eq_of_beq_eq_true hk
    rw [len_eq, hl.length] at e
    exact ⟨⟨true, hag, rfl⟩, e, hc⟩
  · rw [hv.intI] at hc ⊢
    have e := Nat.eq_of_beq_eq_true hk
    exact ⟨⟨false, hag, rfl⟩, e, hc⟩
  · cases hk

/-- How a key is told from another one, and what is found. -/
theorem tell_ok {t : TypeId} {n : Nat} {ag b : Bool} {k x k' x' : Value} (ht : eqT P 6 t = some n) (hag : aggB P t = some ag) (hk : keyed n ag k = true) (hx : keyed n ag x = true) (hkv : VR ι k k') (hxv : VR ι x x') (hs : sameL (cellsOf k) (cellsOf x) = some b) (w : World) :
    (Op.equal t k' x').run P w = .ok b w := by
  obtain ⟨h1, h2, h3⟩ := keyed_holds (P := P) hag hk hkv
  obtain ⟨h4, h5, h6⟩ := keyed_holds (P := P) hag hx hxv
  exact eqT_ok (D := 9994) ht h1 h4 h2 h5 (sameL_real hs h3 h6)
theorem tellNow_ok {t : TypeId} {n : Nat} {ag b : Bool} {k x k' x' : Value} {kk : IntKind} (hu : P.underlying t = some (.int kk)) (hag : aggB P t = some ag) (hk : keyed n ag k = true) (hx : keyed n ag x = true) (hkv : VR ι k k') (hxv : VR ι x x') (hs : sameL (cellsOf k) (cellsOf x) = some b) :
    Instr.sameNow (.int kk) k' x' = some b := by
  have e : ag = false := by
    have : aggB P t = some false := by simp [aggB, hu]
    rw [hag] at this; cases this; rfl
  subst e
  unfold keyed at hk hx
  split at hk <;> first | (cases hk; done) | skip
  · rename_i h; cases h
  · split at hx <;> first | (cases hx; done) | skip
    · rename_i h; cases h
    · rw [hkv.intI, hxv.intI]
      obtain ⟨c, hc, hd⟩ := sameL_cons hs
      obtain ⟨k', p, q, e1, e2, e3⟩ := same1_plain hc
      have hb : b = c := by
        rcases hd with ⟨rfl, hd⟩ | ⟨rfl, rfl⟩
        · simp only [sameL, Option.some.injEq] at hd
          exact hd.symm
        · rfl
      cases e1
      cases e2
      simp [Instr.sameNow, hb, e3]

/-- The place of a key. -/
def idxL (kl : List Value) : List (Value × Value) → Nat
  | [] => 0
  | (x, _) :: es => if sameL kl (cellsOf x) = some true then 0 else idxL kl es + 1
/-- What is found: nothing, or the value at a place. -/
def Found (ι : Io) (i : Nat) (kl : List Value) (es : List (Value × Value)) (r : Option Value) (r' : Option (Nat × Value)) : Prop := match r with
  | none => r' = none
  | some v => ∃ v', r' = some (i + idxL kl es, v') ∧ VR ι v v'
theorem look_now {t : TypeId} {n : Nat} {ag : Bool} {k k' : Value} {kk : IntKind} (hu : P.underlying t = some (.int kk)) (hag : aggB P t = some ag) (hk : keyed n ag k = true) (hkv : VR ι k k') :
    ∀ {es : List (Value × Value)} {en : List MapEntry} {r : Option Value} {i : Nat}, ER ι es en → (∀ p ∈ es, keyed n ag p.1 = true) → look (cellsOf k) es = some r → ∃ r', Instr.findNow (.int kk) k' en i = some r' ∧ Found ι i (cellsOf k) es r r'
  | [], en, r, i, h, _, e => by
    cases h
    simp only [look, Option.some.injEq] at e
    subst e
    exact ⟨none, rfl, rfl⟩
  | (x, v) :: es, en, r, i, h, hp, e => by
    cases h with
    | cons hx hv hes =>
      simp only [look] at e
      split at e
      · rename_i hs
        cases e
        have := tellNow_ok hu hag hk (hp _ List.mem_cons_self) hkv hx hs
        exact ⟨_, by simp only [Instr.findNow, this]; rfl, _, by simp only [idxL, hs, if_true]; rfl, hv⟩
      · rename_i hs
        have := tellNow_ok hu hag hk (hp _ List.mem_cons_self) hkv hx hs
        obtain ⟨r', h1, h2⟩ := look_now hu hag hk hkv (i := i + 1) hes (fun p hp' => hp p (List.mem_cons_of_mem _ hp')) e
        refine ⟨r', by simp only [Instr.findNow, this, h1], ?_⟩
        cases r with
        | none => exact h2
        | some u =>
          obtain ⟨v', e1, e2⟩ := h2
          refine ⟨v', ?_, e2⟩
          rw [e1]
          simp only [idxL, hs]
          simp
          omega
      · cases e
theorem look_ask {t : TypeId} {n : Nat} {ag : Bool} {k k' : Value} (ht : eqT P 6 t = some n) (hag : aggB P t = some ag) (hk : keyed n ag k = true) (hkv : VR ι k k') (w : World) :
    ∀ {es : List (Value × Value)} {en : List MapEntry} {r : Option Value} {i : Nat}, ER ι es en → (∀ p ∈ es, keyed n ag p.1 = true) → look (cellsOf k) es = some r → ∃ r', (Instr.findAsking t k' en i).run P w = .ok r' w ∧ Found ι i (cellsOf k) es r r'
  | [], en, r, i, h, _, e => by
    cases h
    simp only [look, Option.some.injEq] at e
    subst e
    exact ⟨none, rfl, rfl⟩
  | (x, v) :: es, en, r, i, h, hp, e => by
    cases h with
    | cons hx hv hes =>
      simp only [look] at e
      split at e
      · rename_i hs
        cases e
        have := tell_ok ht hag hk (hp _ List.mem_cons_self) hkv hx hs w
        exact ⟨_, by simp only [Instr.findAsking, Sem.run_bind, this, Result.andThen_ok, if_true, Sem.run_pure]; rfl, _, by simp only [idxL, hs, if_true]; rfl, hv⟩
      · rename_i hs
        have := tell_ok ht hag hk (hp _ List.mem_cons_self) hkv hx hs w
        obtain ⟨r', h1, h2⟩ := look_ask ht hag hk hkv w (i := i + 1) hes (fun p hp' => hp p (List.mem_cons_of_mem _ hp')) e
        refine ⟨r', by simp only [Instr.findAsking, Sem.run_bind, this, Result.andThen_ok, Bool.false_eq_true, if_false, h1], ?_⟩
        cases r with
        | none => exact h2
        | some u =>
          obtain ⟨v', e1, e2⟩ := h2
          refine ⟨v', ?_, e2⟩
          rw [e1]
          simp only [idxL, hs]
          simp
          omega
      · cases e
theorem find_ok {t : TypeId} {n : Nat} {ag : Bool} {k k' : Value} (ht : eqT P 6 t = some n) (hag : aggB P t = some ag) (hk : keyed n ag k = true) (hkv : VR ι k k') (w : World)
    {es : List (Value × Value)} {en : List MapEntry} {r : Option Value} (h : ER ι es en) (hp : ∀ p ∈ es, keyed n ag p.1 = true) (e : look (cellsOf k) es = some r) : ∃ r', (Instr.findKey t k' en).run P w = .ok r' w ∧ Found ι 0 (cellsOf k) es r r' := by
  have ht' := ht
  unfold eqT at ht'
  split at ht'
  · rename_i kk hu
    obtain ⟨r', h1, h2⟩ := look_now hu hag hk hkv (i := 0) h hp e
    exact ⟨r', by simp only [Instr.findKey, Sem.run_bind, run_und hu, Result.andThen_ok, h1, Sem.run_pure], h2⟩
  · rename_i fs hu
    cases en with
    | nil =>
      cases h
      simp only [look, Option.some.injEq] at e
      subst e
      exact ⟨none, by simp only [Instr.findKey, Sem.run_bind, run_und hu, Result.andThen_ok, Instr.findNow, Sem.run_pure], rfl⟩
    | cons x en =>
      obtain ⟨r', h1, h2⟩ := look_ask ht hag hk hkv w (i := 0) h hp e
      refine ⟨r', ?_, h2⟩
      have hn : Instr.findNow (.struct fs) k' (x :: en) 0 = none := by simp [Instr.findNow, Instr.sameNow]
      simp only [Instr.findKey, Sem.run_bind, run_und hu, Result.andThen_ok, hn, h1]
  · rename_i len el hu
    cases en with
    | nil =>
      cases h
      simp only [look, Option.some.injEq] at e
      subst e
      exact ⟨none, by simp only [Instr.findKey, Sem.run_bind, run_und hu, Result.andThen_ok, Instr.findNow, Sem.run_pure], rfl⟩
    | cons x en =>
      obtain ⟨r', h1, h2⟩ := look_ask ht hag hk hkv w (i := 0) h hp e
      refine ⟨r', ?_, h2⟩
      have hn : Instr.findNow (.array len el) k' (x :: en) 0 = none := by simp [Instr.findNow, Instr.sameNow]
      simp only [Instr.findKey, Sem.run_bind, run_und hu, Result.andThen_ok, hn, h1]
  · cases ht'
end
end Go.Sim
