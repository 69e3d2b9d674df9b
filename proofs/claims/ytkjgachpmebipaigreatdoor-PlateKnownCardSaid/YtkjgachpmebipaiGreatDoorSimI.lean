import Derived.Test.YtkjgachpmebipaiGreatDoorSimH
/- Operations that read, and that make new blocks. -/
namespace Go.Sim
set_option linter.all false
open Go
variable [Rho] [Asm] [SymOK]

section
variable {P : Program} {ι : Io} {T : Tm} {a : Act} {s : St} {w : World}

theorem mapOf_ok {n : Nat} {ag : Bool} {v v' : Value} {es : List (Value × Value)} (hW : WR P ι s w) (hv : VR ι v v') (he : mapOf s.h n ag v = some es) :
    (v = .map none ∧ v' = .map none ∧ es = []) ∨ ∃ b r c en ck, v = .map (some b) ∧ v' = .map (some r) ∧ ι b = some (r, c) ∧ s.h.get b = some (.map n ag es) ∧ w.heap[r]? = some (.map en ck) ∧ ER ι es en.toList ∧ ∀ p ∈ es, keyed n ag p.1 = true := by
  unfold mapOf at he
  split at he
  · cases he; exact .inl ⟨rfl, hv.map0I, rfl⟩
  · rename_i b
    split at he
    · rename_i n' ag' es' hb
      split at he
      · rename_i h1 h2
        cases he
        have e1 := Nat.eq_of_beq_eq_true h1
        have e2 : ag = ag' := by cases ag <;> cases ag' <;> first | rfl | (simp [sameB] at h2)
        subst e1
        subst e2
        obtain ⟨r, c, rfl, hr⟩ := hv.mapI
        obtain ⟨r', c', x, h3, h4, en, ck, rfl, h5, h6⟩ := hW.obj _ _ hb
        rw [hr] at h3
        cases h3
        exact .inr ⟨b, r, c, en, ck, rfl, rfl, hr, hb, h4, h5, h6⟩
      · cases he
    · cases he
  · cases he

theorem found_ok {ok : Bool} {v v' : Value} {b : Bool} (h : VR ι v v') : VR ι (found ok v b) (if ok then .tuple #[v', .bool b] else v') := by
  cases ok
  · exact h
  · exact .tup (.cons h (.cons (.bool b) .nil))

theorem map_okG {α : Type} {x : Option Opd} {g : Opd → α} {p : α} (h : x.map g = some p) : ∃ y, x = some y ∧ p = g y := by
  cases x with
  | none => cases h
  | some y => exact ⟨y, rfl, by cases h; rfl⟩
theorem lenE_eq : ∀ es : List (Value × Value), lenE es = es.length
  | [] => rfl
  | _ :: es => by simp [lenE, lenE_eq es]
theorem ER.len : ∀ {es : List (Value × Value)} {en : List MapEntry}, ER ι es en → es.length = en.length
  | _, _, .nil => rfl
  | _, _, .cons _ _ h => by simp [h.len]
theorem evR_ok {o : Oper} {r : ROp} {v : Value} (hc : compR P o = some r) (hT : TR ι T a.tmps) (hW : WR P ι s w) (he : evR T s.h r = some v) : ∃ v', VR ι v v' ∧ (execOp a.eval o).run P w = .ok (.value v') w := by
  obtain ⟨dst, op, type, pos, after, guard⟩ := o
  cases op <;> simp only [compR] at hc <;> try (cases hc; done)
  case load t x =>
    simp only [bind] at hc
    split at hc
    · rename_i hag
      simp only [Option.bind_eq_some_iff, Option.some.injEq] at hc
      obtain ⟨n, hn, x', hx, rfl⟩ := hc
      have h1 := compX_ok hx hT
      simp only [evR, evRd, r_ldn] at he
      split at he
      · rename_i b o e1
        rw [e1] at h1
        split at he
        · rename_i c hb
          split at he
          · rename_i l hl
            cases he
            obtain ⟨v', hv, hr⟩ := loadN_ok hW h1 hb hl hag hn
            exact ⟨v', hv, by simp [execOp, hr]⟩
          · cases he
        · cases he
      · cases he
    · rename_i hag
      simp only [Option.bind_eq_some_iff, Option.some.injEq] at hc
      obtain ⟨x', hx, rfl⟩ := hc
      have h1 := compX_ok hx hT
      simp only [evR, evRd, r_ld1] at he
      split at he
      · rename_i b o e1
        rw [e1] at h1
        split at he
        · rename_i c hb
          obtain ⟨v', hv, hr⟩ := load1_ok hW h1 hb he hag
          exact ⟨v', hv, by simp [execOp, hr]⟩
        · cases he
      · cases he
    · cases hc
  case lookup t m k ok =>
    split at hc
    · rename_i key elem hu
      simp only [bind, Option.bind_eq_some_iff, Option.some.injEq] at hc
      obtain ⟨n, hn, ag, hag, z, hz, m', hm, k', hk, rfl⟩ := hc
      have h1 := compX_ok hm hT
      have h2 := compX_ok hk hT
      simp only [evR, evRd, r_lkp] at he
      split at he
      · rename_i es hkey hes
        have hcheck : ∀ emp, (Instr.checkKey emp 10000 key (a.eval k)).run P w = .ok () w := fun emp => by
          obtain ⟨q1, q2, q3⟩ := keyed_holds (P := P) hag hkey h2
          exact key_ok (D := 9994) hn q1 q2
        rcases mapOf_ok hW h1 hes with ⟨_, hm', rfl⟩ | ⟨b, r, c, en, ck, _, hm', hb, _, hheap, her, hps⟩
        · simp only [look] at he
          cases he
          refine ⟨_, found_ok (b := false) (zeroV_konst hz), ?_⟩
          obtain ⟨r', hf, hr'⟩ := find_ok (es := []) (en := []) hn hag hkey h2 w .nil (by simp) rfl
          have hr'' : r' = none := hr'
          subst hr''
          simp only [execOp, Instr.lookup, Sem.run_bind, run_und hu, Result.andThen_ok, hm', Sem.run_pure, hcheck, hf, run_zeroV hz]
        · have hg : (getObj r).run P w = .ok (.map en ck) w := getObj_run hheap (fun _ _ _ h => by cases h)
          split at he
          · cases he
          · rename_i val hl
            cases he
            obtain ⟨r', hf, v', e1, e2⟩ := find_ok hn hag hkey h2 w her hps hl
            subst e1
            refine ⟨_, found_ok (b := true) e2, ?_⟩
            simp only [execOp, Instr.lookup, Sem.run_bind, run_und hu, Result.andThen_ok, hm', Sem.run_pure, hg, hcheck, hf]
          · rename_i hl
            cases he
            obtain ⟨r', hf, hr'⟩ := find_ok hn hag hkey h2 w her hps hl
            have hr'' : r' = none := hr'
            subst hr''
            refine ⟨_, found_ok (b := false) (zeroV_konst hz), ?_⟩
            simp only [execOp, Instr.lookup, Sem.run_bind, run_und hu, Result.andThen_ok, hm', Sem.run_pure, hg, hcheck, hf, run_zeroV hz]
      · cases he
    · cases hc
  case call c =>
    obtain ⟨callee, args, argTypes⟩ := c
    simp only at hc
    split at hc
    · rename_i ky el x h1 h2
      obtain ⟨y, hx, rfl⟩ := map_okG hc
      obtain ⟨sT, t1, t2⟩ := Option.bind_eq_some_iff.1 h1
      have g1 := compX_ok hx hT
      have a1 : (args.map a.eval)[0]? = some (a.eval x) := by simp [h2]
      simp only [evR, evRd, r_lenM] at he
      split at he
      · rename_i e1
        rw [e1] at g1
        cases he
        refine ⟨_, .int _ _, ?_⟩
        simp only [execOp, resolve, invoke, Sem.run_bind, Sem.run_pure, Result.andThen_ok, builtin, Builtin.len_, t1, a1, run_und t2, g1.map0I]
        rfl
      · rename_i b e1
        split at he
        · rename_i n0 ag es hb
          rw [e1] at g1
          obtain ⟨r, c, hv, hι⟩ := g1.mapI
          obtain ⟨r', c', o', q1, q2, en, ck, rfl, her, _⟩ := hW.obj _ _ hb
          rw [hι] at q1
          cases q1
          cases he
          have hg : (getObj r).run P w = .ok (.map en ck) w := getObj_run q2 (fun _ _ _ h => by cases h)
          have hlen : lenE es = en.size := by rw [lenE_eq, ER.len her]; simp
          refine ⟨_, .int _ _, ?_⟩
          simp only [execOp, resolve, invoke, Sem.run_bind, Sem.run_pure, Result.andThen_ok, builtin, Builtin.len_, t1, a1, run_und t2, hv, hg, hlen]
          rfl
        · cases he
      · cases he
    · cases hc

/-! ### new blocks -/
theorem zeroOf_ok {t : TypeId} {z : List Value} (h : zeroOf P t = some z) : ∃ v : Value, (∀ w, (Go.zeroValue t).run P w = .ok v w) ∧ cellsOf v = z ∧ (∀ ι, VR ι v v) ∧ ones z = true := by
  unfold zeroOf at h
  cases hi : P.info? t with
  | none => rw [hi] at h; cases h
  | some i =>
    rw [hi] at h
    cases hz : i.zero with
    | none => simp [hz] at h
    | some v =>
      simp only [Option.bind_some, hz] at h
      split at h
      · rename_i hk
        cases h
        simp only [Bool.and_eq_true] at hk
        exact ⟨v, fun w => by simp [Go.zeroValue, run_info hi, hz], rfl, fun ι => konst_refl _ _ hk.1, hk.2⟩
      · cases h
theorem rep_ok {l l' : List Value} (h : LR ι l l') : ∀ n, LR ι (rep n l) (List.replicate n l').flatten
  | 0 => .nil
  | n + 1 => by
    simp only [rep, app_eq, List.replicate_succ, List.flatten_cons]
    exact h.append (rep_ok h n)
theorem rep_length (l : List Value) : ∀ n, (rep n l).length = n * l.length
  | 0 => by simp [rep]
  | n + 1 => by simp [rep, app_eq, rep_length l n, Nat.add_mul]; omega
theorem range_rep (z : Array Value) : ∀ n, ((Array.range (n * z.size)).map (z[· % z.size]!)).toList = (List.replicate n z.toList).flatten := by
  intro n
  simp only [Array.toList_map, Array.toList_range]
  induction n with
  | zero => simp
  | succ n ih =>
    rw [Nat.add_mul, Nat.one_mul, List.range_add, List.map_append, ih, List.replicate_succ', List.flatten_append]
    congr 1
    simp only [List.map_map, List.flatten_cons, List.flatten_nil, List.append_nil]
    apply List.ext_getElem
    · simp
    · intro i h1 h2
      simp only [List.length_map, List.length_range] at h1
      have e : (n * z.size + i) % z.size = i := by rw [Nat.mul_comm, Nat.mul_add_mod, Nat.mod_eq_of_lt h1]
      simp [e, h1]

/-- What a new block is on both sides. -/
theorem evA_ok {o : Oper} {r : AOp} {lo : LO} {f : Nat → Value} (hc : compA P o = some r) (hT : TR ι T a.tmps) (he : evA T r = some (lo, f)) :
    ∃ (c : Nat) (x : Obj) (g : Nat → Value), (∀ w, (execOp a.eval o).run P w = .ok (.value (g w.heap.size)) { w with heap := w.heap.push x }) ∧ (∀ ι', Ext ι ι' → OR P ι' c lo x) ∧ ∀ (ι' : Io) b r, ι' b = some (r, c) → VR ι' (f b) (g r) := by
  obtain ⟨dst, op, type, pos, after, guard⟩ := o
  have hrow : ∀ (l : List Value) (cs : Array Value) (t : TypeId), LR ι l cs.toList → ∀ ι', Ext ι ι' → OR P ι' cs.size (.cells l) (.cells cs t) := fun l cs t h ι' he => ⟨cs, t, rfl, rfl, cs.toList, [], by simp, h.mono he⟩
  cases op <;> simp only [compA] at hc <;> try (cases hc; done)
  case alloc t =>
    cases hz : zeroOf P t with
    | none => rw [hz] at hc; cases hc
    | some z =>
      rw [hz] at hc
      cases hc
      simp only [evA, evAd, a_new, Option.some.injEq, Prod.mk.injEq] at he
      obtain ⟨rfl, rfl⟩ := he
      obtain ⟨v, hv, rfl, hvr, _⟩ := zeroOf_ok hz
      refine ⟨v.cells.size, .cells v.cells t, ptrAt, fun w => ?_, hrow _ _ _ (hvr ι).cells, fun ι' b r h => .ptr h⟩
      simp [execOp, Instr.alloc, hv, newVar, newRow, ptrAt]
  case box t x =>
    cases hx : compX x with
    | none => rw [hx] at hc; cases hc
    | some y =>
      rw [hx] at hc
      cases hc
      simp only [evA, evAd, a_box] at he
      split at he
      · cases he
        have h1 := compX_ok hx hT
        refine ⟨(a.eval x).cells.size, .cells (a.eval x).cells t, ptrAt, fun w => ?_, hrow _ _ _ h1.cells, fun ι' b r h => .ptr h⟩
        simp [execOp, Instr.box, newVar, newRow, ptrAt]
      · cases he
  case buildSlice t n parts =>
    split at hc
    · rename_i e hu
      simp only [bind, Option.bind_eq_some_iff] at hc
      obtain ⟨size, hsz, z, hz, hc⟩ := hc
      split at hc
      · cases hc
      · rename_i hcond
        simp only [Option.bind_eq_some_iff, Option.some.injEq] at hc
        obtain ⟨ps, hps, rfl⟩ := hc
        simp only [Bool.or_eq_true, bne_iff_ne, ne_eq, decide_eq_true_eq, not_or, Decidable.not_not, Nat.not_lt] at hcond
        obtain ⟨⟨hzl, hlim⟩, hlim2⟩ := hcond
        obtain ⟨v, hv, hvz, hvr, _⟩ := zeroOf_ok hz
        simp only [evA, evAd, a_bsl] at he
        split at he
        · rename_i cs hlay
          split at he
          · cases he
            have hzc : LR ι z v.cells.toList := hvz ▸ (hvr ι).cells
            have hvs : v.cells.size = size := by rw [← hzl, hzc.length]; simp
            obtain ⟨z0, hz0⟩ : ∃ z0 : Array Value, z0 = if n * size = 0 then #[] else v.cells := ⟨_, rfl⟩
            have hLR : LR ι (rep n z) ((Array.range (n * size)).map (z0[· % z0.size]!)).toList := by
              by_cases h0 : n * size = 0
              · have : rep n z = [] := List.length_eq_zero_iff.1 (by rw [rep_length, hzl]; exact h0)
                rw [this, h0]
                simp only [Array.toList_map, Array.toList_range, List.range_zero, List.map_nil]
                exact .nil
              · have hs0 : v.cells.size ≠ 0 := by
                  intro e
                  rw [hvs] at e
                  rw [e] at h0
                  simp at h0
                rw [if_neg h0] at hz0
                subst hz0
                have := range_rep v.cells n
                rw [hvs] at this
                rw [hvs, this]
                exact rep_ok hzc n
            obtain ⟨r', hf, hr'⟩ := lay_ok hT hps hlay hLR
            rw [Array.toArray_toList] at hf
            refine ⟨r'.length, .cells ⟨r'⟩ e, sliceAt n n, fun w => ?_, hrow _ ⟨r'⟩ _ hr', fun ι' b r h => .sl h ?_⟩
            · have hle : ¬ n * size > 2 ^ 24 := by omega
              have hz1 : (if n * size = 0 then (Result.ok #[] w : Result (Array Value)) else Result.ok v.cells w) = .ok z0 w := by rw [hz0]; split <;> rfl
              simp only [execOp, Instr.buildSlice, Sem.run_bind, run_und hu, run_sz hsz, Result.andThen_ok, Sem.run_ite, if_neg hle, Sem.run_pure, hv, Array.toList_map]
              by_cases h0 : n * size = 0
              · rw [if_pos h0] at hz0
                subst hz0
                simp only [if_pos h0, Result.andThen_ok, hf, newRow, Sem.run_bind, run_newObj, Sem.run_pure]
                rfl
              · rw [if_neg h0] at hz0
                subst hz0
                simp only [if_neg h0, Result.andThen_ok, hf, newRow, Sem.run_bind, run_newObj, Sem.run_pure]
                rfl
            · omega
          · cases he
        · cases he
    · cases hc
  case makeMap t rv =>
    cases rv with
    | some x => cases hc
    | none =>
      simp only at hc
      split at hc
      · rename_i key elem hu
        simp only [bind, Option.bind_eq_some_iff, Option.some.injEq] at hc
        obtain ⟨n, hn, ag, hag, rfl⟩ := hc
        simp only [evA, evAd, a_mkm, Option.some.injEq, Prod.mk.injEq] at he
        obtain ⟨rfl, rfl⟩ := he
        refine ⟨0, .map #[] 0, mapAt, fun w => ?_, fun ι' _ => ⟨#[], 0, rfl, .nil, by simp⟩, fun ι' b r h => .map h⟩
        simp [execOp, Instr.makeMap, mapAt]
      · cases hc
  case range t x =>
    split at hc
    · rename_i hu
      obtain ⟨y, hx, rfl⟩ := map_okG hc
      have g1 := compX_ok hx hT
      simp only [evA, evAd, a_rgs] at he
      split at he
      · rename_i l e1
        rw [e1] at g1
        cases he
        refine ⟨0, .stringIter ⟨⟨l⟩⟩ 0, ptrAt, fun w => ?_, fun ι' _ => rfl, fun ι' b r h => .ptr h⟩
        simp only [execOp, Instr.range, Sem.run_bind, run_und hu, Result.andThen_ok, g1.strI, Sem.run_pure, run_newObj]
        rfl
      · cases he
    · cases hc
  case makeSlice t l c =>
    split at hc
    · rename_i e hu
      simp only [bind, Option.bind_eq_some_iff] at hc
      obtain ⟨size, hsz, z, hz, bytes, hby, hc⟩ := hc
      split at hc
      · cases hc
      · rename_i hcond
        simp only [Option.bind_eq_some_iff, Option.some.injEq] at hc
        obtain ⟨l', hl, c', hcx, rfl⟩ := hc
        simp only [Bool.or_eq_true, bne_iff_ne, ne_eq, decide_eq_true_eq, not_or, Decidable.not_not] at hcond
        obtain ⟨hzl, hs0⟩ := hcond
        obtain ⟨v, hv, hvz, hvr, _⟩ := zeroOf_ok hz
        simp only [evA, evAd, a_mks] at he
        split at he
        · rename_i ln cn hln hcn
          split at he
          · rename_i h1 h2 h3
            have h1' := Nat.le_of_ble_eq_true h1
            have h2' : bytes * cn ≤ 1048576 := Nat.le_of_ble_eq_true h2
            have h3' := Nat.le_of_ble_eq_true h3
            cases he
            obtain ⟨k1, hk1⟩ := place_inv hln (compX_ok hl hT)
            obtain ⟨k2, hk2⟩ := place_inv hcn (compX_ok hcx hT)
            have hzc : LR ι z v.cells.toList := hvz ▸ (hvr ι).cells
            have hvs : v.cells.size = size := by rw [← hzl, hzc.length]; simp
            cases hi : P.info? e with
            | none => rw [hi] at hby; cases hby
            | some i =>
              rw [hi] at hby
              cases hby
              have hLR : LR ι (rep cn z) ((Array.range (cn * size)).map (v.cells[· % v.cells.size]!)).toList := by
                have := range_rep v.cells cn
                rw [hvs] at this
                rw [hvs, this]
                exact rep_ok hzc cn
              have hw1 : IntKind.i64.wrap (ln : Int) = ln := IntWalk.i64_in _ (by omega)
              have hw2 : IntKind.i64.wrap (cn : Int) = cn := IntWalk.i64_in _ (by omega)
              have hb : ¬ ((i.bytes : Int) * (cn : Int) > 2 ^ 48) := by
                have h5 : ((i.bytes * cn : Nat) : Int) ≤ ((1048576 : Nat) : Int) := Int.ofNat_le.2 h2'
                rw [Int.natCast_mul] at h5
                intro h6
                have h7 : (2 : Int) ^ 48 = 281474976710656 := by decide
                omega
              refine ⟨_, .cells ((Array.range (cn * size)).map (v.cells[· % v.cells.size]!)) e, sliceAt ln cn, fun w => ?_, hrow _ _ _ hLR, fun ι' b r h => .sl h (by omega)⟩
              have hcond : ((decide ((cn : Int) < 0) || decide ((i.bytes : Int) * (cn : Int) > 2 ^ 48)) || decide ((ln : Int) < 0) || decide ((ln : Int) > (cn : Int))) = false := by
                simp only [Bool.or_eq_false_iff, decide_eq_false_iff_not]
                refine ⟨⟨⟨by omega, hb⟩, by omega⟩, by omega⟩
              simp only [execOp, Instr.makeSlice, Sem.run_bind, run_und hu, Result.andThen_ok, hk1, hk2, asInt, asIntOf, Sem.run_pure, run_info hi, hw1, hw2, hcond, Bool.false_eq_true, if_false, run_askRoom, Int.toNat_natCast, run_sz hsz]
              by_cases h0 : cn * size = 0
              · have hc0 : cn = 0 := (Nat.mul_eq_zero.1 h0).resolve_right hs0
                subst hc0
                have e0 : ∀ f : Nat → Value, (Array.range 0).map f = #[] := fun f => by simp
                simp only [Nat.zero_mul, if_true, Sem.run_pure, Sem.run_bind, Result.andThen_ok, newRow, run_newObj, e0]
                rfl
              · simp only [if_neg h0, Sem.run_bind, hv, Sem.run_pure, Result.andThen_ok, newRow, run_newObj]
                rfl
          · cases he
        · cases he
    · cases hc
end
end Go.Sim
