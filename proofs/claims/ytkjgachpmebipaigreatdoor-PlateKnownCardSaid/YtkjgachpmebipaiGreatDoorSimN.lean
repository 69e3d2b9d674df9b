import Derived.Test.YtkjgachpmebipaiGreatDoorSimM
/- From the operations to the walk. -/
namespace Go.Sim
set_option linter.all false
open Go
variable [Rho] [Asm] [SymOK]

def FW (l : Option Nat) : Fence := { Fence.wide with round := l }
theorem FW_room (l : Option Nat) (n : Nat) : (FW l).room n := fun _ h => by simp [FW, Fence.wide] at h

section
variable {P : Program} {ι : Io} {T : Tm} {a : Act} {s : St} {w : World}

theorem evW_ok {o : Oper} {wo : WOp} {β : Type} {k : Value → St → Option β} {res : β} (hc : compW P o = some wo) (hT : TR ι T a.tmps) (hW : WR P ι s w) (he : evW T s wo k = some res) : ∃ v s1, k v s1 = some res ∧ Does P ι s w a o v s1 := by
  obtain ⟨dst, op, type, pos, after, guard⟩ := o
  cases op <;> simp only [compW] at hc <;> try (cases hc; done)
  case store t ad x =>
    simp only [bind, Option.bind_eq_some_iff, Option.some.injEq] at hc
    obtain ⟨n, hn, ad', ha, x', hx, rfl⟩ := hc
    exact evSt_ok hn ha hx hT hW he
  case mapUpdate t m kx vx =>
    split at hc
    · rename_i key elem hu
      simp only [bind, Option.bind_eq_some_iff, Option.some.injEq] at hc
      obtain ⟨n, hn, ag, hag, m', hm, k', hk, v', hv, rfl⟩ := hc
      exact evMup_ok hu hn hag hm hk hv hT hW he
    · cases hc
  case call c =>
    split at hc
    · rename_i e e2 sx xx h0 h1 h2 h3 h4
      simp only [bind, Option.bind_eq_some_iff] at hc
      obtain ⟨size, hsz, z, hz, bytes, hby, hc⟩ := hc
      split at hc
      · cases hc
      · rename_i hcond
        simp only [Option.bind_eq_some_iff, Option.some.injEq] at hc
        obtain ⟨sx', hsx, xx', hxx, rfl⟩ := hc
        simp only [Bool.or_eq_true, bne_iff_ne, ne_eq, decide_eq_true_eq, not_or, Decidable.not_not, Nat.not_lt] at hcond
        obtain ⟨⟨⟨q1, q2⟩, q3⟩, q4⟩ := hcond
        obtain ⟨sT, t1, t2⟩ := Option.bind_eq_some_iff.1 h1
        obtain ⟨xT, t3, t4⟩ := Option.bind_eq_some_iff.1 h2
        exact evApp_ok rfl h0 t1 t3 h3 h4 t2 t4 hsz hz hby q1 q2 q3 q4 hsx hxx hT hW he
    · rename_i e e2 sx xx h0 h1 h2 h3 h4
      simp only [bind, Option.bind_eq_some_iff, Option.some.injEq] at hc
      obtain ⟨size, hsz, sx', hsx, xx', hxx, rfl⟩ := hc
      obtain ⟨sT, t1, t2⟩ := Option.bind_eq_some_iff.1 h1
      obtain ⟨callee, args, argTypes⟩ := c
      simp only at h0
      subst h0
      exact evCpy_ok t1 h3 h4 t2 hsz hsx hxx hT hW he
    · rename_i e sx h0 h1 h3
      simp only [bind, Option.bind_eq_some_iff, Option.some.injEq] at hc
      obtain ⟨z, hz, sx', hsx, rfl⟩ := hc
      obtain ⟨sT, t1, t2⟩ := Option.bind_eq_some_iff.1 h1
      obtain ⟨callee, args, argTypes⟩ := c
      simp only at h0
      subst h0
      exact evClr_ok t1 h3 t2 hz hsx hT hW he
    · cases hc
  case next x isS =>
    cases isS with
    | false => simp at hc
    | true =>
      simp only at hc
      obtain ⟨x', hx, rfl⟩ := map_okG hc
      exact evNxt_ok hx hT hW he

/-- The step of an operation, on the machine's side. -/
def Goes (P : Program) (l : Option Nat) (n : Nat) (ι : Io) (s : St) (w : World) (a : Act) (o : Oper) (v : Value) (s1 : St) : Prop :=
  ∀ (next : Act → World → Prop) (Q : Exit → Act → World → Prop), (∀ v' ι' w', VR ι' v v' → Po P ι s w ι' s1 w' → next (a.put o.dst v') w') → o.wpIn (FW l) n P a w next Q

theorem goes_run {l : Option Nat} {n : Nat} {o : Oper} {v v' : Value} {s1 : St} {ι' : Io} {w' : World} (hd : ∀ c, o.op ≠ .defer c) (hv : VR ι' v v') (hp : Po P ι s w ι' s1 w')
    (hr : (execOp a.eval o).run P w = .ok (.value v') w' ∨ ((execOp a.eval o).run P w = .ok .skip w' ∧ v' = undef)) : Goes P l n ι s w a o v s1 := by
  intro next Q hK
  refine ⟨fun _ _ => trivial, ?_⟩
  rw [Oper.semAt_eq _ _ _ hd]
  rcases hr with hr | ⟨hr, rfl⟩
  · rw [hr]; exact hK _ _ _ hv hp
  · rw [hr]; exact hK _ _ _ hv hp

/-- What a call of a function value comes to. -/
def CallR (P : Program) (fv : Value) (args : List Value) (w : World) (R : Value → World → Prop) : Prop :=
  (∃ g xs ys fn, fv = .func (.func g) ⟨xs⟩ ⟨ys⟩ ∧ P.funcs[g]? = some fn ∧ fn.body.isSome = true ∧ (fn.name == "runtime.NumGoroutine") = false ∧
    ∀ n, CallsIn Fence.wide n P g ⟨xs ++ args ++ ys⟩ w fun e w' => ∃ v', e = .returned v' ∧ R v' w') ∨
  (∃ r lp, fv = .func (.yield r) #[] #[] ∧ w.heap[r]? = some (.loop lp) ∧ args.length = lp.params.size ∧
    ∀ n, RoundIn Fence.wide n P r lp.fn ((lp.params.zip ⟨args⟩).foldl (fun tmps (t, x) => tmps.setIfInBounds t x) lp.tmps) lp.assign lp.body w fun e w' => ∃ v', e = .returned v' ∧ R v' w')

def CallOK (P : Program) (call : Value → List Value → St → Option (Value × St)) : Prop :=
  ∀ fv args s v s1, call fv args s = some (v, s1) → ∀ ι w fv' args', VR ι fv fv' → LR ι args args' → WR P ι s w → CallR P fv' args' w fun v' w' => ∃ ι', VR ι' v v' ∧ Po P ι s w ι' s1 w'

theorem goes_call {l : Option Nat} {n : Nat} {c : Call} {f : Operand} {v : Value} {s1 : St} {dst : Option Tmp} {ty : TypeId} {pos : String} {after : Array Edge} {guard : Option (Nat × Bool)} (hcal : c.callee = .value f)
    (h : CallR P (a.eval f) (c.args.map a.eval).toList w fun v' w' => ∃ ι', VR ι' v v' ∧ Po P ι s w ι' s1 w') : Goes P l n ι s w a ⟨dst, .call c, ty, pos, after, guard⟩ v s1 := by
  intro next Q hK
  refine ⟨fun _ _ => trivial, ?_⟩
  rw [Oper.semAt_eq _ _ _ (fun c h => by cases h)]
  obtain ⟨callee, args, argTypes⟩ := c
  simp only at hcal
  subst hcal
  rcases h with ⟨g, xs, ys, fn, hf, hfn, hb, hname, hcall⟩ | ⟨r, lp, hf, hheap, hlen, hround⟩
  · have hbn : fn.body.isNone = false := by cases hbb : fn.body <;> simp_all
    have hrun : (execOp a.eval ⟨dst, .call ⟨.value f, args, argTypes⟩, ty, pos, after, guard⟩).run P w = .ok (.enter g ⟨xs ++ (args.map a.eval).toList ++ ys⟩) w := by
      simp only [execOp, resolve, Deferred.ofValue, hf, Sem.run_bind, Sem.run_pure, Result.andThen_ok, invoke, callFunc, run_program, hfn, hname, hbn, Bool.false_eq_true, if_false]
      congr 2
      simp
    rw [hrun]
    refine ⟨fun h => by simp [FW, Fence.wide] at h, ?_⟩
    refine CallsIn.mono (hcall _ : CallsIn (FW l) (n - 1) P g _ w _) ?_
    rintro e w' ⟨v', rfl, ι', hv, hp⟩
    exact hK _ _ _ hv hp
  · have hg : (getObj r).run P w = .ok (.loop lp) w := getObj_run hheap (fun _ _ _ h => by cases h)
    have hrun : (execOp a.eval ⟨dst, .call ⟨.value f, args, argTypes⟩, ty, pos, after, guard⟩).run P w = .ok (.round r lp.fn ((lp.params.zip (args.map a.eval)).foldl (fun tmps (t, x) => tmps.setIfInBounds t x) lp.tmps) lp.assign lp.body) w := by
      have hlen' : (args.map a.eval).size = lp.params.size := by simpa using hlen
      simp only [Array.size_map] at hlen'
      simp [execOp, resolve, Deferred.ofValue, hf, invoke, Instr.yield, Instr.getLoop, hg, hlen']
    rw [hrun]
    refine ⟨fun h => by simp [FW, Fence.wide] at h, ?_⟩
    refine RoundIn.mono (hround _ : RoundIn (FW l) (n - 1) P r lp.fn _ _ _ w _) ?_
    rintro e w' ⟨v', rfl, ι', hv, hp⟩
    exact hK _ _ _ hv hp

theorem compC1_ok {o : Oper} {io : IOp} (h : compC1 P o = some io) : compC0 P o = some io ∨ io = badOp := by
  unfold compC1 at h
  split at h
  · rename_i h0; cases h; exact .inl h0
  · cases h; exact .inr rfl
theorem bad_none {call : Value → List Value → St → Option (Value × St)} {io : Ins} {β : Type} {k : Value → St → Option β} (h : io.op = badOp) : evI call io T s k = none := by
  unfold evI
  rw [h]
  rfl
theorem notDefer {o : Oper} {io : IOp} (hc : compC0 P o = some io) : ∀ c, o.op ≠ .defer c := by
  intro c h
  simp [compC0, h, compP, compR, compA, compW] at hc

theorem evI_ok {call : Value → List Value → St → Option (Value × St)} (hcall : CallOK P call) {o : Oper} {io : Ins} {β : Type} {k : Value → St → Option β} {res : β} (hc : compC1 P o = some io.op) (hT : TR ι T a.tmps) (hW : WR P ι s w) (he : evI call io T s k = some res) :
    ∃ v s1, k v s1 = some res ∧ ∀ l n, Goes P l n ι s w a o v s1 := by
  replace hc : compC0 P o = some io.op := by
    rcases compC1_ok hc with h | h
    · exact h
    · rw [bad_none h] at he; cases he
  have hnd := notDefer hc
  have plain : ∀ {q : IOp}, io.op = q → (match compP P o with
      | some p => some (.p p)
      | none => match compR P o with
        | some r => some (.r r)
        | none => match compA P o with
          | some a => some (.a a)
          | none => match compW P o with
            | some w => some (.w w)
            | none => none) = some q → ∃ v s1, k v s1 = some res ∧ ∀ l n, Goes P l n ι s w a o v s1 := by
    intro q hq h
    unfold evI at he
    rw [hq] at he
    split at h
    · rename_i p hp
      cases h
      simp only [i_p] at he
      split at he
      · rename_i v hv
        obtain ⟨v', hvr, hr⟩ := evP_ok hp hT hv
        exact ⟨v, s, he, fun l n => goes_run hnd hvr (Po.refl hW) (.inl (hr w))⟩
      · cases he
    · split at h
      · rename_i r hr
        cases h
        simp only [i_r] at he
        split at he
        · rename_i v hv
          obtain ⟨v', hvr, hrun⟩ := evR_ok hr hT hW hv
          exact ⟨v, s, he, fun l n => goes_run hnd hvr (Po.refl hW) (.inl hrun)⟩
        · cases he
      · split at h
        · rename_i aa ha
          cases h
          simp only [i_a] at he
          split at he
          · cases he
          · rename_i hlt
            split at he
            · rename_i lo f hf
              rw [St.newK_eq] at he
              obtain ⟨c, x, g, hrun, hor, hvr⟩ := evA_ok (P := P) ha hT hf
              obtain ⟨ι', hι', hpo⟩ := Po.new hW (blt_true hlt) hor
              exact ⟨_, _, he, fun l n => goes_run hnd (hvr ι' _ _ hι') hpo (.inl (hrun w))⟩
            · cases he
        · split at h
          · rename_i wo hw
            cases h
            simp only [i_w] at he
            obtain ⟨v, s1, hk, v', ι', w', hvr, hpo, hrun⟩ := evW_ok hw hT hW he
            exact ⟨v, s1, hk, fun l n => goes_run hnd hvr hpo hrun⟩
          · cases h
  obtain ⟨dst, op, type, pos, after, guard⟩ := o
  unfold compC0 at hc
  split at hc
  · rename_i f args at_ hop
    try simp only at hop
    subst hop
    simp only [bind, Option.bind_eq_some_iff, Option.some.injEq] at hc
    obtain ⟨f', hf, args', hargs, hq⟩ := hc
    unfold evI at he
    rw [← hq] at he
    simp only [i_call] at he
    split at he
    · rename_i v s1 hv
      exact ⟨v, s1, he, fun l n => goes_call rfl (hcall _ _ _ _ _ hv ι w _ _ (compX_ok hf hT) (compXs_ok hargs hT) hW)⟩
    · cases he
  · exact plain rfl hc

/-! ### regions -/
theorem tget_put {T : Tm} {t : Nat} {v : Value} (h : t < limT) (j : Nat) : tget (tput T t v) j = if j = t then v else tget T j := by
  unfold tget tput
  rw [Tr.get_set DT T t (some v) j (by unfold limT at h; unfold DT; omega)]
  by_cases e : j = t <;> simp [e]
theorem TR.put {ι : Io} {T : Tm} {tmps : Array Value} (hT : TR ι T tmps) {t : Nat} {v v' : Value} (h : t < limT) (hs : t < tmps.size) (hv : VR ι v v') : TR ι (tput T t v) (tmps.setIfInBounds t v') := by
  intro j
  rw [tget_put h]
  by_cases e : j = t
  · subst e
    simp [hs]
    exact hv
  · rw [if_neg e]
    have := hT j
    simpa [Array.getElem?_setIfInBounds_ne (Ne.symm e)] using this
theorem put_ok {ι : Io} {nt : Nat} {d : Option Nat} {v v' : Value} (hd : dstOk nt d = true) (hs : nt ≤ a.tmps.size) (hT : TR ι T a.tmps) (hv : VR ι v v') {β : Type} {k : Tm → β} :
    ∃ T1, putD d T v k = k T1 ∧ TR ι T1 (a.put d v').tmps ∧ (a.put d v').tmps.size = a.tmps.size ∧ (a.put d v').defers = a.defers := by
  cases d with
  | none => exact ⟨T, rfl, hT, rfl, rfl⟩
  | some d =>
    simp only [dstOk, Bool.and_eq_true] at hd
    have h1 := blt_true hd.1
    have h2 := blt_true hd.2
    refine ⟨tput T d v, by simp only [putD, Tr.setK_eq]; rfl, ?_, by simp [Act.put], rfl⟩
    exact hT.put h2 (by omega) hv

theorem wanted_ok {ι : Io} {ops : Array Oper} {o : Oper} {g : Option (Nat × Bool)} (hT : TR ι T a.tmps) (hg : compG ops o.guard = some g) : (wanted T g = true ∨ gOK T g = true) → Region.wanted o (yielded ops a.tmps) = wanted T g := by
  unfold Region.wanted
  cases ho : o.guard with
  | none =>
    rw [ho] at hg
    simp only [compG, Option.some.injEq] at hg
    subst hg
    intro _
    rfl
  | some jb =>
    obtain ⟨j, b⟩ := jb
    rw [ho] at hg
    simp only [compG] at hg
    split at hg
    · rename_i t ht
      cases hg
      simp only [yielded, ht, Option.bind_some, wanted, gOK]
      have hv := hT t
      cases hq : a.tmps[t]? with
      | none =>
        have e : a.tmps.getD t undef = undef := by simp [hq]
        rw [e] at hv
        generalize tget T t = x at hv
        cases hv <;> first
          | (simp; done)
          | (rename_i hs; cases hs)
      | some y =>
        have e : a.tmps.getD t undef = y := by simp [hq]
        rw [e] at hv
        generalize tget T t = x at hv
        intro hk
        cases hv <;> first
          | (exfalso; simp at hk; done)
          | (cases b <;> simp; done)
          | (rename_i c; cases b <;> cases c <;> rfl)
    · cases hg

def pairV (v : Value) (s : St) : Option (Value × St) := some (v, s)
def pairT (T : Tm) (s : St) : Option (Tm × St) := some (T, s)
theorem w_st_k {β : Type} (n : Nat) (x y : Opd) (T : Tm) (s : St) (k : Value → St → Option β) : w_st n x y T s k = (w_st n x y T s pairV).bind fun p => k p.1 p.2 := by
  unfold w_st
  simp only [St.putK_eq, St.newK_eq]
  repeat' (first | rfl | split)
theorem w_mup_k {β : Type} (n : Nat) (ag : Bool) (m x y : Opd) (T : Tm) (s : St) (k : Value → St → Option β) : w_mup n ag m x y T s k = (w_mup n ag m x y T s pairV).bind fun p => k p.1 p.2 := by
  unfold w_mup
  simp only [St.putK_eq, St.newK_eq]
  repeat' (first | rfl | split)
theorem w_app_k {β : Type} (n : Nat) (x y : Opd) (T : Tm) (s : St) (k : Value → St → Option β) : w_app n x y T s k = (w_app n x y T s pairV).bind fun p => k p.1 p.2 := by
  unfold w_app
  simp only [St.putK_eq, St.newK_eq]
  repeat' (first | rfl | split)
theorem w_cpy_k {β : Type} (n : Nat) (x y : Opd) (T : Tm) (s : St) (k : Value → St → Option β) : w_cpy n x y T s k = (w_cpy n x y T s pairV).bind fun p => k p.1 p.2 := by
  unfold w_cpy
  simp only [St.putK_eq, St.newK_eq]
  repeat' (first | rfl | split)
theorem w_clr_k {β : Type} (z : List Value) (x : Opd) (T : Tm) (s : St) (k : Value → St → Option β) : w_clr z x T s k = (w_clr z x T s pairV).bind fun p => k p.1 p.2 := by
  unfold w_clr
  simp only [St.putK_eq, St.newK_eq]
  repeat' (first | rfl | split)
theorem w_nxt_k {β : Type} (x : Opd) (T : Tm) (s : St) (k : Value → St → Option β) : w_nxt x T s k = (w_nxt x T s pairV).bind fun p => k p.1 p.2 := by
  unfold w_nxt
  simp only [St.putK_eq, St.newK_eq]
  repeat' (first | rfl | split)
theorem evI_k (call : Value → List Value → St → Option (Value × St)) {β : Type} (io : Ins) (T : Tm) (s : St) (k : Value → St → Option β) : evI call io T s k = (evI call io T s pairV).bind fun p => k p.1 p.2 := by
  unfold evI
  split
  · unfold i_p; split <;> rfl
  · unfold i_r; split <;> rfl
  · unfold i_a
    split
    · rfl
    · split
      · simp only [St.newK_eq]; rfl
      · rfl
  · unfold i_w evW evWd
    rename_i op _
    cases op
    · exact w_st_k ..
    · exact w_mup_k ..
    · exact w_app_k ..
    · exact w_cpy_k ..
    · exact w_clr_k ..
    · exact w_nxt_k ..
  · unfold i_call; split <;> rfl
theorem evOps_k (call : Value → List Value → St → Option (Value × St)) {β : Type} : ∀ (l : List Ins) (T : Tm) (s : St) (k : Tm → St → Option β), evOps call l T s k = (evOps call l T s pairT).bind fun p => k p.1 p.2
  | [], T, s, k => rfl
  | o :: l, T, s, k => by
    simp only [evOps]
    split
    · rw [evI_k, evI_k (k := fun v s => force v fun v => putD o.dst T v fun T => evOps call l T s pairT)]
      cases evI call o T s pairV with
      | none => rfl
      | some p =>
        simp only [Option.bind_some, force_eq]
        cases o.dst with
        | none => simp only [putD]; exact evOps_k call l _ _ k
        | some d => simp only [putD, Tr.setK_eq]; exact evOps_k call l _ _ k
    · cases gOK T o.grd with
      | false => rfl
      | true =>
        simp only
        cases o.dst with
        | none => simp only [putD]; exact evOps_k call l _ _ k
        | some d => simp only [putD, Tr.setK_eq]; exact evOps_k call l _ _ k

theorem evOps_ok {call : Value → List Value → St → Option (Value × St)} (hcall : CallOK P call) {nt : Nat} {ops : Array Oper} {l : Option Nat} {n : Nat} : ∀ {rs : List Oper} {i : Nat} {il : List Ins} {T T2 : Tm} {s s2 : St} {ι : Io} {w : World} {a : Act},
    ops.toList.drop i = rs → compOps P nt ops rs = some il → evOps call il T s pairT = some (T2, s2) → TR ι T a.tmps → nt ≤ a.tmps.size → WR P ι s w →
    ∀ Q : Exit → Act → World → Prop, (∀ a' ι' w', TR ι' T2 a'.tmps → a'.tmps.size = a.tmps.size → a'.defers = a.defers → Po P ι s w ι' s2 w' → Q .normal a' w') → wpOpsIn (FW l) n P ops Q (List.range' i rs.length) a w := by
  intro rs
  induction rs with
  | nil =>
    intro i il T T2 s s2 ι w a hd hc he hT hs hW Q hQ
    simp only [compOps, Option.some.injEq] at hc
    subst hc
    cases he
    exact hQ a ι w hT rfl rfl (Po.refl hW)
  | cons o rs ih =>
    intro i il T T2 s s2 ι w a hd hc he hT hs hW Q hQ
    simp only [compOps] at hc
    cases h1 : compIO P nt ops o with
    | none => rw [h1] at hc; cases hc
    | some io =>
      rw [h1] at hc
      simp only at hc
      cases h2 : compOps P nt ops rs with
      | none => rw [h2] at hc; cases hc
      | some il' =>
        rw [h2] at hc
        cases hc
        have hoi : ops[i]? = some o := by
          rw [← Array.getElem?_toList]
          have : (ops.toList.drop i)[0]? = some o := by rw [hd]; rfl
          simpa using this
        have hd' : ops.toList.drop (i + 1) = rs := by
          rw [← List.drop_drop, hd]; rfl
        unfold compIO at h1
        split at h1
        · rename_i hdst
          simp only [bind, Option.bind_eq_some_iff, Option.some.injEq] at h1
          obtain ⟨op', hop, g, hg, rfl⟩ := h1
          simp only [evOps] at he
          have hgk : wanted T g = true ∨ gOK T g = true := by
            cases hwt : wanted T g with
            | true => exact .inl rfl
            | false =>
              rw [hwt] at he
              simp only at he
              cases hgk : gOK T g with
              | true => exact .inr rfl
              | false => rw [hgk] at he; cases he
          have hw := wanted_ok hT hg hgk
          simp only [List.length_cons, List.range'_succ, wpOpsIn, hoi]
          cases hwt : wanted T g with
          | true =>
            rw [hwt] at he
            simp only at he
            rw [hw, hwt, if_pos rfl]
            obtain ⟨v, s1, hk, hgo⟩ := evI_ok hcall hop hT hW he
            rw [force_eq] at hk
            refine hgo l n _ _ fun v' ι' w' hv hp => ?_
            obtain ⟨T1, e1, hT1, hs1, hdf⟩ := put_ok (a := a) (k := fun T => evOps call il' T s1 pairT) hdst hs (hT.mono hp.ext) hv
            rw [e1] at hk
            exact ih hd' h2 hk hT1 (by omega) hp.wr Q fun a' ι'' w'' q1 q2 q3 q4 => hQ a' ι'' w'' q1 (by omega) (by rw [q3, hdf]) (hp.trans q4)
          | false =>
            have hgk' : gOK T g = true := by
              rcases hgk with h | h
              · rw [hwt] at h; cases h
              · exact h
            rw [hwt] at he
            simp only [hgk'] at he
            obtain ⟨T1, e1, hT1, hs1, hdf⟩ := put_ok (k := fun T => evOps call il' T s pairT) hdst hs hT (undef_ok ι)
            rw [e1] at he
            rw [hw, hwt, if_neg (by simp)]
            exact ⟨fun _ _ => trivial, ih hd' h2 he hT1 (by omega) hW Q fun a' ι' w' q1 q2 q3 q4 => hQ a' ι' w' q1 (by omega) (by rw [q3, hdf]) q4⟩
        · cases h1
end
end Go.Sim
