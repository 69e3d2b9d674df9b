import Derived.Test.YtkjgachpmebipaiGreatDoorSimO
/- Calls and code. -/
namespace Go.Sim
set_option linter.all false
open Go
variable [Rho] [Asm] [SymOK]

section
variable {P : Program} {ι : Io} {T : Tm} {a : Act} {s : St} {w : World}

/-! ### the end of a call -/
theorem flatL_ok {ι ι' : Io} {m : Nat} (h : ∀ b r, b < m → ι' b = some r → ι b = some r) : ∀ {l l' : List Value}, flatL m l = true → LR ι' l l' → LR ι l l'
  | _, _, _, .nil => .nil
  | _, _, hf, .cons hv hl => by
    simp only [flatL] at hf
    split at hf
    · rename_i h1
      exact .cons (VR.backFlat h 4 _ _ h1 hv) (flatL_ok h hf hl)
    · cases hf
theorem flatE_ok {ι ι' : Io} {m : Nat} (h : ∀ b r, b < m → ι' b = some r → ι b = some r) : ∀ {l : List (Value × Value)} {l' : List MapEntry}, flatE m l = true → ER ι' l l' → ER ι l l'
  | _, _, _, .nil => .nil
  | _, _, hf, .cons hk hv hl => by
    simp only [flatE] at hf
    split at hf
    · rename_i h1 h2
      exact .cons (VR.backFlat h 4 _ _ h1 hk) (VR.backFlat h 4 _ _ h2 hv) (flatE_ok h hf hl)
    · cases hf
theorem flatO_ok {ι ι' : Io} {m c : Nat} {lo : LO} {o : Obj} (h : ∀ b r, b < m → ι' b = some r → ι b = some r) (hf : flatO m lo = true) (ho : OR P ι' c lo o) : OR P ι c lo o := by
  cases lo with
  | cells l => obtain ⟨cs, t, e, hc, l', tl, h1, h2⟩ := ho; exact ⟨cs, t, e, hc, l', tl, h1, flatL_ok h hf h2⟩
  | map n ag es => obtain ⟨en, ck, e, h1, h2⟩ := ho; exact ⟨en, ck, e, flatE_ok h hf h1, h2⟩
  | loop st pend T ps asg body => cases hf
  | defd b => exact ho
  | ro l => exact ho
  | siter l pos => exact ho

theorem back_ok {m : Nat} {h' : Tr LO} : ∀ {ws : List Nat} {h h1 : Tr LO}, back m h' h ws = some h1 → (∀ b ∈ ws, b + 1 < 2 ^ DH) → (∀ b ∈ ws, ∃ o, h'.get b = some o ∧ flatO m o = true) ∧ ∀ j, h1.get j = if j ∈ ws then h'.get j else h.get j
  | [], h, h1, e, _ => by
    simp only [back, Option.some.injEq] at e
    subst e
    simp
  | b :: ws, h, h1, e, hb => by
    simp only [back] at e
    split at e
    · rename_i o ho
      split at e
      · rename_i hf
        obtain ⟨q1, q2⟩ := back_ok e fun x hx => hb x (List.mem_cons_of_mem _ hx)
        refine ⟨fun x hx => ?_, fun j => ?_⟩
        · rcases List.mem_cons.1 hx with rfl | hx
          · exact ⟨o, ho, hf⟩
          · exact q1 x hx
        · rw [q2 j, Tr.get_set DH h b (some o) j (hb b List.mem_cons_self)]
          by_cases h1 : j ∈ ws
          · simp [h1]
          · by_cases h2 : j = b
            · subst h2; simp [ho]
            · simp [h1, h2]
      · cases e
    · cases e
theorem merge_ok {bs : Nat} : ∀ {l ws : List Nat}, (∀ b, b ∈ ws → b ∈ merge bs ws l) ∧ (∀ b, b ∈ l → b < bs → b ∈ merge bs ws l)
  | [], ws => ⟨fun _ h => h, fun _ h => by simp at h⟩
  | b :: l, ws => by
    simp only [merge]
    split
    · rename_i h1 h2
      obtain ⟨q1, q2⟩ := merge_ok (bs := bs) (l := l) (ws := b :: ws)
      refine ⟨fun x hx => q1 x (List.mem_cons_of_mem _ hx), fun x hx hlt => ?_⟩
      rcases List.mem_cons.1 hx with rfl | hx
      · exact q1 _ List.mem_cons_self
      · exact q2 x hx hlt
    · rename_i hne
      obtain ⟨q1, q2⟩ := merge_ok (bs := bs) (l := l) (ws := ws)
      refine ⟨q1, fun x hx hlt => ?_⟩
      rcases List.mem_cons.1 hx with rfl | hx
      · have hblt : Nat.blt x bs = true := by simpa [Nat.blt_eq] using hlt
        cases hm : mem x ws with
        | true => exact q1 _ (mem_ok hm)
        | false => exact absurd hm (hne hblt)
      · exact q2 x hx hlt

theorem merge_mem {bs : Nat} : ∀ {l ws : List Nat} {b : Nat}, b ∈ merge bs ws l → b ∈ ws ∨ b < bs
  | [], ws, b, h => .inl h
  | c :: l, ws, b, h => by
    simp only [merge] at h
    split at h
    · rename_i h1 h2
      rcases merge_mem h with h | h
      · rcases List.mem_cons.1 h with rfl | h
        · exact .inr (blt_true h1)
        · exact .inl h
      · exact .inr h
    · exact merge_mem h
/-- A call goes about its own blocks. -/
theorem callee_wr (hW : WR P ι s w) : WR P ι ⟨s.h, s.n, s.n, []⟩ w := ⟨hW.obj, hW.inj, hW.bound, hW.dom, hW.lim, Nat.le_refl _, fun _ h => (by cases h), hW.pin, hW.env⟩

theorem done_ok (hW : WR P ι s w) {ι' : Io} {s' s1 : St} {w' : World} {v v' v1 : Value} (hp : Po P ι ⟨s.h, s.n, s.n, []⟩ w ι' s' w') (hv : VR ι' v v') (he : done s v s' = (v1, s1)) :
    ∃ ι1, VR ι1 v1 v' ∧ Po P ι s w ι1 s1 w' := by
  have keep : ∃ ι1, VR ι1 v v' ∧ Po P ι s w ι1 ⟨s'.h, s'.n, s.bs, merge s.bs s.ws s'.ws⟩ w' := by
    refine ⟨ι', hv, ⟨hW, hp.ext, ⟨hp.wr.obj, hp.wr.inj, hp.wr.bound, hp.wr.dom, hp.wr.lim, Nat.le_trans hW.bsn hp.nle, fun b hb => (merge_mem hb).elim (hW.wsb b) id, hp.wr.pin, hp.wr.env⟩, hp.os, hp.tape, hp.output, hp.size, ?_, ?_, hp.newid, ?_, hp.dead, rfl, hp.nle, fun b hb => (merge_ok).1 b hb⟩⟩
    · intro k hk hh
      refine hp.frame k hk fun b c hb => ?_
      rcases hh b c hb with e | ⟨e1, e2⟩
      · exact .inl e
      · exact .inr ⟨hW.dom _ _ hb, fun hm => e2 ((merge_ok).2 b hm e1)⟩
    · intro b r c h1 h2 hr
      obtain ⟨b0, c0, e0, l0, o0⟩ := hp.newold b r c h1 h2 hr
      refine ⟨b0, c0, e0, l0, ?_⟩
      rcases o0 with o | o
      · exact absurd (hW.dom _ _ e0) (Nat.not_lt.2 o)
      · by_cases hlt : b0 < s.bs
        · exact .inr ((merge_ok).2 b0 o hlt)
        · exact .inl (Nat.not_lt.1 hlt)
    · intro b hb hw
      exact hp.inv b (Nat.lt_of_lt_of_le hb hW.bsn) fun hm => hw ((merge_ok).2 b hm hb)
  unfold done at he
  split at he
  · rename_i hf
    split at he
    · rename_i h1 hback
      cases he
      have hback' : ∀ b r, b < s.n → ι' b = some r → ι b = some r := fun b r hb h => by
        cases hi : ι b with
        | none => exact absurd (hp.newid b r hi h) (Nat.not_le.2 hb)
        | some x => have := hp.ext _ _ hi; rw [h] at this; exact this.symm
      have hws : ∀ b ∈ s'.ws, b < s.n := fun b hb => by have := hp.wr.wsb b hb; rw [hp.bs] at this; exact this
      obtain ⟨q1, q2⟩ := back_ok hback fun b hb => lim_le (by have := hws b hb; have := hW.lim; omega)
      have hlive : ∀ j, h1.get j ≠ none → s.h.get j ≠ none := fun j hj e => by
        rw [q2 j] at hj
        split at hj
        · rename_i hm
          exact hj (hp.dead j (hws j hm) e)
        · exact hj e
      refine ⟨ι, VR.backFlat hback' 4 _ _ hf hv, ⟨hW, .refl _, ⟨?_, ?_, ?_, hW.dom, hW.lim, hW.bsn, fun b hb => (merge_mem hb).elim (hW.wsb b) id, hW.pin, ⟨hW.env.low, hp.wr.env.top, hp.wr.env.old⟩⟩, hp.os, hp.tape, hp.output, hp.size, ?_, ?_, ?_, ?_, ?_, rfl, Nat.le_refl _, fun b hb => (merge_ok).1 b hb⟩⟩
      · intro j o hj
        have hj2 : h1.get j = some o := hj
        rw [q2 j] at hj2
        split at hj2
        · rename_i hm
          obtain ⟨r, c, x, e1, e2, e3⟩ := hp.wr.obj j o hj2
          obtain ⟨o', ho', hfo⟩ := q1 j hm
          rw [hj2] at ho'
          cases ho'
          exact ⟨r, c, x, hback' j _ (hws j hm) e1, e2, flatO_ok hback' hfo e3⟩
        · rename_i hm
          obtain ⟨r0, c0, x0, f1, f2, f3⟩ := hW.obj j o hj2
          have hjn := hW.dom _ _ f1
          have e0 := (hp.inv j hjn hm).trans hj2
          obtain ⟨r, c, x, e1, e2, e3⟩ := hp.wr.obj j o e0
          have e4 := hp.ext _ _ f1
          rw [e1] at e4
          cases e4
          exact ⟨_, _, x, f1, e2, f3.back hp.ext e3⟩
      · intro j j' r c c' h1 h2 h3 h4
        exact hW.inj j j' r c c' (hlive j h1) (hlive j' h2) h3 h4
      · intro j r c h
        exact Nat.lt_of_lt_of_le (hW.bound j r c h) hp.size
      · intro k hk hh
        refine hp.frame k hk fun b c hb => ?_
        rcases hh b c hb with e | ⟨e1, e2⟩
        · exact .inl e
        · exact .inr ⟨hW.dom _ _ hb, fun hm => e2 ((merge_ok).2 b hm e1)⟩
      · intro b r c h1 h2; rw [h1] at h2; cases h2
      · intro b r h1 h2; rw [h1] at h2; cases h2
      · intro b hb hw
        show h1.get b = _
        rw [q2 b, if_neg]
        intro hm
        exact hw ((merge_ok).2 b hm hb)
      · intro b hb e
        show h1.get b = none
        rw [q2 b]
        split
        · exact hp.dead b hb e
        · exact e
    · cases he; exact keep
  · cases he; exact keep

/-! ### marks -/
inductive DsOK (ι : Io) (bs : Nat) : List Nat → List Deferred → Prop
  | nil : DsOK ι bs [] []
  | cons {d r c : Nat} {ds : List Nat} {l : List Deferred} : ι d = some (r, c) → bs ≤ d → DsOK ι bs ds l → DsOK ι bs (d :: ds) ({ target := .collected r, args := #[] } :: l)
theorem DsOK.mono {ι ι' : Io} (h : Ext ι ι') {bs : Nat} : ∀ {ds l}, DsOK ι bs ds l → DsOK ι' bs ds l
  | _, _, .nil => .nil
  | _, _, .cons h1 h2 h3 => .cons (h _ _ h1) h2 (h3.mono h)

theorem DsOK.nilI {ι : Io} {bs : Nat} {l : List Deferred} (h : DsOK ι bs [] l) : l = [] := by cases h; rfl
theorem put_own {s : St} {b : Nat} {o : Option LO} (h : s.bs ≤ b) : s.put b o = ⟨Tr.set DH s.h b o, s.n, s.bs, s.ws⟩ := by
  unfold St.put note
  have : Nat.blt b s.bs = false := by
    cases hb : Nat.blt b s.bs with
    | false => rfl
    | true => have := blt_true hb; omega
  rw [this]

theorem shut_ok {F : Fence} {n : Nat} {fn : Func} {tmps : Array Value} {R : Ending → World → Prop} : ∀ {ds : List Nat} {l : List Deferred} {s : St} {ι : Io} {w : World} {h1 : Tr LO}, DsOK ι s.bs ds l → shut s.h ds = some h1 → WR P ι s w →
    (∀ w', Po P ι s w ι ⟨h1, s.n, s.bs, s.ws⟩ w' → LeavesInM F n P fn tmps R [] .returning w') → LeavesInM F n P fn tmps R l .returning w
  | [], _, s, ι, w, h1, .nil, e, hW, hK => by
    simp only [shut, Option.some.injEq] at e
    subst e
    exact hK w (Po.refl hW)
  | d :: ds, _, s, ι, w, h1, .cons (r := r) (c := c) hd hb hl, e, hW, hK => by
    simp only [shut] at e
    split at e
    · rename_i hg
      obtain ⟨r', c', x, e1, e2, e3⟩ := hW.obj _ _ hg
      rw [hd] at e1
      cases e1
      have e4 : x = .deferred (some []) := e3
      subst e4
      have hlt := hW.bound _ _ _ hd
      have hgo : (getObj r).run P w = .ok (.deferred (some [])) w := getObj_run e2 (fun _ _ _ h => by cases h)
      have hso : (setObj r (.deferred none)).run P w = .ok () { w with heap := w.heap.setIfInBounds r (.deferred none) } := setObj_run e2 (fun _ _ _ h => by cases h)
      have hpo := Po.put hW (by rw [hg]; simp) hd (o := .defd false) (x := .deferred none) rfl (upd_set hlt)
      rw [put_own hb] at hpo
      refine ⟨by simp, .inl ⟨r, _, rfl, ?_, shut_ok (s := ⟨Tr.set DH s.h d (some (.defd false)), s.n, s.bs, s.ws⟩) hl e hpo.wr fun w' hp => hK w' (hpo.trans hp)⟩⟩
      simp only [Instr.takeDeferred, Sem.run_bind, hgo, Result.andThen_ok, hso, Sem.run_pure]
    · cases e

/-! ### the statements -/
def outE : Out → Exit
  | .norm => .normal
  | .ret => .ret
  | .exit id => .exit id
  | .goto l => .goto l

def RdOK (ι : Io) (rnd l : Option Nat) : Prop := match rnd with
  | none => l = none
  | some b => ∃ r c, ι b = some (r, c) ∧ l = some r
theorem RdOK.mono {ι ι' : Io} (h : Ext ι ι') {rnd l : Option Nat} (hr : RdOK ι rnd l) : RdOK ι' rnd l := by
  cases rnd with
  | none => exact hr
  | some b => obtain ⟨r, c, h1, h2⟩ := hr; exact ⟨r, c, h _ _ h1, h2⟩

/-- What the walk owes where the reckoner has an answer. -/
def Post (P : Program) (ι : Io) (s : St) (w : World) (a : Act) (cf : Cf) (Q : Exit → Act → World → Prop) : Prop :=
  ∀ a' ι' w', TR ι' cf.T a'.tmps → a'.tmps.size = a.tmps.size → Po P ι s w ι' cf.s w' → DsOK ι' s.bs cf.ds a'.defers → Q (outE cf.out) a' w'
def CodeOK (P : Program) (code : IC → Option Nat → List Nat → Tm → St → Option Cf) : Prop :=
  ∀ nt c ic rnd ds T s cf, comp P nt c = some ic → code ic rnd ds T s = some cf → ∀ ι w a l n Q, TR ι T a.tmps → nt ≤ a.tmps.size → WR P ι s w → RdOK ι rnd l → DsOK ι s.bs ds a.defers → Post P ι s w a cf Q →
    c.wpIn (FW l) n P Q a w ∧ ∀ c0, c = .loop c0 → LoopR (FW l) n P c0 Q a w

theorem compF_inv {f : FuncId} {fi : FI} (h : compF P f = some fi) : ∃ fn c, P.funcs[f]? = some fn ∧ fn.body = some c ∧ comp P fn.ntmps c = some fi.code ∧ fn.results.toList.mapM (compRes P) = some fi.res ∧ fn.ntmps = fi.nt ∧ (fn.name == "runtime.NumGoroutine") = false ∧ fi.nt ≤ limT := by
  unfold compF at h
  split at h
  · cases h
  · rename_i fn hfn
    split at h
    · cases h
    · rename_i c hc
      split at h
      · rename_i ic rs h1 h2
        split at h
        · cases h
        · rename_i hcond
          cases h
          simp only [Bool.or_eq_true, decide_eq_true_eq, not_or, Nat.not_lt] at hcond
          exact ⟨fn, c, hfn, hc, h1, h2, rfl, by simpa using hcond.1, hcond.2⟩
      · cases h

def TabOK (P : Program) (tab : Tr FI) : Prop := ∀ f fi, tab.get f = some fi → compF P f = some fi

theorem puts_ok : ∀ {ps : List Nat} {args args' : List Value} {T T1 : Tm} {tmps : Array Value}, puts T ps args = some T1 → LR ι args args' → TR ι T tmps → (∀ p ∈ ps, p < tmps.size) →
    TR ι T1 ((ps.zip args').foldl (fun tmps p => tmps.setIfInBounds p.1 p.2) tmps) ∧ ((ps.zip args').foldl (fun (tmps : Array Value) p => tmps.setIfInBounds p.1 p.2) tmps).size = tmps.size ∧ args'.length = ps.length
  | [], [], _, T, T1, tmps, h, .nil, hT, _ => by
    simp only [puts, Option.some.injEq] at h
    subst h
    exact ⟨hT, rfl, rfl⟩
  | [], _ :: _, _, _, _, _, h, _, _, _ => by simp [puts] at h
  | _ :: _, [], _, _, _, _, h, _, _, _ => by simp [puts] at h
  | t :: ps, v :: vs, _, T, T1, tmps, h, .cons (v' := v') hv hl, hT, hp => by
    simp only [puts] at h
    split at h
    · rename_i hlt
      obtain ⟨q1, q2, q3⟩ := puts_ok (tmps := tmps.setIfInBounds t v') h hl (hT.put (blt_true hlt) (hp t List.mem_cons_self) hv) (fun p hpm => by simpa using hp p (List.mem_cons_of_mem _ hpm))
      exact ⟨q1, by simpa using q2, by simp [q3]⟩
    · cases h

theorem jump_outE {o : Out} {P : Program} {l : Nat} {R : Ending → World → Prop} {a : Act} {w : World} (h : ∃ v w', (Instr.endRound l (jump o)).run P w = .ok v w' ∧ R (.returned v) w') : roundPost P l R (outE o) a w := by
  cases o <;> exact h

theorem callB_ok {tab : Tr FI} (htab : TabOK P tab) {code : IC → Option Nat → List Nat → Tm → St → Option Cf} (hcode : CodeOK P code) : CallOK P (callB tab code) := by
  intro fv args s v s1 he ι w fv' args' hf ha hW
  unfold callB at he
  split at he
  · rename_i g xs ys
    split at he
    · cases he
    · rename_i fi hfi
      split at he
      · cases he
      · rename_i hlen
        have hlen' := Nat.le_of_ble_eq_true hlen
        rw [len_eq] at hlen'
        split at he
        · rename_i o T' s' ds hcd
          obtain ⟨fn, c, hfn, hb, hcm, hres, hnt, hname, hlim⟩ := compF_inv (htab _ _ hfi)
          cases hf with
          | func hny hxs hys =>
            rename_i xs' ys'
            refine .inl ⟨g, xs', ys', fn, rfl, hfn, by rw [hb]; rfl, hname, fun n => ?_⟩
            have hall : LR ι (app xs (app args ys)) (xs' ++ args' ++ ys') := by
              rw [app_eq, app_eq, List.append_assoc]
              exact hxs.append (ha.append hys)
            have hsz := hall.length
            have htr := argsT_ok (pre := []) (k := fi.nt) hall (tr_e fi.nt) hlen' (by simpa using hlim)
            have hdone : ∀ (o : Out), (o = .norm ∨ o = .ret) → (match shut s'.h ds with
                | none => (none : Option (Value × St))
                | some h => match resV T' h fi.res with
                  | some vs => some (done s (outV vs) ⟨h, s'.n, s'.bs, s'.ws⟩)
                  | none => none) = some (v, s1) → ∀ (a' : Act) (ι' : Io) (w' : World), TR ι' T' a'.tmps → Po P ι ⟨s.h, s.n, s.n, []⟩ w ι' s' w' → DsOK ι' s.n ds a'.defers →
                LeavesInM Fence.wide n P fn a'.tmps (fun e w' => ∃ v', e = .returned v' ∧ ∃ ι', VR ι' v v' ∧ Po P ι s w ι' s1 w') a'.defers .returning w' := by
              intro o _ hm a' ι' w' hT' hp hds
              split at hm
              · cases hm
              · rename_i h1 hsh
                split at hm
                · rename_i vs hvs
                  have hds' : DsOK ι' s'.bs ds a'.defers := by rw [hp.bs]; exact hds
                  refine shut_ok hds' hsh hp.wr fun w'' hp2 => ?_
                  obtain ⟨v', hv1, hv2⟩ := results_ok hp2.wr hT' hres hvs
                  have hd : done s (outV vs) ⟨h1, s'.n, s'.bs, s'.ws⟩ = (v, s1) := by injection hm
                  obtain ⟨ι1, hv3, hp3⟩ := done_ok hW (hp.trans hp2) hv1 hd
                  exact ⟨v', hv2, v', rfl, ι1, hv3, hp3⟩
                · cases hm
            refine callsIn_of_wp_marks hfn hb trivial ?_ rfl
            have hargs : (⟨xs' ++ args' ++ ys'⟩ : Array Value) ++ Array.replicate (fn.ntmps - (⟨xs' ++ args' ++ ys'⟩ : Array Value).size) undef = ⟨[] ++ (xs' ++ args' ++ ys') ++ List.replicate (fi.nt - (app xs (app args ys)).length) undef⟩ := by
              apply Array.ext'
              rw [Array.toList_append, Array.toList_replicate, hnt, hsz]
              rfl
            rw [hargs]
            refine (hcode _ c fi.code none [] _ _ _ hcm hcd ι w _ none n _ htr ?_ (callee_wr hW) rfl .nil ?_).1
            · show fn.ntmps ≤ ([] ++ (xs' ++ args' ++ ys') ++ List.replicate (fi.nt - (app xs (app args ys)).length) undef).length
              rw [hnt, List.length_append, List.nil_append, ← hsz, List.length_replicate]
              omega
            · intro a' ι' w' hT' _ hp hds
              cases o with
              | norm => exact hdone .norm (.inl rfl) he a' ι' w' hT' hp hds
              | ret => exact hdone .ret (.inr rfl) he a' ι' w' hT' hp hds
              | exit id => cases he
              | goto l => cases he
        · cases he
  · rename_i l xs ys
    split at he
    · rename_i st0 pend0 T ps asg body0 hloop
      cases hf with
      | func hny _ _ => exact absurd rfl (hny _)
      | yld hl =>
      rename_i r c
      obtain ⟨r', c', x, e1, e2, lp, nt, rfl, e3, e4, e5, e6, e7, e8, e9, e10⟩ := hW.obj _ _ hloop
      rw [hl] at e1
      cases e1
      split at he
      · cases he
      · rename_i T1 hputs
        split at he
        · rename_i T2 s2 hasg
          obtain ⟨q1, q2, q3⟩ := puts_ok (tmps := lp.tmps) hputs ha e5 (fun p hp => Nat.lt_of_lt_of_le (e8 p hp) e6)
          have htm : (lp.params.zip ⟨args'⟩).foldl (fun tmps (t, x) => tmps.setIfInBounds t x) lp.tmps = (ps.zip args').foldl (fun tmps p => tmps.setIfInBounds p.1 p.2) lp.tmps := by
            rw [← Array.foldl_toList, Array.toList_zip, e7]
          refine .inr ⟨r, lp, rfl, e2, by rw [q3, ← e7]; simp, fun n => ?_⟩
          rw [htm]
          refine roundIn_of_wpIn trivial ?_
          refine (hcode nt lp.assign asg (some l) [] T1 s _ e9 hasg ι w { tmps := (ps.zip args').foldl (fun tmps p => tmps.setIfInBounds p.1 p.2) lp.tmps, defers := [] } (some r) n _ q1 (by show nt ≤ Array.size _; rw [q2]; exact e6) hW ⟨r, c, hl, rfl⟩ .nil ?_).1
          intro a1 ι1 w1 hT1 hsz1 hp1 hds1
          split at he
          · rename_i pend2 T3 ps3 asg3 body3 hloop2
            obtain ⟨r2, c2, x2, f1, f2, lp2, nt2, rfl, f3, f4, f5⟩ := hp1.wr.obj _ _ hloop2
            have f1' := hp1.ext _ _ hl
            rw [f1] at f1'
            cases f1'
            have hlt := hp1.wr.bound _ _ _ f1
            have hgo : (getObj r).run P w1 = .ok (.loop lp2) w1 := getObj_run f2 (fun _ _ _ h => by cases h)
            have hso : ∀ x, (setObj r x).run P w1 = .ok () { w1 with heap := w1.heap.setIfInBounds r x } := fun x => setObj_run f2 (fun _ _ _ h => by cases h)
            have hpo := Po.put hp1.wr (by rw [hloop2]; simp) f1 (o := .loop .busy pend2 T3 ps3 asg3 body3) (x := .loop { lp2 with state := .busy }) ⟨_, nt2, rfl, rfl, f4, f5⟩ (upd_set hlt)
            refine ⟨_, by simp only [Instr.beginRound, Instr.getLoop, Sem.run_bind, hgo, Result.andThen_ok, hso, f3, Sem.run_pure]; rfl, ?_⟩
            rw [St.putK_eq] at he
            split at he
            · rename_i o T4 s4 hbody
              have hp2 := hp1.trans hpo
              refine (hcode nt lp.body body0 (some l) [] _ _ _ e10 hbody ι1 _ a1 (some r) n _ hT1 (by rw [hsz1]; show nt ≤ Array.size _; rw [q2]; exact e6) hpo.wr ⟨r, c, f1, rfl⟩ (by rw [DsOK.nilI hds1]; exact .nil) ?_).1
              intro a2 ι2 w2 hT2 hsz2 hp3 hds2
              refine jump_outE ?_
              split at he
              · rename_i st5 pend5 T5 ps5 asg5 body5 hloop5
                obtain ⟨r5, c5, x5, g1, g2, lp5, nt5, rfl, g3, g4, g5⟩ := hp3.wr.obj _ _ hloop5
                have g1' := hp3.ext _ _ f1
                rw [g1] at g1'
                cases g1'
                have hlt5 := hp3.wr.bound _ _ _ g1
                have hgo5 : (getObj r).run P w2 = .ok (.loop lp5) w2 := getObj_run g2 (fun _ _ _ h => by cases h)
                have hso5 : ∀ x, (setObj r x).run P w2 = .ok () { w2 with heap := w2.heap.setIfInBounds r x } := fun x => setObj_run g2 (fun _ _ _ h => by cases h)
                split at he
                · rename_i hj
                  rw [St.putK_eq] at he
                  cases he
                  have hpo5 := Po.put hp3.wr (by rw [hloop5]; simp) g1 (o := .loop .ready none T5 ps5 asg5 body5) (x := .loop { lp5 with state := .ready, pending := none }) ⟨_, nt5, rfl, rfl, rfl, g5⟩ (upd_set hlt5)
                  rw [hj]
                  exact ⟨.bool true, _, by simp only [Instr.endRound, Instr.getLoop, Sem.run_bind, hgo5, Result.andThen_ok, hso5, Sem.run_pure, Option.isNone_none, if_true], _, rfl, ι2, .bool true, (hp2.trans hp3).trans hpo5⟩
                · rename_i j hj
                  rw [St.putK_eq] at he
                  cases he
                  have hpo5 := Po.put hp3.wr (by rw [hloop5]; simp) g1 (o := .loop .done (some j) T5 ps5 asg5 body5) (x := .loop { lp5 with state := .done, pending := some j }) ⟨_, nt5, rfl, rfl, rfl, g5⟩ (upd_set hlt5)
                  rw [hj]
                  exact ⟨.bool false, _, by simp only [Instr.endRound, Instr.getLoop, Sem.run_bind, hgo5, Result.andThen_ok, hso5, Sem.run_pure, Option.isNone_some, Bool.false_eq_true, if_false], _, rfl, ι2, .bool false, (hp2.trans hp3).trans hpo5⟩
              · cases he
            · cases he
          · cases he
        · cases he
    · cases he
  · cases he
end
end Go.Sim
