import Derived.Test.YtkjgachpmebipaiGreatDoorSimT6
/- Code, and the reckoner as a whole. -/
namespace Go.Sim
set_option linter.all false
open Go
variable [Rho] [Asm] [SymOK]

section
variable {P : Program}

theorem Post.then {P : Program} {ι ι' : Io} {s s' : St} {w w' : World} {a a' : Act} {cf : Cf} {Q : Exit → Act → World → Prop} (h : Post P ι s w a cf Q) (hp : Po P ι s w ι' s' w') (hs : a'.tmps.size = a.tmps.size) : Post P ι' s' w' a' cf Q :=
  fun a2 ι2 w2 h1 h2 h3 h4 => h a2 ι2 w2 h1 (h2.trans hs) (hp.trans h3) (by rw [← hp.bs]; exact h4)

theorem startL_ok {ι : Io} {s s2 : St} {w : World} {rnd l : Option Nat} {ds ds' : List Nat} {lb : Nat} {lo : LO} {fn : FuncId} {tmps : Array Value} {params : Array Tmp} {assign body : Code} {defers : List Deferred}
    (he : startL rnd ds s lo = some (ds', lb, s2)) (hn : Nat.succ s.n < limH) (hW : WR P ι s w) (hrd : RdOK ι rnd l) (hds : DsOK ι s.bs ds defers)
    (ho : ∀ (ι' : Io) (d : Nat), Ext ι ι' → OR P ι' 0 lo (.loop { state := .ready, pending := none, fn, tmps, params, assign, body, defers := d })) :
    ∃ r mark ι' w', (Instr.enterLoop fn tmps params assign body l).run P w = .ok (r, mark) w' ∧ Po P ι s w ι' s2 w' ∧ ι' lb = some (r, 0) ∧ DsOK ι' s.bs ds' (mark ++ defers) := by
  unfold startL at he
  cases rnd with
  | none =>
    have hl : l = none := hrd
    subst hl
    simp only [St.newK_eq, Option.some.injEq, Prod.mk.injEq] at he
    obtain ⟨rfl, rfl, rfl⟩ := he
    obtain ⟨ι1, h1, hp1⟩ := Po.new hW (c := 0) (o := .defd true) (x := .deferred (some [])) (Nat.lt_of_succ_lt hn) (fun _ _ => rfl)
    obtain ⟨ι2, h2, hp2⟩ := Po.new hp1.wr (c := 0) (o := lo) (x := .loop { state := .ready, pending := none, fn, tmps, params, assign, body, defers := w.heap.size }) hn (fun ι' he => ho ι' _ (hp1.ext.trans he))
    refine ⟨_, [{ target := .collected w.heap.size, args := #[] }], ι2, _, ?_, hp1.trans hp2, h2, .cons (hp2.ext _ _ h1) hW.bsn (hds.mono (hp1.trans hp2).ext)⟩
    simp [Instr.enterLoop]
    rfl
  | some b =>
    obtain ⟨r, c, hb, rfl⟩ := hrd
    simp only at he
    split at he
    · rename_i st pend T ps asg bd hget
      simp only [St.newK_eq, Option.some.injEq, Prod.mk.injEq] at he
      obtain ⟨rfl, rfl, rfl⟩ := he
      obtain ⟨r', c', x, e1, e2, lp, nt, rfl, e3⟩ := hW.obj _ _ hget
      rw [hb] at e1
      cases e1
      have hgo : (getObj r).run P w = .ok (.loop lp) w := getObj_run e2 (fun _ _ _ h => by cases h)
      obtain ⟨ι2, h2, hp2⟩ := Po.new hW (c := 0) (o := lo) (x := .loop { state := .ready, pending := none, fn, tmps, params, assign, body, defers := lp.defers }) (Nat.lt_of_succ_lt hn) (fun ι' he => ho ι' _ he)
      refine ⟨_, [], ι2, _, ?_, hp2, h2, hds.mono hp2.ext⟩
      simp [Instr.enterLoop, Instr.getLoop, hgo]
    · cases he

theorem codeB_ok (hm : P.follows .mixedOrders = true) {call : Value → List Value → St → Option (Value × St)} (hcall : CallOK P call) {code : IC → Option Nat → List Nat → Tm → St → Option Cf} (hcode : CodeOK P code) : CodeOK P (codeB call code) := by
  intro nt c ic rnd ds T s cf hc he ι w a l n Q hT hnt hW hrd hds hQ
  cases c with
  | skip =>
    simp only [comp, Option.some.injEq] at hc
    subst hc
    simp only [codeB, Option.some.injEq] at he
    subst he
    exact ⟨wpIn_skip (hQ a ι w hT rfl (Po.refl hW) hds), fun c0 h => by cases h⟩
  | region id ops draw =>
    simp only [comp] at hc
    split at hc
    · cases hc
    · rename_i il hil
      cases draw with
      | true =>
        simp only [if_true] at hc
        cases hdi : drawA (il.zip (CheckFast.beforeL ops.toList 0 [])) with
        | none => rw [hdi] at hc; cases hc
        | some dl =>
          rw [hdi] at hc
          simp only [Option.map_some, Option.some.injEq] at hc
          subst hc
          simp only [codeB] at he
          rw [evDraw_k] at he
          cases h1 : evDraw call dl T s pairT with
          | none => rw [h1] at he; cases he
          | some p =>
            obtain ⟨T2, s2⟩ := p
            rw [h1] at he
            simp only [Option.bind_some, Option.some.injEq] at he
            subst he
            exact ⟨draw_ok hm hcall hil hdi h1 hT hnt hW fun a' ι' w' q1 q2 q3 q4 => hQ a' ι' w' q1 q2 q4 (by rw [q3]; exact hds.mono q4.ext), fun c0 h => by cases h⟩
      | false =>
        simp only [Bool.false_eq_true, if_false, Option.some.injEq] at hc
        subst hc
        simp only [codeB] at he
        rw [evOps_k] at he
        cases h1 : evOps call il T s pairT with
        | none => rw [h1] at he; cases he
        | some p =>
          obtain ⟨T2, s2⟩ := p
          rw [h1] at he
          simp only [Option.bind_some, Option.some.injEq] at he
          subst he
          refine ⟨wpIn_region ?_, fun c0 h => by cases h⟩
          rw [List.range_eq_range']
          exact evOps_ok hcall (by simp) hil h1 hT hnt hW Q fun a' ι' w' q1 q2 q3 q4 => hQ a' ι' w' q1 q2 q4 (by rw [q3]; exact hds.mono q4.ext)
  | seq x y =>
    simp only [comp] at hc
    split at hc
    · rename_i ix iy hx hy
      cases hc
      simp only [codeB] at he
      split at he
      · rename_i o T1 s1 ds1 h1
        refine ⟨wpIn_seq ?_, fun c0 h => by cases h⟩
        refine (hcode nt x ix rnd ds T s _ hx h1 ι w a l n _ hT hnt hW hrd hds ?_).1
        intro a' ι' w' q1 q2 q3 q4
        have q4' : DsOK ι' s1.bs ds1 a'.defers := by rw [q3.bs]; exact q4
        cases o with
        | norm => exact (hcode nt y iy rnd ds1 T1 s1 cf hy he ι' w' a' l n Q q1 (by omega) q3.wr (hrd.mono q3.ext) q4' (hQ.then q3 q2)).1
        | ret => cases he; exact hQ a' ι' w' q1 q2 q3 q4
        | exit id => cases he; exact hQ a' ι' w' q1 q2 q3 q4
        | goto t => cases he; exact hQ a' ι' w' q1 q2 q3 q4
      · cases he
    · cases hc
  | cond x y z =>
    simp only [comp] at hc
    split at hc
    · rename_i x' iy iz hx hy hz
      cases hc
      simp only [codeB] at he
      have h1 := compX_ok hx hT
      split at he
      · rename_i hb
        rw [hb] at h1
        exact ⟨wpIn_cond_true h1.boolI (hcode nt y iy rnd ds T s cf hy he ι w a l n Q hT hnt hW hrd hds hQ).1, fun c0 h => by cases h⟩
      · rename_i hb
        rw [hb] at h1
        exact ⟨wpIn_cond_false h1.boolI (hcode nt z iz rnd ds T s cf hz he ι w a l n Q hT hnt hW hrd hds hQ).1, fun c0 h => by cases h⟩
      · cases he
    · cases hc
  | block id x =>
    simp only [comp] at hc
    split at hc
    · rename_i ix hx
      cases hc
      simp only [codeB] at he
      split at he
      · rename_i o T1 s1 ds1 h1
        refine ⟨wpIn_block ?_, fun c0 h => by cases h⟩
        refine (hcode nt x ix rnd ds T s _ hx h1 ι w a l n _ hT hnt hW hrd hds ?_).1
        intro a' ι' w' q1 q2 q3 q4
        cases o with
        | norm => cases he; exact hQ a' ι' w' q1 q2 q3 q4
        | ret => cases he; exact hQ a' ι' w' q1 q2 q3 q4
        | goto t => cases he; exact hQ a' ι' w' q1 q2 q3 q4
        | exit m =>
          simp only at he
          simp only [outE, Exit.inBlock]
          split at he
          · rename_i hm
            cases he
            rw [if_pos (Nat.eq_of_beq_eq_true hm)]
            exact hQ a' ι' w' q1 q2 q3 q4
          · rename_i hm
            cases he
            rw [if_neg (Nat.ne_of_beq_eq_false hm)]
            exact hQ a' ι' w' q1 q2 q3 q4
      · cases he
    · cases hc
  | loop x =>
    have hc0 := hc
    simp only [comp] at hc
    split at hc
    · rename_i ix hx
      cases hc
      simp only [codeB] at he
      split at he
      · rename_i o T1 s1 ds1 h1
        have hL : LoopR (FW l) n P x Q a w := by
          refine loopR_step ?_
          refine (hcode nt x ix rnd ds T s _ hx h1 ι w a l n _ hT hnt hW hrd hds ?_).1
          intro a' ι' w' q1 q2 q3 q4
          have q4' : DsOK ι' s1.bs ds1 a'.defers := by rw [q3.bs]; exact q4
          cases o with
          | norm => exact (hcode nt (.loop x) (.loop ix) rnd ds1 T1 s1 cf hc0 he ι' w' a' l n Q q1 (by omega) q3.wr (hrd.mono q3.ext) q4' (hQ.then q3 q2)).2 x rfl
          | ret => cases he; exact hQ a' ι' w' q1 q2 q3 q4
          | exit id => cases he; exact hQ a' ι' w' q1 q2 q3 q4
          | goto t => cases he; exact hQ a' ι' w' q1 q2 q3 q4
        exact ⟨loopR_wp hL, fun c0 h => by cases h; exact hL⟩
      · cases he
    · cases hc
  | exit id =>
    simp only [comp, Option.some.injEq] at hc
    subst hc
    simp only [codeB, Option.some.injEq] at he
    subst he
    exact ⟨wpIn_exit (hQ a ι w hT rfl (Po.refl hW) hds), fun c0 h => by cases h⟩
  | goto t =>
    simp only [comp, Option.some.injEq] at hc
    subst hc
    simp only [codeB, Option.some.injEq] at he
    subst he
    exact ⟨wpIn_goto (hQ a ι w hT rfl (Po.refl hW) hds), fun c0 h => by cases h⟩
  | label t =>
    simp only [comp, Option.some.injEq] at hc
    subst hc
    simp only [codeB, Option.some.injEq] at he
    subst he
    exact ⟨wpIn_label (hQ a ι w hT rfl (Po.refl hW) hds), fun c0 h => by cases h⟩
  | ret =>
    simp only [comp, Option.some.injEq] at hc
    subst hc
    simp only [codeB, Option.some.injEq] at he
    subst he
    exact ⟨wpIn_ret (hQ a ι w hT rfl (Po.refl hW) hds), fun c0 h => by cases h⟩
  | refuse why =>
    simp only [comp, Option.some.injEq] at hc
    subst hc
    simp only [codeB, evOps, wanted] at he
    rw [bad_none rfl] at he
    cases he
  | scope x =>
    simp only [comp] at hc
    split at hc
    · rename_i ix hx
      cases hc
      simp only [codeB] at he
      cases rnd with
      | some _ => cases he
      | none =>
        simp only at he
        have hl : l = none := hrd
        subst hl
        split at he
        · rename_i o T1 s1 ds1 h1
          refine ⟨wpIn_scope ?_, fun c0 h => by cases h⟩
          refine (hcode nt x ix none ds T s _ hx h1 ι w a none n _ hT hnt hW hrd hds ?_).1
          intro a' ι' w' q1 q2 q3 q4
          cases o with
          | norm => cases he; exact hQ a' ι' w' q1 q2 q3 q4
          | ret => cases he; exact hQ a' ι' w' q1 q2 q3 q4
          | goto t => cases he
          | exit m => cases he; exact hQ a' ι' w' q1 q2 q3 q4
        · cases he
    · cases hc
  | rangeFunc f ps asg body =>
    simp only [comp] at hc
    split at hc
    · rename_i f' ia ib hf hasg hbody
      split at hc
      · rename_i hps
        cases hc
        simp only [codeB] at he
        split at he
        case h_2 => cases he
        · rename_i hlt hgof
          split at he
          · cases he
          · rename_i ds' lb s2 hst
            split at he
            · cases he
            · rename_i vv s3 hcl
              refine ⟨wpIn_rangeFunc fun fn _ => ?_, fun c0 h => by cases h⟩
              have hpsl : ∀ p ∈ ps.toList, p < nt := fun p hp => blt_true (List.all_eq_true.1 hps p hp)
              obtain ⟨r, mark, ι1, w1, hent, hp1, hlb, hds1⟩ := startL_ok (fn := fn) (tmps := a.tmps) (params := ps) (assign := asg) (body := body) hst (blt_true hlt) hW hrd hds
                (fun ι' d hext => ⟨_, nt, rfl, rfl, rfl, hT.mono hext, hnt, rfl, hpsl, hasg, hbody⟩)
              have hfv := compX_ok hf (hT.mono hp1.ext)
              rcases hcall _ _ _ _ _ hcl ι1 w1 (a.eval f) [.func (.yield r) #[] #[]] hfv (.cons (.yld hlb) .nil) hp1.wr with ⟨g, xs, ys, fn', hg, hfn, hb, hname, hcalls⟩ | ⟨r2, lp2, hg, _⟩
              · have hbn : fn'.body.isNone = false := by cases hbb : fn'.body <;> simp_all
                refine ⟨r, mark, w1, { target := .fn (.func g) ⟨ys⟩, args := ⟨xs⟩ ++ #[.func (.yield r) #[] #[]] }, w1, g, ⟨xs ++ [.func (.yield r) #[] #[]] ++ ys⟩, w1, hent, ?_, fun _ _ => trivial, ?_, fun h => by simp [FW, Fence.wide] at h, ?_⟩
                · have hmap : Array.map a.eval #[Operand.const (Value.func (Fn.yield r) #[] #[])] = #[Value.func (Fn.yield r) #[] #[]] := by simp [Act.eval]
                  simp only [resolve, Deferred.ofValue, hg, Sem.run_pure, hmap]
                · simp only [invoke, callFunc, Sem.run_bind, run_program, Result.andThen_ok, hfn, hname, hbn, Bool.false_eq_true, if_false, Sem.run_pure]
                  congr 2
                  simp
                · refine CallsIn.mono (hcalls _ : CallsIn (FW l) (n - 1) P g _ w1 _) ?_
                  rintro e w3 ⟨v', rfl, ι3, hv3, hp3⟩
                  have hp13 := hp1.trans hp3
                  split at he
                  · rename_i st pend T' ps' asg' body' hget
                    obtain ⟨r', c', x, e1, e2, lp, nt', rfl, e3, e4, e5⟩ := hp3.wr.obj _ _ hget
                    have e1' := hp3.ext _ _ hlb
                    rw [e1] at e1'
                    cases e1'
                    have hlt3 := hp3.wr.bound _ _ _ e1
                    have hgo : (getObj r).run P w3 = .ok (.loop lp) w3 := getObj_run e2 (fun _ _ _ h => by cases h)
                    have hso : ∀ x, (setObj r x).run P w3 = .ok () { w3 with heap := w3.heap.setIfInBounds r x } := fun x => setObj_run e2 (fun _ _ _ h => by cases h)
                    have hpo := Po.put hp3.wr (by rw [hget]; simp) e1 (o := .loop .exhausted pend T' ps' asg' body') (x := .loop { lp with state := .exhausted }) ⟨_, nt', rfl, rfl, e4, e5⟩ (upd_set hlt3)
                    have hne : (lp.state == LoopState.busy) = false ∧ endL pend T (s3.put lb (some (.loop .exhausted pend T' ps' asg' body'))) ds' = some cf := by
                      rw [e3]
                      split at he
                      · cases he
                      · rename_i hnb
                        rw [St.putK_eq] at he
                        refine ⟨?_, he⟩
                        cases st <;> first | rfl | exact absurd rfl hnb
                    obtain ⟨hne, he⟩ := hne
                    have hpf := hp13.trans hpo
                    have hend : (Instr.endLoop r).run P w3 = .ok pend { w3 with heap := w3.heap.setIfInBounds r (.loop { lp with state := .exhausted }) } := by
                      simp only [Instr.endLoop, Instr.getLoop, Sem.run_bind, hgo, Result.andThen_ok, hne, Bool.false_eq_true, if_false, hso, Sem.run_pure, e4]
                    have hfin : ∀ o, cf = ⟨o, T, s3.put lb (some (.loop .exhausted pend T' ps' asg' body')), ds'⟩ → Q (outE o) { a with defers := mark ++ a.defers } { w3 with heap := w3.heap.setIfInBounds r (.loop { lp with state := .exhausted }) } := by
                      intro o hcf
                      subst hcf
                      exact hQ { a with defers := mark ++ a.defers } ι3 _ (hT.mono hpf.ext) rfl hpf (hds1.mono (hp3.trans hpo).ext)
                    refine ⟨pend, _, hend, ?_⟩
                    unfold endL at he
                    split at he
                    · cases he; exact hfin _ rfl
                    · cases he; exact wpIn_ret (hfin .ret rfl)
                    · cases he; exact wpIn_exit (hfin (.exit _) rfl)
                    · cases he
                  · cases he
              · exfalso
                rw [hg] at hfv
                generalize oev T f' = u at hfv hgof
                cases hfv with
                | func hny _ _ => exact hny _ rfl
                | yld _ => cases hgof
                | unk _ => cases hgof
                | opq _ _ => cases hgof
      · cases hc
    · cases hc

/-- The reckoner keeps to the machine. -/
theorem evCode_ok (hm : P.follows .mixedOrders = true) {tab : Tr FI} (htab : TabOK P tab) : ∀ n, CodeOK P (evCode tab n)
  | 0 => fun nt c ic rnd ds T s cf _ he => by cases he
  | n + 1 => codeB_ok hm (callB_ok htab (evCode_ok hm htab n)) (evCode_ok hm htab n)
theorem evCall_ok (hm : P.follows .mixedOrders = true) {tab : Tr FI} (htab : TabOK P tab) (n : Nat) : CallOK P (evCall tab n) := callB_ok htab (evCode_ok hm htab n)
end
end Go.Sim
