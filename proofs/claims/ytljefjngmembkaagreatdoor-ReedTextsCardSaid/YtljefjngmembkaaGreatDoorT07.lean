/- Part 7 of the proof: SimQ, SimU, SimW, SimV, SimX. -/
import Derived.Test.YtljefjngmembkaaGreatDoorT06
namespace Go.Sim
set_option linter.all false
open Go
variable [Rho] [Asm] [SymOK]

section
variable {P : Program}

theorem Post.then {P : Program} {ι ι' : Io} {s s' : St} {w w' : World} {a a' : Act} {cf : Cf} {Q : Exit → Act → World → Prop} (h : Post P ι s w a cf Q) (hp : Po P ι s w ι' s' w') (hs : a'.tmps.size = a.tmps.size) : Post P ι' s' w' a' cf Q :=
  fun a2 ι2 w2 h1 h2 h3 h4 => h a2 ι2 w2 h1 (h2.trans hs) (hp.trans h3) (by rw [← hp.bs]; exact h4)

theorem startL_ok {ι : Io} {s s2 : St} {w : World} {rnd l : Option Nat} {ds ds' : List Nat} {lb : Nat} {lo : LO} {fn : FuncId} {tmps : Array Value} {params : Array Tmp} {assign body : Code} {defers : List Deferred}
    (he : startL rnd ds s lo = some (ds',lb,s2)) (hn : Nat.succ s.n < limH) (hW : WR P ι s w) (hrd : RdOK ι rnd l) (hds : DsOK ι s.bs ds defers)
    (ho : ∀ (ι' : Io) (d : Nat),Ext ι ι' → OR P ι' 0 lo (.loop { state := .ready,pending := none,fn,tmps,params,assign,body,defers := d })) :
    ∃ r mark ι' w',(Instr.enterLoop fn tmps params assign body l).run P w = .ok (r,mark) w' ∧ Po P ι s w ι' s2 w' ∧ ι' lb = some (r,0) ∧ DsOK ι' s.bs ds' (mark ++ defers) := by
  unfold startL at he
  cases rnd with
  | none =>
    have hl : l = none := hrd
    subst hl
    simp only [St.newK_eq,Option.some.injEq,Prod.mk.injEq] at he
    obtain ⟨rfl,rfl,rfl⟩ := he
    obtain ⟨ι1,h1,hp1⟩ := Po.new hW (c := 0) (o := .defd true) (x := .deferred (some [])) (Nat.lt_of_succ_lt hn) (fun _ _ => rfl)
    obtain ⟨ι2,h2,hp2⟩ := Po.new hp1.wr (c := 0) (o := lo) (x := .loop { state := .ready,pending := none,fn,tmps,params,assign,body,defers := w.heap.size }) hn (fun ι' he => ho ι' _ (hp1.ext.trans he))
    refine ⟨_,[{ target := .collected w.heap.size,args := #[] }],ι2,_,?_,hp1.trans hp2,h2,.cons (hp2.ext _ _ h1) hW.bsn (hds.mono (hp1.trans hp2).ext)⟩
    simp [Instr.enterLoop]
    rfl
  | some b =>
    obtain ⟨r,c,hb,rfl⟩ := hrd
    simp only at he
    split at he
    · rename_i st pend T ps asg bd hget
      simp only [St.newK_eq,Option.some.injEq,Prod.mk.injEq] at he
      obtain ⟨rfl,rfl,rfl⟩ := he
      obtain ⟨r',c',x,e1,e2,lp,nt,rfl,e3⟩ := hW.obj _ _ hget
      rw [hb] at e1
      cases e1
      have hgo : (getObj r).run P w = .ok (.loop lp) w := getObj_run e2 (fun _ _ _ h => by cases h)
      obtain ⟨ι2,h2,hp2⟩ := Po.new hW (c := 0) (o := lo) (x := .loop { state := .ready,pending := none,fn,tmps,params,assign,body,defers := lp.defers }) (Nat.lt_of_succ_lt hn) (fun ι' he => ho ι' _ he)
      refine ⟨_,[],ι2,_,?_,hp2,h2,hds.mono hp2.ext⟩
      simp [Instr.enterLoop,Instr.getLoop,hgo]
    · cases he

theorem codeB_ok (hm : P.follows .mixedOrders = true) {call : Value → List Value → St → Option (Value × St)} (hcall : CallOK P call) {code : IC → Option Nat → List Nat → Tm → St → Option Cf} (hcode : CodeOK P code) : CodeOK P (codeB call code) := by
  intro nt c ic rnd ds T s cf hc he ι w a l n Q hT hnt hW hrd hds hQ
  cases c with
  | skip =>
    simp only [comp,Option.some.injEq] at hc
    subst hc
    simp only [codeB,Option.some.injEq] at he
    subst he
    exact ⟨wpIn_skip (hQ a ι w hT rfl (Po.refl hW) hds),fun c0 h => by cases h⟩
  | region id ops draw =>
    simp only [comp] at hc
    split at hc
    · cases hc
    · rename_i il hil
      cases draw with
      | true =>
        simp only [if_true] at hc
        cases hdi : drawA (il.zip (CheckFast.beforeL ops.toList 0 [])) with
        | none => rw [hdi] at hc; cases hc
        | some dl =>
          rw [hdi] at hc
          simp only [Option.map_some,Option.some.injEq] at hc
          subst hc
          simp only [codeB] at he
          rw [evDraw_k] at he
          cases h1 : evDraw call dl T s pairT with
          | none => rw [h1] at he; cases he
          | some p =>
            obtain ⟨T2,s2⟩ := p
            rw [h1] at he
            simp only [Option.bind_some,Option.some.injEq] at he
            subst he
            exact ⟨draw_ok hm hcall hil hdi h1 hT hnt hW fun a' ι' w' q1 q2 q3 q4 => hQ a' ι' w' q1 q2 q4 (by rw [q3]; exact hds.mono q4.ext),fun c0 h => by cases h⟩
      | false =>
        simp only [Bool.false_eq_true,if_false,Option.some.injEq] at hc
        subst hc
        simp only [codeB] at he
        rw [evOps_k] at he
        cases h1 : evOps call il T s pairT with
        | none => rw [h1] at he; cases he
        | some p =>
          obtain ⟨T2,s2⟩ := p
          rw [h1] at he
          simp only [Option.bind_some,Option.some.injEq] at he
          subst he
          refine ⟨wpIn_region ?_,fun c0 h => by cases h⟩
          rw [List.range_eq_range']
          exact evOps_ok hcall (by simp) hil h1 hT hnt hW Q fun a' ι' w' q1 q2 q3 q4 => hQ a' ι' w' q1 q2 q4 (by rw [q3]; exact hds.mono q4.ext)
  | seq x y =>
    simp only [comp] at hc
    split at hc
    · rename_i ix iy hx hy
      cases hc
      simp only [codeB] at he
      split at he
      · rename_i o T1 s1 ds1 h1
        refine ⟨wpIn_seq ?_,fun c0 h => by cases h⟩
        refine (hcode nt x ix rnd ds T s _ hx h1 ι w a l n _ hT hnt hW hrd hds ?_).1
        intro a' ι' w' q1 q2 q3 q4
        have q4' : DsOK ι' s1.bs ds1 a'.defers := by rw [q3.bs]; exact q4
        cases o with
        | norm => exact (hcode nt y iy rnd ds1 T1 s1 cf hy he ι' w' a' l n Q q1 (by omega) q3.wr (hrd.mono q3.ext) q4' (hQ.then q3 q2)).1
        | ret => cases he; exact hQ a' ι' w' q1 q2 q3 q4
        | exit id => cases he; exact hQ a' ι' w' q1 q2 q3 q4
        | goto t => cases he; exact hQ a' ι' w' q1 q2 q3 q4
      · cases he
    · cases hc
  | cond x y z =>
    simp only [comp] at hc
    split at hc
    · rename_i x' iy iz hx hy hz
      cases hc
      simp only [codeB] at he
      have h1 := compX_ok hx hT
      split at he
      · rename_i hb
        rw [hb] at h1
        exact ⟨wpIn_cond_true h1.boolI (hcode nt y iy rnd ds T s cf hy he ι w a l n Q hT hnt hW hrd hds hQ).1,fun c0 h => by cases h⟩
      · rename_i hb
        rw [hb] at h1
        exact ⟨wpIn_cond_false h1.boolI (hcode nt z iz rnd ds T s cf hz he ι w a l n Q hT hnt hW hrd hds hQ).1,fun c0 h => by cases h⟩
      · cases he
    · cases hc
  | block id x =>
    simp only [comp] at hc
    split at hc
    · rename_i ix hx
      cases hc
      simp only [codeB] at he
      split at he
      · rename_i o T1 s1 ds1 h1
        refine ⟨wpIn_block ?_,fun c0 h => by cases h⟩
        refine (hcode nt x ix rnd ds T s _ hx h1 ι w a l n _ hT hnt hW hrd hds ?_).1
        intro a' ι' w' q1 q2 q3 q4
        cases o with
        | norm => cases he; exact hQ a' ι' w' q1 q2 q3 q4
        | ret => cases he; exact hQ a' ι' w' q1 q2 q3 q4
        | goto t => cases he; exact hQ a' ι' w' q1 q2 q3 q4
        | exit m =>
          simp only at he
          simp only [outE,Exit.inBlock]
          split at he
          · rename_i hm
            cases he
            rw [if_pos (Nat.eq_of_beq_eq_true hm)]
            exact hQ a' ι' w' q1 q2 q3 q4
          · rename_i hm
            cases he
            rw [if_neg (Nat.ne_of_beq_eq_false hm)]
            exact hQ a' ι' w' q1 q2 q3 q4
      · cases he
    · cases hc
  | loop x =>
    have hc0 := hc
    simp only [comp] at hc
    split at hc
    · rename_i ix hx
      cases hc
      simp only [codeB] at he
      split at he
      · rename_i o T1 s1 ds1 h1
        have hL : LoopR (FW l) n P x Q a w := by
          refine loopR_step ?_
          refine (hcode nt x ix rnd ds T s _ hx h1 ι w a l n _ hT hnt hW hrd hds ?_).1
          intro a' ι' w' q1 q2 q3 q4
          have q4' : DsOK ι' s1.bs ds1 a'.defers := by rw [q3.bs]; exact q4
          cases o with
          | norm => exact (hcode nt (.loop x) (.loop ix) rnd ds1 T1 s1 cf hc0 he ι' w' a' l n Q q1 (by omega) q3.wr (hrd.mono q3.ext) q4' (hQ.then q3 q2)).2 x rfl
          | ret => cases he; exact hQ a' ι' w' q1 q2 q3 q4
          | exit id => cases he; exact hQ a' ι' w' q1 q2 q3 q4
          | goto t => cases he; exact hQ a' ι' w' q1 q2 q3 q4
        exact ⟨loopR_wp hL,fun c0 h => by cases h; exact hL⟩
      · cases he
    · cases hc
  | exit id =>
    simp only [comp,Option.some.injEq] at hc
    subst hc
    simp only [codeB,Option.some.injEq] at he
    subst he
    exact ⟨wpIn_exit (hQ a ι w hT rfl (Po.refl hW) hds),fun c0 h => by cases h⟩
  | goto t =>
    simp only [comp,Option.some.injEq] at hc
    subst hc
    simp only [codeB,Option.some.injEq] at he
    subst he
    exact ⟨wpIn_goto (hQ a ι w hT rfl (Po.refl hW) hds),fun c0 h => by cases h⟩
  | label t =>
    simp only [comp,Option.some.injEq] at hc
    subst hc
    simp only [codeB,Option.some.injEq] at he
    subst he
    exact ⟨wpIn_label (hQ a ι w hT rfl (Po.refl hW) hds),fun c0 h => by cases h⟩
  | ret =>
    simp only [comp,Option.some.injEq] at hc
    subst hc
    simp only [codeB,Option.some.injEq] at he
    subst he
    exact ⟨wpIn_ret (hQ a ι w hT rfl (Po.refl hW) hds),fun c0 h => by cases h⟩
  | refuse why =>
    simp only [comp,Option.some.injEq] at hc
    subst hc
    simp only [codeB,evOps,wanted] at he
    rw [bad_none rfl] at he
    cases he
  | scope x =>
    simp only [comp] at hc
    split at hc
    · rename_i ix hx
      cases hc
      simp only [codeB] at he
      cases rnd with
      | some _ => cases he
      | none =>
        simp only at he
        have hl : l = none := hrd
        subst hl
        split at he
        · rename_i o T1 s1 ds1 h1
          refine ⟨wpIn_scope ?_,fun c0 h => by cases h⟩
          refine (hcode nt x ix none ds T s _ hx h1 ι w a none n _ hT hnt hW hrd hds ?_).1
          intro a' ι' w' q1 q2 q3 q4
          cases o with
          | norm => cases he; exact hQ a' ι' w' q1 q2 q3 q4
          | ret => cases he; exact hQ a' ι' w' q1 q2 q3 q4
          | goto t => cases he
          | exit m => cases he; exact hQ a' ι' w' q1 q2 q3 q4
        · cases he
    · cases hc
  | rangeFunc f ps asg body =>
    simp only [comp] at hc
    split at hc
    · rename_i f' ia ib hf hasg hbody
      split at hc
      · rename_i hps
        cases hc
        simp only [codeB] at he
        split at he
        case h_2 => cases he
        · rename_i hlt hgof
          split at he
          · cases he
          · rename_i ds' lb s2 hst
            split at he
            · cases he
            · rename_i vv s3 hcl
              refine ⟨wpIn_rangeFunc fun fn _ => ?_,fun c0 h => by cases h⟩
              have hpsl : ∀ p ∈ ps.toList,p < nt := fun p hp => blt_true (List.all_eq_true.1 hps p hp)
              obtain ⟨r,mark,ι1,w1,hent,hp1,hlb,hds1⟩ := startL_ok (fn := fn) (tmps := a.tmps) (params := ps) (assign := asg) (body := body) hst (blt_true hlt) hW hrd hds
                (fun ι' d hext => ⟨_,nt,rfl,rfl,rfl,hT.mono hext,hnt,rfl,hpsl,hasg,hbody⟩)
              have hfv := compX_ok hf (hT.mono hp1.ext)
              rcases hcall _ _ _ _ _ hcl ι1 w1 (a.eval f) [.func (.yield r) #[] #[]] hfv (.cons (.yld hlb) .nil) hp1.wr with ⟨g,xs,ys,fn',hg,hfn,hb,hname,hcalls⟩ | ⟨r2,lp2,hg,_⟩
              · have hbn : fn'.body.isNone = false := by cases hbb : fn'.body <;> simp_all
                refine ⟨r,mark,w1,{ target := .fn (.func g) ⟨ys⟩,args := ⟨xs⟩ ++ #[.func (.yield r) #[] #[]] },w1,g,⟨xs ++ [.func (.yield r) #[] #[]] ++ ys⟩,w1,hent,?_,fun _ _ => trivial,?_,fun h => by simp [FW,Fence.wide] at h,?_⟩
                · have hmap : Array.map a.eval #[Operand.const (Value.func (Fn.yield r) #[] #[])] = #[Value.func (Fn.yield r) #[] #[]] := by simp [Act.eval]
                  simp only [resolve,Deferred.ofValue,hg,Sem.run_pure,hmap]
                · simp only [invoke,callFunc,Sem.run_bind,run_program,Result.andThen_ok,hfn,hname,hbn,Bool.false_eq_true,if_false,Sem.run_pure]
                  congr 2
                  simp
                · refine CallsIn.mono (hcalls _ : CallsIn (FW l) (n - 1) P g _ w1 _) ?_
                  rintro e w3 ⟨v',rfl,ι3,hv3,hp3⟩
                  have hp13 := hp1.trans hp3
                  split at he
                  · rename_i st pend T' ps' asg' body' hget
                    obtain ⟨r',c',x,e1,e2,lp,nt',rfl,e3,e4,e5⟩ := hp3.wr.obj _ _ hget
                    have e1' := hp3.ext _ _ hlb
                    rw [e1] at e1'
                    cases e1'
                    have hlt3 := hp3.wr.bound _ _ _ e1
                    have hgo : (getObj r).run P w3 = .ok (.loop lp) w3 := getObj_run e2 (fun _ _ _ h => by cases h)
                    have hso : ∀ x,(setObj r x).run P w3 = .ok () { w3 with heap := w3.heap.setIfInBounds r x } := fun x => setObj_run e2 (fun _ _ _ h => by cases h)
                    have hpo := Po.put hp3.wr (by rw [hget]; simp) e1 (o := .loop .exhausted pend T' ps' asg' body') (x := .loop { lp with state := .exhausted }) ⟨_,nt',rfl,rfl,e4,e5⟩ (upd_set hlt3)
                    have hne : (lp.state == LoopState.busy) = false ∧ endL pend T (s3.put lb (some (.loop .exhausted pend T' ps' asg' body'))) ds' = some cf := by
                      rw [e3]
                      split at he
                      · cases he
                      · rename_i hnb
                        rw [St.putK_eq] at he
                        refine ⟨?_,he⟩
                        cases st <;> first | rfl | exact absurd rfl hnb
                    obtain ⟨hne,he⟩ := hne
                    have hpf := hp13.trans hpo
                    have hend : (Instr.endLoop r).run P w3 = .ok pend { w3 with heap := w3.heap.setIfInBounds r (.loop { lp with state := .exhausted }) } := by
                      simp only [Instr.endLoop,Instr.getLoop,Sem.run_bind,hgo,Result.andThen_ok,hne,Bool.false_eq_true,if_false,hso,Sem.run_pure,e4]
                    have hfin : ∀ o,cf = ⟨o,T,s3.put lb (some (.loop .exhausted pend T' ps' asg' body')),ds'⟩ → Q (outE o) { a with defers := mark ++ a.defers } { w3 with heap := w3.heap.setIfInBounds r (.loop { lp with state := .exhausted }) } := by
                      intro o hcf
                      subst hcf
                      exact hQ { a with defers := mark ++ a.defers } ι3 _ (hT.mono hpf.ext) rfl hpf (hds1.mono (hp3.trans hpo).ext)
                    refine ⟨pend,_,hend,?_⟩
                    unfold endL at he
                    split at he
                    · cases he; exact hfin _ rfl
                    · cases he; exact wpIn_ret (hfin .ret rfl)
                    · cases he; exact wpIn_exit (hfin (.exit _) rfl)
                    · cases he
                  · cases he
              · exfalso
                rw [hg] at hfv
                generalize oev T f' = u at hfv hgof
                cases hfv with
                | func hny _ _ => exact hny _ rfl
                | yld _ => cases hgof
                | unk _ => cases hgof
                | opq _ _ => cases hgof
      · cases hc
    · cases hc

end
end Go.Sim
namespace Go.Sim
set_option linter.all false
open Go
variable [Rho] [Asm] [SymOK]

noncomputable def layT : List (Nat × FI) → Tr FI
  | [] => .e
  | p :: l => Tr.set DT (layT l) p.1 (some p.2)
inductive AllC (P : Program) : List (Nat × FI) → Prop
  | nil : AllC P []
  | cons {f : Nat} {fi : FI} {l : List (Nat × FI)} : compF P f = some fi → Nat.blt f limT = true → AllC P l → AllC P ((f,fi) :: l)
theorem AllC.get {P : Program} : ∀ {l : List (Nat × FI)},AllC P l → ∀ f fi,(layT l).get f = some fi → compF P f = some fi
  | _,.nil,f,fi,h => by rw [show layT [] = .e from rfl,Tr.get_e] at h; cases h
  | _,.cons (f := g) (fi := gi) (l := l) h1 h2 h3,f,fi,h => by
    have h2 := blt_true h2
    rw [show layT ((g,gi) :: l) = Tr.set DT (layT l) g (some gi) from rfl,Tr.get_set DT _ _ _ f (by unfold limT at h2; unfold DT; omega)] at h
    split at h
    · rename_i e; subst e; rw [h1]; exact h
    · exact h3.get f fi h
theorem tabOK {P : Program} {l : List (Nat × FI)} {tab : Tr FI} (h : AllC P l) (e : tab = layT l) : TabOK P tab := by
  subst e
  exact h.get
end Go.Sim
namespace Go.Sim.K
set_option linter.all false
open Go Go.Sim
variable [Rho] [Asm] [SymOK]
noncomputable section
variable {β : Type}
def d0 {A : Type} (_ : A) (e : β) : β := e
def d1 {X A : Type} (_ : X) (_ : A) (e : β) : β := e
def d2 {X Y A : Type} (_ : X) (_ : Y) (_ : A) (e : β) : β := e
def d3 {X Y Z A : Type} (_ : X) (_ : Y) (_ : Z) (_ : A) (e : β) : β := e
def d5 {X Y Z U W A : Type} (_ : X) (_ : Y) (_ : Z) (_ : U) (_ : W) (_ : A) (e : β) : β := e
def di {X Y : Type} {A : Type} (_ : X) (_ : Y) (_ : A → β → β) (_ : A) (e : β) : β := e
def u1 (_ : List Value) (_ : Unit) : Unit := ()
def u3 {A : Type} (_ : Value) (_ : List Value) (_ : A) (_ : Unit) : Unit := ()
def m_int (k : IntKind) (n : Int) (f : IntKind → Int → β) (_ : β) : β := f k n
def vInt (v : Value) : (IntKind → Int → β) → β → β :=
  Value.rec (motive_1 := fun _ => (IntKind → Int → β) → β → β) (motive_2 := fun _ => Unit) (motive_3 := fun _ => Unit) d1 m_int d2 d3 d1 d1 d3 d1 d1 d5 d0 di d0 d2 d2 u1 () u3 v
theorem vInt_eq (v : Value) (f : IntKind → Int → β) (e : β) : vInt v f e = match v with
    | .int k n => f k n
    | _ => e := by cases v <;> rfl
def m_bool (b : Bool) (f : Bool → β) (_ : β) : β := f b
def vBool (v : Value) : (Bool → β) → β → β :=
  Value.rec (motive_1 := fun _ => (Bool → β) → β → β) (motive_2 := fun _ => Unit) (motive_3 := fun _ => Unit) m_bool d2 d2 d3 d1 d1 d3 d1 d1 d5 d0 di d0 d2 d2 u1 () u3 v
theorem vBool_eq (v : Value) (f : Bool → β) (e : β) : vBool v f e = match v with
    | .bool b => f b
    | _ => e := by cases v <;> rfl
def m_addr (a : Option Addr) (f : Nat → Nat → β) (e : β) : β := Option.rec e (fun a => Addr.rec (fun b o s => Option.rec (f b o) (fun _ => e) s) a) a
def vPtr (v : Value) : (Nat → Nat → β) → β → β :=
  Value.rec (motive_1 := fun _ => (Nat → Nat → β) → β → β) (motive_2 := fun _ => Unit) (motive_3 := fun _ => Unit) d1 d2 d2 d3 d1 m_addr d3 d1 d1 d5 d0 di d0 d2 d2 u1 () u3 v
def m_sl (a : Option Addr) (n k : Nat) (f : Option Addr → Nat → Nat → β) (_ : β) : β := f a n k
def vSl (v : Value) : (Option Addr → Nat → Nat → β) → β → β :=
  Value.rec (motive_1 := fun _ => (Option Addr → Nat → Nat → β) → β → β) (motive_2 := fun _ => Unit) (motive_3 := fun _ => Unit) d1 d2 d2 d3 d1 d1 m_sl d1 d1 d5 d0 di d0 d2 d2 u1 () u3 v
theorem vSl_eq (v : Value) (f : Option Addr → Nat → Nat → β) (e : β) : vSl v f e = match v with
    | .slice a n k => f a n k
    | _ => e := by cases v <;> rfl
def m_agg {X : Type} (a : Array Value) (_ : X) (f : List Value → β) (_ : β) : β := Array.rec f a
def vAgg (v : Value) : (List Value → β) → β → β :=
  Value.rec (motive_1 := fun _ => (List Value → β) → β → β) (motive_2 := fun _ => Unit) (motive_3 := fun _ => Unit) d1 d2 d2 d3 d1 d1 d3 d1 d1 d5 d0 di d0 m_agg d2 u1 () u3 v
theorem vAgg_eq (v : Value) (f : List Value → β) (e : β) : vAgg v f e = match v with
    | .agg ⟨l⟩ => f l
    | _ => e := by cases v <;> rfl
def m_tup {X : Type} (a : Array Value) (_ : X) (f : List Value → β) (_ : β) : β := Array.rec f a
def vTup (v : Value) : (List Value → β) → β → β :=
  Value.rec (motive_1 := fun _ => (List Value → β) → β → β) (motive_2 := fun _ => Unit) (motive_3 := fun _ => Unit) d1 d2 d2 d3 d1 d1 d3 d1 d1 d5 d0 di d0 d2 m_tup u1 () u3 v
theorem vTup_eq (v : Value) (f : List Value → β) (e : β) : vTup v f e = match v with
    | .tuple ⟨l⟩ => f l
    | _ => e := by cases v <;> rfl

def forceN (m : Nat) (k : Nat → β) : β := Nat.rec (k 0) (fun p _ => k (Nat.succ p)) m
theorem forceN_eq (m : Nat) (k : Nat → β) : forceN m k = k m := by cases m <;> rfl
def f1 {X : Type} (_ : X) (v : Value) (k : Value → β) : β := k v
def f0 (v : Value) (k : Value → β) : β := k v
def f2 {X Y : Type} (_ : X) (_ : Y) (v : Value) (k : Value → β) : β := k v
def f3 {X Y Z : Type} (_ : X) (_ : Y) (_ : Z) (v : Value) (k : Value → β) : β := k v
def f5 {X Y Z U W : Type} (_ : X) (_ : Y) (_ : Z) (_ : U) (_ : W) (v : Value) (k : Value → β) : β := k v
def fi (kd : IntKind) (n : Int) (_ : Value) (k : Value → β) : β := Int.rec (fun m => forceN m fun m => k (.int kd (.ofNat m))) (fun m => forceN m fun m => k (.int kd (.negSucc m))) n
def fb (b : Bool) (_ : Value) (k : Value → β) : β := Bool.rec (k (.bool false)) (k (.bool true)) b
def fp (a : Option Addr) (v : Value) (k : Value → β) : β := Option.rec (k v) (fun a => Addr.rec (fun b o s => Option.rec (forceN b fun b => forceN o fun o => k (.pointer (some ⟨b,o,none⟩))) (fun _ => k v) s) a) a
def force (v : Value) (k : Value → β) : β :=
  Value.rec (motive_1 := fun _ => Value → (Value → β) → β) (motive_2 := fun _ => Unit) (motive_3 := fun _ => Unit) fb fi f2 f3 f1 fp f3 f1 f1 f5 f0 f3 f0 f2 f2 u1 () u3 v v k
theorem force_eq (v : Value) (k : Value → β) : force v k = k v := by
  cases v <;> try rfl
  · rename_i b; cases b <;> rfl
  · rename_i kd n
    cases n
    · exact forceN_eq _ fun m => k (.int kd (.ofNat m))
    · exact forceN_eq _ fun m => k (.int kd (.negSucc m))
  · rename_i a
    cases a with
    | none => rfl
    | some a =>
      obtain ⟨b,o,s⟩ := a
      cases s with
      | none =>
        show (forceN b fun b => forceN o fun o => k (.pointer (some ⟨b,o,none⟩))) = _
        rw [forceN_eq,forceN_eq]
      | some x => rfl

def nth (l : List Value) : Nat → Option Value := List.rec (fun _ => none) (fun v _ ih i => Nat.rec (some v) (fun i _ => ih i) i) l
theorem nth_eq : nth = Sim.nth := by
  funext l
  induction l with
  | nil => rfl
  | cons v l ih => funext i; cases i with
    | zero => rfl
    | succ i => exact congrFun ih i
def len (l : List Value) : Nat := List.rec 0 (fun _ _ ih => Nat.succ ih) l
theorem len_eqK : len = Sim.len := by
  funext l
  induction l with
  | nil => rfl
  | cons v l ih => exact congrArg Nat.succ ih
def m_false2 {X Y : Type} (_ : X) (_ : Y) : Bool := false
def m_true1 {X : Type} (_ : X) : Bool := true
def m_true2 {X Y : Type} (_ : X) (_ : Y) : Bool := true
def m_true3 {X Y Z : Type} (_ : X) (_ : Y) (_ : Z) : Bool := true
def m_true5 {X Y Z U W : Type} (_ : X) (_ : Y) (_ : Z) (_ : U) (_ : W) : Bool := true
def one (v : Value) : Bool := Value.rec (motive_1 := fun _ => Bool) (motive_2 := fun _ => Unit) (motive_3 := fun _ => Unit) m_true1 m_true2 m_true2 m_true3 m_true1 m_true1 m_true3 m_true1 m_true1 m_true5 true m_true3 true m_false2 m_false2 u1 () u3 v
theorem one_eq : one = Sim.one := by funext v; cases v <;> rfl
def ones (l : List Value) : Bool := List.rec true (fun v _ ih => Bool.rec false ih (one v)) l
theorem ones_eq : ones = Sim.ones := by
  funext l
  induction l with
  | nil => rfl
  | cons v l ih =>
    show (Bool.rec false (ones l) (one v) : Bool) = _
    rw [ih,one_eq]
    simp only [Sim.ones]
    cases Sim.one v <;> rfl
def cellsOf (v : Value) : List Value := vAgg v (fun l => l) (.cons v .nil)
theorem cellsOf_eq : cellsOf = Sim.cellsOf := by funext v; cases v <;> rfl
def take (n : Nat) : List Value → (List Value → Option β) → Option β :=
  Nat.rec (fun _ k => k .nil) (fun _ ih l k => List.rec none (fun v l _ => ih l fun r => k (.cons v r)) l) n
theorem take_eq : ∀ (n : Nat) (l : List Value) (k : List Value → Option β),take n l k = (Sim.sub l 0 n).bind k
  | 0,l,k => by cases l <;> rfl
  | n + 1,[],k => rfl
  | n + 1,v :: l,k => by
    show take n l (fun r => k (.cons v r)) = _
    rw [take_eq n l]
    have : Sim.sub (v :: l) 0 (n + 1) = match Sim.sub l 0 n with
      | some r => some (v :: r)
      | none => none := by rw [Sim.sub]; rfl
    rw [this]
    cases Sim.sub l 0 n <;> rfl
def sub (l : List Value) : Nat → Nat → (List Value → Option β) → Option β :=
  List.rec (fun off n k => Nat.rec (take n .nil k) (fun _ _ => none) off) (fun v l ih off n k => Nat.rec (take n (.cons v l) k) (fun off _ => ih off n k) off) l
theorem sub_eqK : ∀ (l : List Value) (off n : Nat) (k : List Value → Option β),sub l off n k = (Sim.sub l off n).bind k
  | [],0,n,k => take_eq n [] k
  | [],off + 1,n,k => rfl
  | v :: l,0,n,k => take_eq n (v :: l) k
  | v :: l,off + 1,n,k => by
    show sub l off n k = _
    rw [sub_eqK l off n k]
    rfl
def over0 (xs : List Value) : List Value → (List Value → Option β) → Option β :=
  List.rec (fun l k => k l) (fun x _ ih l k => List.rec none (fun _ l _ => ih l fun r => k (.cons x r)) l) xs
theorem over0_eq : ∀ (xs l : List Value) (k : List Value → Option β),over0 xs l k = (Sim.over l 0 xs).bind k
  | [],l,k => by cases l <;> rfl
  | x :: xs,[],k => rfl
  | x :: xs,v :: l,k => by
    show over0 xs l (fun r => k (.cons x r)) = _
    rw [over0_eq xs l]
    have : Sim.over (v :: l) 0 (x :: xs) = match Sim.over l 0 xs with
      | some r => some (x :: r)
      | none => none := by rw [Sim.over]; rfl
    rw [this]
    cases Sim.over l 0 xs <;> rfl
def over (l : List Value) : Nat → List Value → (List Value → Option β) → Option β :=
  List.rec (fun off xs k => Nat.rec (over0 xs .nil k) (fun _ _ => none) off) (fun v l ih off xs k => Nat.rec (over0 xs (.cons v l) k) (fun off _ => ih off xs fun r => k (.cons v r)) off) l
theorem over_eq : ∀ (l : List Value) (off : Nat) (xs : List Value) (k : List Value → Option β),over l off xs k = (Sim.over l off xs).bind k
  | [],0,xs,k => over0_eq xs [] k
  | [],off + 1,xs,k => rfl
  | v :: l,0,xs,k => over0_eq xs (v :: l) k
  | v :: l,off + 1,xs,k => by
    show over l off xs (fun r => k (.cons v r)) = _
    rw [over_eq l off xs]
    have : Sim.over (v :: l) (off + 1) xs = match Sim.over l off xs with
      | some r => some (v :: r)
      | none => none := by rw [Sim.over]; rfl
    rw [this]
    cases Sim.over l off xs <;> rfl
end
end Go.Sim.K
namespace Go.Sim.K
set_option linter.all false
open Go Go.Sim
variable [Rho] [Asm] [SymOK]
noncomputable section

def tget (T : Tm) (t : Nat) : Value := Option.rec (.tuple ⟨[]⟩) (fun v => v) (Tr.get T t)
theorem tget_eq : tget = Sim.tget := by
  funext T t
  unfold tget Sim.tget
  cases T.get t <;> rfl
def oev (T : Tm) (x : Opd) : Value := Opd.rec (tget T) (fun v => v) x
theorem oev_eq : oev = Sim.oev := by
  funext T x
  cases x
  · exact congrFun (congrFun tget_eq T) _
  · rfl
def kn (k : IntKind) : Nat := IntKind.rec (nat_lit 0) (nat_lit 1) (nat_lit 2) (nat_lit 3) (nat_lit 4) (nat_lit 5) (nat_lit 6) (nat_lit 7) k
def kindB (k l : IntKind) : Bool := Nat.beq (kn k) (kn l)
theorem kindB_eq : kindB = Sim.kindB := by funext k l; cases k <;> cases l <;> rfl
def ltI (x y : Int) : Bool := Int.rec (fun a => Int.rec (fun b => Nat.blt a b) (fun _ => false) y) (fun a => Int.rec (fun _ => true) (fun b => Nat.blt b a) y) x
theorem ltI_eq : ltI = Sim.ltI := by funext x y; cases x <;> cases y <;> rfl
def eqI (x y : Int) : Bool := Int.rec (fun a => Int.rec (fun b => Nat.beq a b) (fun _ => false) y) (fun a => Int.rec (fun _ => false) (fun b => Nat.beq a b) y) x
theorem eqI_eq : eqI = Sim.eqI := by funext x y; cases x <;> cases y <;> rfl
def fits (x : Int) : Bool := Int.rec (fun a => Nat.blt a (nat_lit 9223372036854775808)) (fun a => Nat.blt a (nat_lit 9223372036854775808)) x
theorem fits_eq : fits = Sim.fits := by funext x; cases x <;> rfl
def wr64 (n : Int) : Int := Bool.rec (IntKind.wrap .i64 n) n (fits n)
def wrapF (k : IntKind) (n : Int) : Int := IntKind.rec (motive := fun _ => Int → Int) (IntKind.wrap .i8) (IntKind.wrap .i16) (IntKind.wrap .i32) wr64 (IntKind.wrap .u8) (IntKind.wrap .u16) (IntKind.wrap .u32) (IntKind.wrap .u64) k n
theorem wrapF_eq : wrapF = Sim.wrapF := by
  funext k n
  cases k <;> try rfl
  show (Bool.rec (IntKind.wrap .i64 n) n (fits n) : Int) = _
  unfold Sim.wrapF
  rw [fits_eq]
  simp only
  cases Sim.fits n <;> rfl
def inv (b : Bool) : Bool := Bool.rec true false b
theorem inv_eq (b : Bool) : inv b = !b := by cases b <;> rfl
def b_add (k : IntKind) (a b : Int) : Option Value := some (.int k (wrapF k (Int.add a b)))
def b_sub (k : IntKind) (a b : Int) : Option Value := some (.int k (wrapF k (Int.sub a b)))
def b_mul (k : IntKind) (a b : Int) : Option Value := some (.int k (wrapF k (Int.mul a b)))
def b_quo (k : IntKind) (a b : Int) : Option Value := Bool.rec (some (.int k (wrapF k (Int.tdiv a b)))) none (eqI b (.ofNat (nat_lit 0)))
def b_rem (k : IntKind) (a b : Int) : Option Value := Bool.rec (some (.int k (Int.tmod a b))) none (eqI b (.ofNat (nat_lit 0)))
def b_no (_ : IntKind) (_ _ : Int) : Option Value := none
def b_eql (_ : IntKind) (a b : Int) : Option Value := some (.bool (eqI a b))
def b_neq (_ : IntKind) (a b : Int) : Option Value := some (.bool (inv (eqI a b)))
def b_lss (_ : IntKind) (a b : Int) : Option Value := some (.bool (ltI a b))
def b_leq (_ : IntKind) (a b : Int) : Option Value := some (.bool (inv (ltI b a)))
def b_gtr (_ : IntKind) (a b : Int) : Option Value := some (.bool (ltI b a))
def b_geq (_ : IntKind) (a b : Int) : Option Value := some (.bool (inv (ltI a b)))
def binI' (op : BinOp) : IntKind → Int → Int → Option Value := BinOp.rec b_add b_sub b_mul b_quo b_rem b_no b_no b_no b_no b_no b_no b_eql b_neq b_lss b_leq b_gtr b_geq op
theorem binI'_eq : binI' = Sim.binI := by
  funext op k a b
  cases op <;> try rfl
  · show b_add k a b = _; unfold b_add; rw [wrapF_eq]; rfl
  · show b_sub k a b = _; unfold b_sub; rw [wrapF_eq]; rfl
  · show b_mul k a b = _; unfold b_mul; rw [wrapF_eq]; rfl
  · show b_quo k a b = _
    unfold b_quo Sim.binI
    rw [wrapF_eq,eqI_eq]
    show (Bool.rec _ _ (Sim.eqI b 0) : Option Value) = _
    simp only
    cases Sim.eqI b 0 <;> rfl
  · show b_rem k a b = _
    unfold b_rem Sim.binI
    rw [eqI_eq]
    show (Bool.rec _ _ (Sim.eqI b 0) : Option Value) = _
    simp only
    cases Sim.eqI b 0 <;> rfl
  · show b_eql k a b = _; unfold b_eql; rw [eqI_eq]; rfl
  · show b_neq k a b = _; unfold b_neq; rw [eqI_eq,inv_eq]; rfl
  · show b_lss k a b = _; unfold b_lss; rw [ltI_eq]; rfl
  · show b_leq k a b = _; unfold b_leq; rw [ltI_eq,inv_eq]; rfl
  · show b_gtr k a b = _; unfold b_gtr; rw [ltI_eq]; rfl
  · show b_geq k a b = _; unfold b_geq; rw [ltI_eq,inv_eq]; rfl
def p_bin (op : BinOp) (x y : Opd) (T : Tm) : Option Value := vInt (oev T x) (fun k a => vInt (oev T y) (fun l b => Bool.rec none (binI' op k a b) (kindB k l)) (p_str op (oev T x) (oev T y))) (p_str op (oev T x) (oev T y))
theorem p_bin_eq : p_bin = Sim.p_bin := by
  funext op x y T
  unfold p_bin Sim.p_bin
  rw [oev_eq,kindB_eq,binI'_eq]
  generalize Sim.oev T x = v
  generalize Sim.oev T y = u
  cases v <;> try rfl
  cases u <;> try rfl
  rename_i k a l b
  show (Bool.rec none (Sim.binI op k a b) (Sim.kindB k l) : Option Value) = _
  simp only
  cases Sim.kindB k l <;> rfl
def p_fad (off : Nat) (x : Opd) (T : Tm) : Option Value := vPtr (oev T x) (fun b o => some (.pointer (some ⟨b,Nat.add o off,none⟩))) none
theorem p_fad_eq : p_fad = Sim.p_fad := by
  funext off x T
  unfold p_fad Sim.p_fad
  rw [oev_eq]
  generalize Sim.oev T x = v
  cases v <;> try rfl
  rename_i ad
  cases ad with
  | none => rfl
  | some ad =>
    obtain ⟨b,o,sp⟩ := ad
    cases sp with
    | some _ => rfl
    | none =>
      rfl
def place (v : Value) (k : Nat → Option Value) : Option Value := vInt v (fun _ n => Int.rec (fun n => k n) (fun _ => none) n) none
theorem place_eq (v : Value) (k : Nat → Option Value) : place v k = (Sim.place v).bind k := by
  cases v <;> try rfl
  rename_i kd n
  cases n <;> rfl
def p_iadS (size : Nat) (x i : Opd) (T : Tm) : Option Value := vSl (oev T x) (fun a n _ => Option.rec none (fun a => Addr.rec (fun b o s => Option.rec (place (oev T i) fun j => Bool.rec none (some (.pointer (some ⟨b,Nat.add o (Nat.mul j size),none⟩))) (Nat.blt j n)) (fun _ => none) s) a) a) none
theorem p_iadS_eq : p_iadS = Sim.p_iadS := by
  funext size x i T
  unfold p_iadS Sim.p_iadS
  rw [oev_eq,vSl_eq]
  generalize Sim.oev T x = v
  cases v <;> try rfl
  rename_i a n k
  cases a with
  | none => rfl
  | some a =>
    obtain ⟨b,o,s⟩ := a
    cases s with
    | some _ => rfl
    | none =>
      show place (Sim.oev T i) _ = _
      rw [place_eq]
      cases Sim.place (Sim.oev T i) with
      | none => rfl
      | some j =>
        show (Bool.rec none _ (Nat.blt j n) : Option Value) = _
        simp only
        cases Nat.blt j n <;> rfl
def p_lenS (x : Opd) (T : Tm) : Option Value := vSl (oev T x) (fun _ n _ => some (.int .i64 (.ofNat n))) none
theorem p_lenS_eq : p_lenS = Sim.p_lenS := by
  funext x T
  unfold p_lenS Sim.p_lenS
  rw [oev_eq,vSl_eq]
  generalize Sim.oev T x = v
  cases v <;> rfl
def p_not (x : Opd) (T : Tm) : Option Value := vBool (oev T x) (fun b => some (.bool (Bool.rec true false b))) (Bool.rec none (some (nd 23 (oev T x) [])) (symBv (oev T x)))
theorem p_not_eq : p_not = Sim.p_not := by
  funext x T
  unfold p_not Sim.p_not
  rw [oev_eq,vBool_eq]
  generalize Sim.oev T x = v
  cases v
  case bool b => cases b <;> rfl
  all_goals (dsimp only; cases symBv _ <;> rfl)
def p_conv (k : IntKind) (x : Opd) (T : Tm) : Option Value := vInt (oev T x) (fun _ a => some (.int k (wrapF k a))) (Option.rec none (fun _ => some (nd 8 (.int k (.ofNat (nat_lit 0))) [oev T x])) (symK (oev T x)))
theorem p_conv_eq : p_conv = Sim.p_conv := by
  funext k x T
  unfold p_conv Sim.p_conv
  rw [oev_eq,vInt_eq,wrapF_eq]
  generalize Sim.oev T x = v
  cases v
  case int => rfl
  all_goals (dsimp only; cases symK _ <;> rfl)
def p_mov (x : Opd) (T : Tm) : Option Value := some (oev T x)
theorem p_mov_eq : p_mov = Sim.p_mov := by
  funext x T
  unfold p_mov Sim.p_mov
  rw [oev_eq]
def p_fld (ag : Bool) (off size : Nat) (x : Opd) (T : Tm) : Option Value := vAgg (oev T x) (fun l => Bool.rec (nth l off) (sub l off size fun r => some (.agg ⟨r⟩)) ag) none
theorem p_fld_eq : p_fld = Sim.p_fld := by
  funext ag off size x T
  unfold p_fld Sim.p_fld
  rw [oev_eq,vAgg_eq]
  generalize Sim.oev T x = v
  cases v <;> try rfl
  rename_i l
  obtain ⟨l⟩ := l
  cases ag
  · show nth l off = _
    rw [nth_eq]
    rfl
  · show sub l off size _ = _
    rw [sub_eqK]
    simp only [partL]
    cases Sim.sub l off size <;> rfl
def p_ext (x : Opd) (i : Nat) (T : Tm) : Option Value := vTup (oev T x) (fun l => nth l i) none
theorem p_ext_eq : p_ext = Sim.p_ext := by
  funext x i T
  unfold p_ext Sim.p_ext
  rw [oev_eq,vTup_eq,nth_eq]
  generalize Sim.oev T x = v
  cases v <;> rfl
def vCells {β : Type} (lo : LO) (f : List Value → β) (e : β) : β := LO.rec (fun c => f c) (fun _ _ _ => e) (fun _ _ _ _ _ _ => e) (fun _ => e) (fun _ => e) lo
def r_ld1 (a : Opd) (T : Tm) (h : Tr LO) : Option Value := vPtr (oev T a) (fun b o => Option.rec none (fun lo => vCells lo (fun c => nth c o) none) (Tr.get h b)) none
theorem r_ld1_eq : r_ld1 = Sim.r_ld1 := by
  funext a T h
  unfold r_ld1 Sim.r_ld1
  rw [oev_eq,nth_eq]
  generalize Sim.oev T a = v
  cases v <;> try rfl
  rename_i ad
  cases ad with
  | none => rfl
  | some ad =>
    obtain ⟨b,o,sp⟩ := ad
    cases sp with
    | some _ => rfl
    | none =>
      show (Option.rec none _ (Tr.get h b) : Option Value) = _
      simp only
      cases Tr.get h b with
      | none => rfl
      | some lo => cases lo <;> rfl
def r_ldn (n : Nat) (a : Opd) (T : Tm) (h : Tr LO) : Option Value := vPtr (oev T a) (fun b o => Option.rec none (fun lo => vCells lo (fun c => sub c o n fun r => some (.agg ⟨r⟩)) none) (Tr.get h b)) none
theorem r_ldn_eq : r_ldn = Sim.r_ldn := by
  funext n a T h
  unfold r_ldn Sim.r_ldn
  rw [oev_eq]
  generalize Sim.oev T a = v
  cases v <;> try rfl
  rename_i ad
  cases ad with
  | none => rfl
  | some ad =>
    obtain ⟨b,o,sp⟩ := ad
    cases sp with
    | some _ => rfl
    | none =>
      show (Option.rec none _ (Tr.get h b) : Option Value) = _
      simp only
      cases Tr.get h b with
      | none => rfl
      | some lo =>
        cases lo <;> try rfl
        rename_i c
        show sub c o n _ = _
        rw [sub_eqK]
        simp only
        cases Sim.sub c o n <;> rfl
def both (a b : Bool) : Bool := Bool.rec false b a
def w_st {β : Type} (n : Nat) (a x : Opd) (T : Tm) (s : St) (k : Value → St → Option β) : Option β := vPtr (oev T a) (fun b o => Option.rec none (fun lo => vCells lo (fun c => force (oev T x) fun v => (fun cs => Bool.rec none (over c o cs fun c => St.putK s b (some (.cells c)) fun s => k (.tuple ⟨.nil⟩) s) (both (Nat.beq (len cs) n) (ones cs))) (cellsOf v)) none) (Tr.get s.h b)) none
theorem w_st_eq {β : Type} : w_st (β := β) = Sim.w_st := by
  funext n a x T s k
  unfold w_st Sim.w_st
  rw [oev_eq]
  generalize Sim.oev T a = v
  cases v <;> try rfl
  rename_i ad
  cases ad with
  | none => rfl
  | some ad =>
    obtain ⟨b,o,sp⟩ := ad
    cases sp with
    | some _ => rfl
    | none =>
      show (Option.rec none _ (Tr.get s.h b) : Option β) = _
      simp only
      cases Tr.get s.h b with
      | none => rfl
      | some lo =>
        cases lo <;> try rfl
        rename_i c
        show force (Sim.oev T x) _ = _
        rw [force_eq,cellsOf_eq,len_eqK,ones_eq]
        simp only [over_eq]
        generalize Sim.cellsOf (Sim.oev T x) = cs
        cases Nat.beq (Sim.len cs) n <;> cases Sim.ones cs <;> try rfl
        show (Sim.over c o cs).bind _ = _
        cases Sim.over c o cs <;> rfl
def evPd : POp → Tm → Option Value := POp.rec p_mov p_pick p_build p_bin p_eqB p_eqG p_isNil p_neg p_not p_conv p_mki p_mkf p_fld p_idxA p_idxS p_ext p_fad p_iadS p_iadA p_slcS p_slcT p_slcA p_lenS p_lenT p_lenC p_max p_min p_nilc
theorem evPd_eq : evPd = Sim.evPd := by
  funext o
  cases o <;> first
    | rfl
    | exact congrFun p_mov_eq _
    | exact congrFun (congrFun (congrFun p_bin_eq _) _) _
    | exact congrFun p_not_eq _
    | exact congrFun (congrFun p_conv_eq _) _
    | exact congrFun (congrFun (congrFun (congrFun p_fld_eq _) _) _) _
    | exact congrFun (congrFun p_ext_eq _) _
    | exact congrFun (congrFun p_fad_eq _) _
    | exact congrFun (congrFun (congrFun p_iadS_eq _) _) _
    | exact congrFun p_lenS_eq _
def evRd : ROp → Tm → Tr LO → Option Value := ROp.rec r_ld1 r_ldn r_lkp r_lenM
theorem evRd_eq : evRd = Sim.evRd := by
  funext o
  cases o <;> first
    | rfl
    | exact congrFun r_ld1_eq _
    | exact congrFun (congrFun r_ldn_eq _) _
def evAd : AOp → Tm → Option (LO × (Nat → Value)) := AOp.rec a_new a_box a_bsl a_mks a_mkm
theorem evAd_eq : evAd = Sim.evAd := by funext o; cases o <;> rfl
section
variable {β : Type}
def w_app' (size : Nat) (_ : List Value) : Opd → Opd → Tm → St → (Value → St → Option β) → Option β := w_app size
def evWd : WOp → Tm → St → (Value → St → Option β) → Option β := WOp.rec w_st w_mup w_app'
theorem evWd_eq : evWd (β := β) = Sim.evWd := by
  funext o
  cases o <;> first
    | rfl
    | exact congrFun (congrFun (congrFun w_st_eq _) _) _
variable (call : Value → List Value → St → Option (Value × St))
def i_p (op : POp) (T : Tm) (s : St) (k : Value → St → Option β) : Option β := Option.rec none (fun v => k v s) (evPd op T)
def i_r (op : ROp) (T : Tm) (s : St) (k : Value → St → Option β) : Option β := Option.rec none (fun v => k v s) (evRd op T s.h)
def i_a (op : AOp) (T : Tm) (s : St) (k : Value → St → Option β) : Option β := Bool.rec none (Option.rec none (fun p => Prod.rec (fun lo f => St.newK s lo fun s' => k (f s.n) s') p) (evAd op T)) (Nat.blt s.n limH)
def i_w (op : WOp) (T : Tm) (s : St) (k : Value → St → Option β) : Option β := evWd op T s k
def i_call (f : Opd) (args : List Opd) (T : Tm) (s : St) (k : Value → St → Option β) : Option β := Option.rec none (fun p => Prod.rec (fun v s => k v s) p) (call (oev T f) (oevs T args) s)
theorem i_p_eq : i_p (β := β) = Sim.i_p := by
  funext op T s k
  unfold i_p Sim.i_p
  rw [evPd_eq,show evP T op = Sim.evPd op T from rfl]
  cases Sim.evPd op T <;> rfl
theorem i_r_eq : i_r (β := β) = Sim.i_r := by
  funext op T s k
  unfold i_r Sim.i_r
  rw [evRd_eq,show evR T s.h op = Sim.evRd op T s.h from rfl]
  cases Sim.evRd op T s.h <;> rfl
theorem i_a_eq : i_a (β := β) = Sim.i_a := by
  funext op T s k
  unfold i_a Sim.i_a
  rw [evAd_eq,show evA T op = Sim.evAd op T from rfl]
  cases Nat.blt s.n limH
  · rfl
  · cases Sim.evAd op T <;> rfl
theorem i_w_eq : i_w (β := β) = Sim.i_w := by
  funext op T s k
  unfold i_w Sim.i_w
  rw [evWd_eq]
  rfl
theorem i_call_eq : i_call (β := β) call = Sim.i_call call := by
  funext f args T s k
  unfold i_call Sim.i_call
  rw [oev_eq]
  cases call (Sim.oev T f) (oevs T args) s <;> rfl
def evI (op : IOp) : Tm → St → (Value → St → Option β) → Option β := IOp.rec i_p i_r i_a i_w (i_call call) op
theorem evI_eq (o : Ins) : evI (β := β) call o.op = Sim.evI call o := by
  funext T s k
  unfold Sim.evI
  cases o.op
  · exact congrFun (congrFun (congrFun (congrFun i_p_eq _) T) s) k
  · exact congrFun (congrFun (congrFun (congrFun i_r_eq _) T) s) k
  · exact congrFun (congrFun (congrFun (congrFun i_a_eq _) T) s) k
  · exact congrFun (congrFun (congrFun (congrFun i_w_eq _) T) s) k
  · exact congrFun (congrFun (congrFun (congrFun (congrFun (i_call_eq call) _) _) T) s) k
def putD (d : Option Nat) (T : Tm) (v : Value) (k : Tm → β) : β := Option.rec (k T) (fun d => Tr.setK DT T d (some v) k) d
theorem putD_eq : putD (β := β) = Sim.putD := by
  funext d T v k
  cases d <;> rfl
def wantedB (b : Bool) (v : Value) : Bool := match v with
  | .bool c => Bool.rec (Bool.rec true false c) (Bool.rec false true c) b
  | _ => false
def wanted (T : Tm) (g : Option (Nat × Bool)) : Bool := Option.rec true (fun p => Prod.rec (fun t b => wantedB b (tget T t)) p) g
theorem wanted_eq : wanted = Sim.wanted := by
  funext T g
  cases g with
  | none => rfl
  | some p =>
    obtain ⟨t,b⟩ := p
    show wantedB b (tget T t) = Sim.wanted T (some (t,b))
    rw [tget_eq]
    unfold wantedB Sim.wanted
    simp only
    generalize Sim.tget T t = v
    cases v <;> try rfl
    rename_i c
    cases b <;> cases c <;> rfl
def evOps (l : List Ins) : Tm → St → (Tm → St → Option β) → Option β :=
  List.rec (fun T s k => k T s) (fun o _ ih T s k => Ins.rec (fun dst op grd => Bool.rec (Bool.rec none (putD dst T (.tuple ⟨[]⟩) fun T => ih T s k) (gOK T grd)) (evI call op T s fun v s => force v fun v => putD dst T v fun T => ih T s k) (wanted T grd)) o) l
theorem evOps_eq : ∀ (l : List Ins),evOps (β := β) call l = Sim.evOps call l
  | [] => rfl
  | o :: l => by
    funext T s k
    have ih := evOps_eq l
    obtain ⟨dst,op,grd⟩ := o
    show (Bool.rec (Bool.rec none (putD dst T (.tuple ⟨[]⟩) fun T => evOps call l T s k) (gOK T grd)) (evI call op T s fun v s => force v fun v => putD dst T v fun T => evOps call l T s k) (wanted T grd) : Option β) = _
    simp only [force_eq]
    rw [ih,putD_eq,wanted_eq,show evI (β := β) call op = Sim.evI call ⟨dst,op,grd⟩ from evI_eq call ⟨dst,op,grd⟩]
    simp only [Sim.evOps,Sim.force_eq]
    cases Sim.wanted T grd <;> first | rfl | (cases gOK T grd <;> rfl)
end

section
variable (call : Value → List Value → St → Option (Value × St)) (code : IC → Option Nat → List Nat → Tm → St → Option Cf)
def c_skip (rnd : Option Nat) (ds : List Nat) (T : Tm) (s : St) : Option Cf := some ⟨.norm,T,s,ds⟩
def c_ops (l : List Ins) (_rnd : Option Nat) (ds : List Nat) (T : Tm) (s : St) : Option Cf := evOps call l T s fun T s => some ⟨.norm,T,s,ds⟩
def c_draw (l : List DI) (_rnd : Option Nat) (ds : List Nat) (T : Tm) (s : St) : Option Cf := evDraw call l T s fun T s => some ⟨.norm,T,s,ds⟩
def c_seq (a b : IC) (_ _ : Option Nat → List Nat → Tm → St → Option Cf) (rnd : Option Nat) (ds : List Nat) (T : Tm) (s : St) : Option Cf :=
  Option.rec none (fun c => Cf.rec (fun o T s ds => Out.rec (code b rnd ds T s) (some ⟨.ret,T,s,ds⟩) (fun i => some ⟨.exit i,T,s,ds⟩) (fun i => some ⟨.goto i,T,s,ds⟩) o) c) (code a rnd ds T s)
def boolV {β : Type} (v : Value) (t f : Option β) : Option β := match v with
  | .bool true => t
  | .bool false => f
  | _ => none
def c_cond (x : Opd) (a b : IC) (_ _ : Option Nat → List Nat → Tm → St → Option Cf) (rnd : Option Nat) (ds : List Nat) (T : Tm) (s : St) : Option Cf := boolV (oev T x) (code a rnd ds T s) (code b rnd ds T s)
def c_block (id : Nat) (a : IC) (_ : Option Nat → List Nat → Tm → St → Option Cf) (rnd : Option Nat) (ds : List Nat) (T : Tm) (s : St) : Option Cf :=
  Option.rec none (fun c => Cf.rec (fun o T s ds => Out.rec (some ⟨.norm,T,s,ds⟩) (some ⟨.ret,T,s,ds⟩) (fun m => Bool.rec (some ⟨.exit m,T,s,ds⟩) (some ⟨.norm,T,s,ds⟩) (Nat.beq m id)) (fun i => some ⟨.goto i,T,s,ds⟩) o) c) (code a rnd ds T s)
def c_loop (a : IC) (_ : Option Nat → List Nat → Tm → St → Option Cf) (rnd : Option Nat) (ds : List Nat) (T : Tm) (s : St) : Option Cf :=
  Option.rec none (fun c => Cf.rec (fun o T s ds => Out.rec (code (.loop a) rnd ds T s) (some ⟨.ret,T,s,ds⟩) (fun i => some ⟨.exit i,T,s,ds⟩) (fun i => some ⟨.goto i,T,s,ds⟩) o) c) (code a rnd ds T s)
def c_rng (f : Opd) (ps : List Nat) (asg body : IC) (_ _ : Option Nat → List Nat → Tm → St → Option Cf) (rnd : Option Nat) (ds : List Nat) (T : Tm) (s : St) : Option Cf := codeB call code (.rng f ps asg body) rnd ds T s
def c_exit (id : Nat) (_rnd : Option Nat) (ds : List Nat) (T : Tm) (s : St) : Option Cf := some ⟨.exit id,T,s,ds⟩
def c_scope (a : IC) (_ : Option Nat → List Nat → Tm → St → Option Cf) (rnd : Option Nat) (ds : List Nat) (T : Tm) (s : St) : Option Cf := codeB call code (.scope a) rnd ds T s
def c_goto (id : Nat) (_rnd : Option Nat) (ds : List Nat) (T : Tm) (s : St) : Option Cf := some ⟨.goto id,T,s,ds⟩
def c_ret (_rnd : Option Nat) (ds : List Nat) (T : Tm) (s : St) : Option Cf := some ⟨.ret,T,s,ds⟩
def codeF (c : IC) : Option Nat → List Nat → Tm → St → Option Cf :=
  IC.rec c_skip (c_ops call) (c_draw call) (c_seq code) (c_cond code) (c_block code) (c_loop code) (c_rng call code) c_exit (c_scope call code) c_goto c_ret c
theorem codeF_eq : codeF call code = codeB call code := by
  funext c rnd ds T s
  cases c
  case ops l =>
    show evOps call l T s _ = _
    rw [evOps_eq]
    rfl
  case seq a b =>
    show c_seq code a b (codeF call code a) (codeF call code b) rnd ds T s = _
    simp only [c_seq,codeB]
    cases code a rnd ds T s with
    | none => rfl
    | some c => obtain ⟨o,T,s,ds⟩ := c; cases o <;> rfl
  case cond x a b =>
    show boolV (oev T x) (code a rnd ds T s) (code b rnd ds T s) = _
    rw [oev_eq]
    simp only [codeB,boolV]
    generalize Sim.oev T x = v
    cases v <;> rfl
  case block id a =>
    show c_block code id a (codeF call code a) rnd ds T s = _
    simp only [c_block,codeB]
    cases code a rnd ds T s with
    | none => rfl
    | some c =>
      obtain ⟨o,T,s,ds⟩ := c
      cases o <;> try rfl
      rename_i m
      show (Bool.rec (some ⟨.exit m,T,s,ds⟩) (some ⟨.norm,T,s,ds⟩) (Nat.beq m id) : Option Cf) = _
      simp only
      cases Nat.beq m id <;> rfl
  case loop a =>
    show c_loop code a (codeF call code a) rnd ds T s = _
    simp only [c_loop,codeB]
    cases code a rnd ds T s with
    | none => rfl
    | some c => obtain ⟨o,T,s,ds⟩ := c; cases o <;> rfl
  all_goals rfl
end
end
end Go.Sim.K
namespace Go.Sim
set_option linter.all false
open Go
variable [Rho] [Asm] [SymOK]

def S1 (h : Tr LO) (n : Nat) : St := ⟨h,n,n,[]⟩
def I1 (P : Program) : Io := fun g => match gsize P g with
  | some c => some (g,c)
  | none => none
theorem gsize_lt {P : Program} {g c : Nat} (h : gsize P g = some c) : g < P.globals.size := by
  unfold gsize at h
  split at h
  · rename_i hg; exact (Array.getElem?_eq_some_iff.1 hg).1
  · cases h
theorem I1_inv {P : Program} {b r c : Nat} (h : I1 P b = some (r,c)) : r = b ∧ gsize P b = some c := by
  unfold I1 at h
  split at h
  · rename_i hc; cases h; exact ⟨rfl,hc⟩
  · cases h
def Laid1 (P : Program) (h : Tr LO) (w : World) : Prop := ∀ b o,h.get b = some o → ∃ c l cs t f,gsize P b = some c ∧ o = .ro l ∧ w.heap[b]? = some (.cells cs t f) ∧ cs.toList = l
theorem WR.first {P : Program} {h : Tr LO} {n : Nat} {w : World} (hn : P.globals.size = n) (hl : n ≤ limH) (hw : n ≤ w.heap.size) (ht : Laid1 P h w) (he : Rho.B ≤ w.heap.size ∧ ∀ k,P.globals.size ≤ k → k < Rho.B → w.heap[k]? = Rho.W0 k) : WR P (I1 P) (S1 h n) w where
  obj := fun b o hb => by
    obtain ⟨c,l,cs,t,f,h1,rfl,h3,h4⟩ := ht b o hb
    exact ⟨b,c,_,by unfold I1; rw [h1],h3,cs,t,f,rfl,h4⟩
  inj := fun b b' r c c' _ _ h3 h4 => by rw [← (I1_inv h3).1,← (I1_inv h4).1]
  bound := fun b r c h => by
    obtain ⟨e1,e2⟩ := I1_inv h
    have := gsize_lt e2
    omega
  dom := fun b r h => by
    obtain ⟨r,c⟩ := r
    have := gsize_lt (I1_inv h).2
    show b < n
    omega
  lim := hl
  bsn := Nat.le_refl _
  wsb := fun b h => by cases h
  pin := fun g c hg => by unfold I1; rw [hg]
  env := ⟨fun b r c h => .inl (by obtain ⟨e1,e2⟩ := I1_inv h; have := gsize_lt e2; omega),he.1,he.2⟩

structure Kept (w w' : World) : Prop where
  os : w'.os = w.os
  tape : w'.tape = w.tape
  output : w'.output = w.output
  size : w.heap.size ≤ w'.heap.size
  heap : ∀ k,k < w.heap.size → w'.heap[k]? = w.heap[k]?

end Go.Sim
