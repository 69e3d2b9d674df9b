/- Part 5 of the proof: SimP, SimR, SimS, SimS2, SimT0, SimT1. -/
import Derived.Test.YtljefjngmembkaaGreatDoorT04
namespace Go.Sim
set_option linter.all false
open Go
variable [Rho] [Asm] [SymOK]

section
variable {P : Program} {ι : Io} {T : Tm} {a : Act} {s : St} {w : World}

theorem flatL_ok {ι ι' : Io} {m : Nat} (h : ∀ b r,b < m → ι' b = some r → ι b = some r) : ∀ {l l' : List Value},flatL m l = true → LR ι' l l' → LR ι l l'
  | _,_,_,.nil => .nil
  | _,_,hf,.cons hv hl => by
    simp only [flatL] at hf
    split at hf
    · rename_i h1
      exact .cons (VR.backFlat h 4 _ _ h1 hv) (flatL_ok h hf hl)
    · cases hf
theorem flatE_ok {ι ι' : Io} {m : Nat} (h : ∀ b r,b < m → ι' b = some r → ι b = some r) : ∀ {l : List (Value × Value)} {l' : List MapEntry},flatE m l = true → ER ι' l l' → ER ι l l'
  | _,_,_,.nil => .nil
  | _,_,hf,.cons hk hv hl => by
    simp only [flatE] at hf
    split at hf
    · rename_i h1 h2
      exact .cons (VR.backFlat h 4 _ _ h1 hk) (VR.backFlat h 4 _ _ h2 hv) (flatE_ok h hf hl)
    · cases hf
theorem flatO_ok {ι ι' : Io} {m c : Nat} {lo : LO} {o : Obj} (h : ∀ b r,b < m → ι' b = some r → ι b = some r) (hf : flatO m lo = true) (ho : OR P ι' c lo o) : OR P ι c lo o := by
  cases lo with
  | cells l => obtain ⟨cs,t,e,hc,l',tl,h1,h2⟩ := ho; exact ⟨cs,t,e,hc,l',tl,h1,flatL_ok h hf h2⟩
  | map n ag es => obtain ⟨en,ck,e,h1,h2⟩ := ho; exact ⟨en,ck,e,flatE_ok h hf h1,h2⟩
  | loop st pend T ps asg body => cases hf
  | defd b => exact ho
  | ro l => exact ho

theorem back_ok {m : Nat} {h' : Tr LO} : ∀ {ws : List Nat} {h h1 : Tr LO},back m h' h ws = some h1 → (∀ b ∈ ws,b + 1 < 2 ^ DH) → (∀ b ∈ ws,∃ o,h'.get b = some o ∧ flatO m o = true) ∧ ∀ j,h1.get j = if j ∈ ws then h'.get j else h.get j
  | [],h,h1,e,_ => by
    simp only [back,Option.some.injEq] at e
    subst e
    simp
  | b :: ws,h,h1,e,hb => by
    simp only [back] at e
    split at e
    · rename_i o ho
      split at e
      · rename_i hf
        obtain ⟨q1,q2⟩ := back_ok e fun x hx => hb x (List.mem_cons_of_mem _ hx)
        refine ⟨fun x hx => ?_,fun j => ?_⟩
        · rcases List.mem_cons.1 hx with rfl | hx
          · exact ⟨o,ho,hf⟩
          · exact q1 x hx
        · rw [q2 j,Tr.get_set DH h b (some o) j (hb b List.mem_cons_self)]
          by_cases h1 : j ∈ ws
          · simp [h1]
          · by_cases h2 : j = b
            · subst h2; simp [ho]
            · simp [h1,h2]
      · cases e
    · cases e
theorem merge_ok {bs : Nat} : ∀ {l ws : List Nat},(∀ b,b ∈ ws → b ∈ merge bs ws l) ∧ (∀ b,b ∈ l → b < bs → b ∈ merge bs ws l)
  | [],ws => ⟨fun _ h => h,fun _ h => by simp at h⟩
  | b :: l,ws => by
    simp only [merge]
    split
    · rename_i h1 h2
      obtain ⟨q1,q2⟩ := merge_ok (bs := bs) (l := l) (ws := b :: ws)
      refine ⟨fun x hx => q1 x (List.mem_cons_of_mem _ hx),fun x hx hlt => ?_⟩
      rcases List.mem_cons.1 hx with rfl | hx
      · exact q1 _ List.mem_cons_self
      · exact q2 x hx hlt
    · rename_i hne
      obtain ⟨q1,q2⟩ := merge_ok (bs := bs) (l := l) (ws := ws)
      refine ⟨q1,fun x hx hlt => ?_⟩
      rcases List.mem_cons.1 hx with rfl | hx
      · have hblt : Nat.blt x bs = true := by simpa [Nat.blt_eq] using hlt
        cases hm : mem x ws with
        | true => exact q1 _ (mem_ok hm)
        | false => exact absurd hm (hne hblt)
      · exact q2 x hx hlt

theorem merge_mem {bs : Nat} : ∀ {l ws : List Nat} {b : Nat},b ∈ merge bs ws l → b ∈ ws ∨ b < bs
  | [],ws,b,h => .inl h
  | c :: l,ws,b,h => by
    simp only [merge] at h
    split at h
    · rename_i h1 h2
      rcases merge_mem h with h | h
      · rcases List.mem_cons.1 h with rfl | h
        · exact .inr (blt_true h1)
        · exact .inl h
      · exact .inr h
    · exact merge_mem h
theorem callee_wr (hW : WR P ι s w) : WR P ι ⟨s.h,s.n,s.n,[]⟩ w := ⟨hW.obj,hW.inj,hW.bound,hW.dom,hW.lim,Nat.le_refl _,fun _ h => (by cases h),hW.pin,hW.env⟩

theorem done_ok (hW : WR P ι s w) {ι' : Io} {s' s1 : St} {w' : World} {v v' v1 : Value} (hp : Po P ι ⟨s.h,s.n,s.n,[]⟩ w ι' s' w') (hv : VR ι' v v') (he : done s v s' = (v1,s1)) :
    ∃ ι1,VR ι1 v1 v' ∧ Po P ι s w ι1 s1 w' := by
  have keep : ∃ ι1,VR ι1 v v' ∧ Po P ι s w ι1 ⟨s'.h,s'.n,s.bs,merge s.bs s.ws s'.ws⟩ w' := by
    refine ⟨ι',hv,⟨hW,hp.ext,⟨hp.wr.obj,hp.wr.inj,hp.wr.bound,hp.wr.dom,hp.wr.lim,Nat.le_trans hW.bsn hp.nle,fun b hb => (merge_mem hb).elim (hW.wsb b) id,hp.wr.pin,hp.wr.env⟩,hp.os,hp.tape,hp.output,hp.size,?_,?_,hp.newid,?_,hp.dead,rfl,hp.nle,fun b hb => (merge_ok).1 b hb⟩⟩
    · intro k hk hh
      refine hp.frame k hk fun b c hb => ?_
      rcases hh b c hb with e | ⟨e1,e2⟩
      · exact .inl e
      · exact .inr ⟨hW.dom _ _ hb,fun hm => e2 ((merge_ok).2 b hm e1)⟩
    · intro b r c h1 h2 hr
      obtain ⟨b0,c0,e0,l0,o0⟩ := hp.newold b r c h1 h2 hr
      refine ⟨b0,c0,e0,l0,?_⟩
      rcases o0 with o | o
      · exact absurd (hW.dom _ _ e0) (Nat.not_lt.2 o)
      · by_cases hlt : b0 < s.bs
        · exact .inr ((merge_ok).2 b0 o hlt)
        · exact .inl (Nat.not_lt.1 hlt)
    · intro b hb hw
      exact hp.inv b (Nat.lt_of_lt_of_le hb hW.bsn) fun hm => hw ((merge_ok).2 b hm hb)
  unfold done at he
  split at he
  · rename_i hf
    split at he
    · rename_i h1 hback
      cases he
      have hback' : ∀ b r,b < s.n → ι' b = some r → ι b = some r := fun b r hb h => by
        cases hi : ι b with
        | none => exact absurd (hp.newid b r hi h) (Nat.not_le.2 hb)
        | some x => have := hp.ext _ _ hi; rw [h] at this; exact this.symm
      have hws : ∀ b ∈ s'.ws,b < s.n := fun b hb => by have := hp.wr.wsb b hb; rw [hp.bs] at this; exact this
      obtain ⟨q1,q2⟩ := back_ok hback fun b hb => lim_le (by have := hws b hb; have := hW.lim; omega)
      have hlive : ∀ j,h1.get j ≠ none → s.h.get j ≠ none := fun j hj e => by
        rw [q2 j] at hj
        split at hj
        · rename_i hm
          exact hj (hp.dead j (hws j hm) e)
        · exact hj e
      refine ⟨ι,VR.backFlat hback' 4 _ _ hf hv,⟨hW,.refl _,⟨?_,?_,?_,hW.dom,hW.lim,hW.bsn,fun b hb => (merge_mem hb).elim (hW.wsb b) id,hW.pin,⟨hW.env.low,hp.wr.env.top,hp.wr.env.old⟩⟩,hp.os,hp.tape,hp.output,hp.size,?_,?_,?_,?_,?_,rfl,Nat.le_refl _,fun b hb => (merge_ok).1 b hb⟩⟩
      · intro j o hj
        have hj2 : h1.get j = some o := hj
        rw [q2 j] at hj2
        split at hj2
        · rename_i hm
          obtain ⟨r,c,x,e1,e2,e3⟩ := hp.wr.obj j o hj2
          obtain ⟨o',ho',hfo⟩ := q1 j hm
          rw [hj2] at ho'
          cases ho'
          exact ⟨r,c,x,hback' j _ (hws j hm) e1,e2,flatO_ok hback' hfo e3⟩
        · rename_i hm
          obtain ⟨r0,c0,x0,f1,f2,f3⟩ := hW.obj j o hj2
          have hjn := hW.dom _ _ f1
          have e0 := (hp.inv j hjn hm).trans hj2
          obtain ⟨r,c,x,e1,e2,e3⟩ := hp.wr.obj j o e0
          have e4 := hp.ext _ _ f1
          rw [e1] at e4
          cases e4
          exact ⟨_,_,x,f1,e2,f3.back hp.ext e3⟩
      · intro j j' r c c' h1 h2 h3 h4
        exact hW.inj j j' r c c' (hlive j h1) (hlive j' h2) h3 h4
      · intro j r c h
        exact Nat.lt_of_lt_of_le (hW.bound j r c h) hp.size
      · intro k hk hh
        refine hp.frame k hk fun b c hb => ?_
        rcases hh b c hb with e | ⟨e1,e2⟩
        · exact .inl e
        · exact .inr ⟨hW.dom _ _ hb,fun hm => e2 ((merge_ok).2 b hm e1)⟩
      · intro b r c h1 h2; rw [h1] at h2; cases h2
      · intro b r h1 h2; rw [h1] at h2; cases h2
      · intro b hb hw
        show h1.get b = _
        rw [q2 b,if_neg]
        intro hm
        exact hw ((merge_ok).2 b hm hb)
      · intro b hb e
        show h1.get b = none
        rw [q2 b]
        split
        · exact hp.dead b hb e
        · exact e
    · cases he; exact keep
  · cases he; exact keep

inductive DsOK (ι : Io) (bs : Nat) : List Nat → List Deferred → Prop
  | nil : DsOK ι bs [] []
  | cons {d r c : Nat} {ds : List Nat} {l : List Deferred} : ι d = some (r,c) → bs ≤ d → DsOK ι bs ds l → DsOK ι bs (d :: ds) ({ target := .collected r,args := #[] } :: l)
theorem DsOK.mono {ι ι' : Io} (h : Ext ι ι') {bs : Nat} : ∀ {ds l},DsOK ι bs ds l → DsOK ι' bs ds l
  | _,_,.nil => .nil
  | _,_,.cons h1 h2 h3 => .cons (h _ _ h1) h2 (h3.mono h)

theorem DsOK.nilI {ι : Io} {bs : Nat} {l : List Deferred} (h : DsOK ι bs [] l) : l = [] := by cases h; rfl
theorem put_own {s : St} {b : Nat} {o : Option LO} (h : s.bs ≤ b) : s.put b o = ⟨Tr.set DH s.h b o,s.n,s.bs,s.ws⟩ := by
  unfold St.put note
  have : Nat.blt b s.bs = false := by
    cases hb : Nat.blt b s.bs with
    | false => rfl
    | true => have := blt_true hb; omega
  rw [this]

theorem shut_ok {F : Fence} {n : Nat} {fn : Func} {tmps : Array Value} {R : Ending → World → Prop} : ∀ {ds : List Nat} {l : List Deferred} {s : St} {ι : Io} {w : World} {h1 : Tr LO},DsOK ι s.bs ds l → shut s.h ds = some h1 → WR P ι s w →
    (∀ w',Po P ι s w ι ⟨h1,s.n,s.bs,s.ws⟩ w' → LeavesInM F n P fn tmps R [] .returning w') → LeavesInM F n P fn tmps R l .returning w
  | [],_,s,ι,w,h1,.nil,e,hW,hK => by
    simp only [shut,Option.some.injEq] at e
    subst e
    exact hK w (Po.refl hW)
  | d :: ds,_,s,ι,w,h1,.cons (r := r) (c := c) hd hb hl,e,hW,hK => by
    simp only [shut] at e
    split at e
    · rename_i hg
      obtain ⟨r',c',x,e1,e2,e3⟩ := hW.obj _ _ hg
      rw [hd] at e1
      cases e1
      have e4 : x = .deferred (some []) := e3
      subst e4
      have hlt := hW.bound _ _ _ hd
      have hgo : (getObj r).run P w = .ok (.deferred (some [])) w := getObj_run e2 (fun _ _ _ h => by cases h)
      have hso : (setObj r (.deferred none)).run P w = .ok () { w with heap := w.heap.setIfInBounds r (.deferred none) } := setObj_run e2 (fun _ _ _ h => by cases h)
      have hpo := Po.put hW (by rw [hg]; simp) hd (o := .defd false) (x := .deferred none) rfl (upd_set hlt)
      rw [put_own hb] at hpo
      refine ⟨by simp,.inl ⟨r,_,rfl,?_,shut_ok (s := ⟨Tr.set DH s.h d (some (.defd false)),s.n,s.bs,s.ws⟩) hl e hpo.wr fun w' hp => hK w' (hpo.trans hp)⟩⟩
      simp only [Instr.takeDeferred,Sem.run_bind,hgo,Result.andThen_ok,hso,Sem.run_pure]
    · cases e

def outE : Out → Exit
  | .norm => .normal
  | .ret => .ret
  | .exit id => .exit id
  | .goto l => .goto l

def RdOK (ι : Io) (rnd l : Option Nat) : Prop := match rnd with
  | none => l = none
  | some b => ∃ r c,ι b = some (r,c) ∧ l = some r
theorem RdOK.mono {ι ι' : Io} (h : Ext ι ι') {rnd l : Option Nat} (hr : RdOK ι rnd l) : RdOK ι' rnd l := by
  cases rnd with
  | none => exact hr
  | some b => obtain ⟨r,c,h1,h2⟩ := hr; exact ⟨r,c,h _ _ h1,h2⟩

def Post (P : Program) (ι : Io) (s : St) (w : World) (a : Act) (cf : Cf) (Q : Exit → Act → World → Prop) : Prop :=
  ∀ a' ι' w',TR ι' cf.T a'.tmps → a'.tmps.size = a.tmps.size → Po P ι s w ι' cf.s w' → DsOK ι' s.bs cf.ds a'.defers → Q (outE cf.out) a' w'
def CodeOK (P : Program) (code : IC → Option Nat → List Nat → Tm → St → Option Cf) : Prop :=
  ∀ nt c ic rnd ds T s cf,comp P nt c = some ic → code ic rnd ds T s = some cf → ∀ ι w a l n Q,TR ι T a.tmps → nt ≤ a.tmps.size → WR P ι s w → RdOK ι rnd l → DsOK ι s.bs ds a.defers → Post P ι s w a cf Q →
    c.wpIn (FW l) n P Q a w ∧ ∀ c0,c = .loop c0 → LoopR (FW l) n P c0 Q a w

theorem compF_inv {f : FuncId} {fi : FI} (h : compF P f = some fi) : ∃ fn c,P.funcs[f]? = some fn ∧ fn.body = some c ∧ comp P fn.ntmps c = some fi.code ∧ fn.results.toList.mapM (compRes P) = some fi.res ∧ fn.ntmps = fi.nt ∧ (fn.name == "runtime.NumGoroutine") = false ∧ fi.nt ≤ limT := by
  unfold compF at h
  split at h
  · cases h
  · rename_i fn hfn
    split at h
    · cases h
    · rename_i c hc
      split at h
      · rename_i ic rs h1 h2
        split at h
        · cases h
        · rename_i hcond
          cases h
          simp only [Bool.or_eq_true,decide_eq_true_eq,not_or,Nat.not_lt] at hcond
          exact ⟨fn,c,hfn,hc,h1,h2,rfl,by simpa using hcond.1,hcond.2⟩
      · cases h

def TabOK (P : Program) (tab : Tr FI) : Prop := ∀ f fi,tab.get f = some fi → compF P f = some fi

theorem puts_ok : ∀ {ps : List Nat} {args args' : List Value} {T T1 : Tm} {tmps : Array Value},puts T ps args = some T1 → LR ι args args' → TR ι T tmps → (∀ p ∈ ps,p < tmps.size) →
    TR ι T1 ((ps.zip args').foldl (fun tmps p => tmps.setIfInBounds p.1 p.2) tmps) ∧ ((ps.zip args').foldl (fun (tmps : Array Value) p => tmps.setIfInBounds p.1 p.2) tmps).size = tmps.size ∧ args'.length = ps.length
  | [],[],_,T,T1,tmps,h,.nil,hT,_ => by
    simp only [puts,Option.some.injEq] at h
    subst h
    exact ⟨hT,rfl,rfl⟩
  | [],_ :: _,_,_,_,_,h,_,_,_ => by simp [puts] at h
  | _ :: _,[],_,_,_,_,h,_,_,_ => by simp [puts] at h
  | t :: ps,v :: vs,_,T,T1,tmps,h,.cons (v' := v') hv hl,hT,hp => by
    simp only [puts] at h
    split at h
    · rename_i hlt
      obtain ⟨q1,q2,q3⟩ := puts_ok (tmps := tmps.setIfInBounds t v') h hl (hT.put (blt_true hlt) (hp t List.mem_cons_self) hv) (fun p hpm => by simpa using hp p (List.mem_cons_of_mem _ hpm))
      exact ⟨q1,by simpa using q2,by simp [q3]⟩
    · cases h

theorem jump_outE {o : Out} {P : Program} {l : Nat} {R : Ending → World → Prop} {a : Act} {w : World} (h : ∃ v w',(Instr.endRound l (jump o)).run P w = .ok v w' ∧ R (.returned v) w') : roundPost P l R (outE o) a w := by
  cases o <;> exact h

theorem callB_ok {tab : Tr FI} (htab : TabOK P tab) {code : IC → Option Nat → List Nat → Tm → St → Option Cf} (hcode : CodeOK P code) : CallOK P (callB tab code) := by
  intro fv args s v s1 he ι w fv' args' hf ha hW
  unfold callB at he
  split at he
  · rename_i g xs ys
    split at he
    · cases he
    · rename_i fi hfi
      split at he
      · cases he
      · rename_i hlen
        have hlen' := Nat.le_of_ble_eq_true hlen
        rw [len_eq] at hlen'
        split at he
        · rename_i o T' s' ds hcd
          obtain ⟨fn,c,hfn,hb,hcm,hres,hnt,hname,hlim⟩ := compF_inv (htab _ _ hfi)
          cases hf with
          | func hny hxs hys =>
            rename_i xs' ys'
            refine .inl ⟨g,xs',ys',fn,rfl,hfn,by rw [hb]; rfl,hname,fun n => ?_⟩
            have hall : LR ι (app xs (app args ys)) (xs' ++ args' ++ ys') := by
              rw [app_eq,app_eq,List.append_assoc]
              exact hxs.append (ha.append hys)
            have hsz := hall.length
            have htr := argsT_ok (pre := []) (k := fi.nt) hall (tr_e fi.nt) hlen' (by simpa using hlim)
            have hdone : ∀ (o : Out),(o = .norm ∨ o = .ret) → (match shut s'.h ds with
                | none => (none : Option (Value × St))
                | some h => match resV T' h fi.res with
                  | some vs => some (done s (outV vs) ⟨h,s'.n,s'.bs,s'.ws⟩)
                  | none => none) = some (v,s1) → ∀ (a' : Act) (ι' : Io) (w' : World),TR ι' T' a'.tmps → Po P ι ⟨s.h,s.n,s.n,[]⟩ w ι' s' w' → DsOK ι' s.n ds a'.defers →
                LeavesInM Fence.wide n P fn a'.tmps (fun e w' => ∃ v',e = .returned v' ∧ ∃ ι',VR ι' v v' ∧ Po P ι s w ι' s1 w') a'.defers .returning w' := by
              intro o _ hm a' ι' w' hT' hp hds
              split at hm
              · cases hm
              · rename_i h1 hsh
                split at hm
                · rename_i vs hvs
                  have hds' : DsOK ι' s'.bs ds a'.defers := by rw [hp.bs]; exact hds
                  refine shut_ok hds' hsh hp.wr fun w'' hp2 => ?_
                  obtain ⟨v',hv1,hv2⟩ := results_ok hp2.wr hT' hres hvs
                  have hd : done s (outV vs) ⟨h1,s'.n,s'.bs,s'.ws⟩ = (v,s1) := by injection hm
                  obtain ⟨ι1,hv3,hp3⟩ := done_ok hW (hp.trans hp2) hv1 hd
                  exact ⟨v',hv2,v',rfl,ι1,hv3,hp3⟩
                · cases hm
            refine callsIn_of_wp_marks hfn hb trivial ?_ rfl
            have hargs : (⟨xs' ++ args' ++ ys'⟩ : Array Value) ++ Array.replicate (fn.ntmps - (⟨xs' ++ args' ++ ys'⟩ : Array Value).size) undef = ⟨[] ++ (xs' ++ args' ++ ys') ++ List.replicate (fi.nt - (app xs (app args ys)).length) undef⟩ := by
              apply Array.ext'
              rw [Array.toList_append,Array.toList_replicate,hnt,hsz]
              rfl
            rw [hargs]
            refine (hcode _ c fi.code none [] _ _ _ hcm hcd ι w _ none n _ htr ?_ (callee_wr hW) rfl .nil ?_).1
            · show fn.ntmps ≤ ([] ++ (xs' ++ args' ++ ys') ++ List.replicate (fi.nt - (app xs (app args ys)).length) undef).length
              rw [hnt,List.length_append,List.nil_append,← hsz,List.length_replicate]
              omega
            · intro a' ι' w' hT' _ hp hds
              cases o with
              | norm => exact hdone .norm (.inl rfl) he a' ι' w' hT' hp hds
              | ret => exact hdone .ret (.inr rfl) he a' ι' w' hT' hp hds
              | exit id => cases he
              | goto l => cases he
        · cases he
  · rename_i l xs ys
    split at he
    · rename_i st0 pend0 T ps asg body0 hloop
      cases hf with
      | func hny _ _ => exact absurd rfl (hny _)
      | yld hl =>
      rename_i r c
      obtain ⟨r',c',x,e1,e2,lp,nt,rfl,e3,e4,e5,e6,e7,e8,e9,e10⟩ := hW.obj _ _ hloop
      rw [hl] at e1
      cases e1
      split at he
      · cases he
      · rename_i T1 hputs
        split at he
        · rename_i T2 s2 hasg
          obtain ⟨q1,q2,q3⟩ := puts_ok (tmps := lp.tmps) hputs ha e5 (fun p hp => Nat.lt_of_lt_of_le (e8 p hp) e6)
          have htm : (lp.params.zip ⟨args'⟩).foldl (fun tmps (t,x) => tmps.setIfInBounds t x) lp.tmps = (ps.zip args').foldl (fun tmps p => tmps.setIfInBounds p.1 p.2) lp.tmps := by
            rw [← Array.foldl_toList,Array.toList_zip,e7]
          refine .inr ⟨r,lp,rfl,e2,by rw [q3,← e7]; simp,fun n => ?_⟩
          rw [htm]
          refine roundIn_of_wpIn trivial ?_
          refine (hcode nt lp.assign asg (some l) [] T1 s _ e9 hasg ι w { tmps := (ps.zip args').foldl (fun tmps p => tmps.setIfInBounds p.1 p.2) lp.tmps,defers := [] } (some r) n _ q1 (by show nt ≤ Array.size _; rw [q2]; exact e6) hW ⟨r,c,hl,rfl⟩ .nil ?_).1
          intro a1 ι1 w1 hT1 hsz1 hp1 hds1
          split at he
          · rename_i pend2 T3 ps3 asg3 body3 hloop2
            obtain ⟨r2,c2,x2,f1,f2,lp2,nt2,rfl,f3,f4,f5⟩ := hp1.wr.obj _ _ hloop2
            have f1' := hp1.ext _ _ hl
            rw [f1] at f1'
            cases f1'
            have hlt := hp1.wr.bound _ _ _ f1
            have hgo : (getObj r).run P w1 = .ok (.loop lp2) w1 := getObj_run f2 (fun _ _ _ h => by cases h)
            have hso : ∀ x,(setObj r x).run P w1 = .ok () { w1 with heap := w1.heap.setIfInBounds r x } := fun x => setObj_run f2 (fun _ _ _ h => by cases h)
            have hpo := Po.put hp1.wr (by rw [hloop2]; simp) f1 (o := .loop .busy pend2 T3 ps3 asg3 body3) (x := .loop { lp2 with state := .busy }) ⟨_,nt2,rfl,rfl,f4,f5⟩ (upd_set hlt)
            refine ⟨_,by simp only [Instr.beginRound,Instr.getLoop,Sem.run_bind,hgo,Result.andThen_ok,hso,f3,Sem.run_pure]; rfl,?_⟩
            rw [St.putK_eq] at he
            split at he
            · rename_i o T4 s4 hbody
              have hp2 := hp1.trans hpo
              refine (hcode nt lp.body body0 (some l) [] _ _ _ e10 hbody ι1 _ a1 (some r) n _ hT1 (by rw [hsz1]; show nt ≤ Array.size _; rw [q2]; exact e6) hpo.wr ⟨r,c,f1,rfl⟩ (by rw [DsOK.nilI hds1]; exact .nil) ?_).1
              intro a2 ι2 w2 hT2 hsz2 hp3 hds2
              refine jump_outE ?_
              split at he
              · rename_i st5 pend5 T5 ps5 asg5 body5 hloop5
                obtain ⟨r5,c5,x5,g1,g2,lp5,nt5,rfl,g3,g4,g5⟩ := hp3.wr.obj _ _ hloop5
                have g1' := hp3.ext _ _ f1
                rw [g1] at g1'
                cases g1'
                have hlt5 := hp3.wr.bound _ _ _ g1
                have hgo5 : (getObj r).run P w2 = .ok (.loop lp5) w2 := getObj_run g2 (fun _ _ _ h => by cases h)
                have hso5 : ∀ x,(setObj r x).run P w2 = .ok () { w2 with heap := w2.heap.setIfInBounds r x } := fun x => setObj_run g2 (fun _ _ _ h => by cases h)
                split at he
                · rename_i hj
                  rw [St.putK_eq] at he
                  cases he
                  have hpo5 := Po.put hp3.wr (by rw [hloop5]; simp) g1 (o := .loop .ready none T5 ps5 asg5 body5) (x := .loop { lp5 with state := .ready,pending := none }) ⟨_,nt5,rfl,rfl,rfl,g5⟩ (upd_set hlt5)
                  rw [hj]
                  exact ⟨.bool true,_,by simp only [Instr.endRound,Instr.getLoop,Sem.run_bind,hgo5,Result.andThen_ok,hso5,Sem.run_pure,Option.isNone_none,if_true],_,rfl,ι2,.bool true,(hp2.trans hp3).trans hpo5⟩
                · rename_i j hj
                  rw [St.putK_eq] at he
                  cases he
                  have hpo5 := Po.put hp3.wr (by rw [hloop5]; simp) g1 (o := .loop .done (some j) T5 ps5 asg5 body5) (x := .loop { lp5 with state := .done,pending := some j }) ⟨_,nt5,rfl,rfl,rfl,g5⟩ (upd_set hlt5)
                  rw [hj]
                  exact ⟨.bool false,_,by simp only [Instr.endRound,Instr.getLoop,Sem.run_bind,hgo5,Result.andThen_ok,hso5,Sem.run_pure,Option.isNone_some,Bool.false_eq_true,if_false],_,rfl,ι2,.bool false,(hp2.trans hp3).trans hpo5⟩
              · cases he
            · cases he
          · cases he
        · cases he
    · cases he
  · cases he
end
end Go.Sim
namespace Go.Sim
set_option linter.all false
open Go
variable [Rho] [Asm] [SymOK]

section
variable {T T' : Tm}
theorem oevs_cong {xs : List Opd} (h : ∀ x ∈ xs,oev T x = oev T' x) : oevs T xs = oevs T' xs := by
  induction xs with
  | nil => rfl
  | cons x xs ih =>
    simp only [oevs]
    rw [h x (by simp),ih fun y hy => h y (by simp [hy])]
theorem lay_cong {ps : List (Nat × Nat × Opd)} (h : ∀ x ∈ psO ps,oev T x = oev T' x) (z : List Value) : lay T z ps = lay T' z ps := by
  induction ps generalizing z with
  | nil => rfl
  | cons p ps ih =>
    obtain ⟨off,n,x⟩ := p
    simp only [lay]
    rw [h x (by simp [psO])]
    have ih' := ih (fun y hy => h y (by simp [psO,hy]))
    simp only [ih']
theorem cut_cong {lo hi : Option Opd} (h : ∀ x ∈ optO lo ++ optO hi,oev T x = oev T' x) (l top : Nat) : cut T l top lo hi = cut T' l top lo hi := by
  have h1 : cutHi T l top hi = cutHi T' l top hi := by
    cases hi with
    | none => rfl
    | some x => simp only [cutHi]; rw [h x (by simp [optO])]
  have h2 : ∀ m,cutLo T m lo = cutLo T' m lo := fun m => by
    cases lo with
    | none => rfl
    | some x => simp only [cutLo]; rw [h x (by simp [optO])]
  simp only [cut,h1,h2]
theorem evP_cong {o : POp} (h : ∀ x ∈ pO o,oev T x = oev T' x) : evP T o = evP T' o := by
  cases o
  case build z ps => simp only [evP,evPd,p_build]; rw [lay_cong h]
  case mkf fn xs ys =>
    simp only [evP,evPd,p_mkf]
    rw [oevs_cong (xs := xs) fun x hx => h x (by simp [pO,hx]),oevs_cong (xs := ys) fun x hx => h x (by simp [pO,hx])]
  case max xs => simp only [evP,evPd,p_max]; rw [oevs_cong (xs := xs) h]
  case min xs => simp only [evP,evPd,p_min]; rw [oevs_cong (xs := xs) h]
  case slcS size x lo hi =>
    simp only [evP,evPd,p_slcS]
    have hc := fun l top => cut_cong (T := T) (T' := T') (lo := lo) (hi := hi) (fun y hy => h y (by simp only [pO,List.mem_cons]; exact .inr hy)) l top
    simp only [hc]
    rw [h x (by simp [pO])]
  all_goals simp only [pO,List.mem_cons,List.not_mem_nil,or_false,forall_eq_or_imp,forall_eq] at h
  all_goals first
    | rfl
    | (simp only [evP,evPd,p_mov,p_pick,p_bin,p_eqB,p_eqG,p_isNil,p_neg,p_not,p_conv,p_mki,p_fld,p_idxA,p_ext,p_fad,p_iadS,p_iadA,p_lenS,p_lenT,p_nilc,h]; done)
    | (simp only [evP,evPd,p_mov,p_pick,p_bin,p_eqB,p_eqG,p_isNil,p_neg,p_not,p_conv,p_mki,p_fld,p_idxA,p_ext,p_fad,p_iadS,p_iadA,p_lenS,p_lenT,p_nilc,h.1,h.2]; done)
    | (simp only [evP,evPd,p_mov,p_pick,p_bin,p_eqB,p_eqG,p_isNil,p_neg,p_not,p_conv,p_mki,p_fld,p_idxA,p_ext,p_fad,p_iadS,p_iadA,p_lenS,p_lenT,p_nilc,h.1,h.2.1,h.2.2]; done)
theorem evR_cong {o : ROp} (h : ∀ x ∈ rO o,oev T x = oev T' x) (t : Tr LO) : evR T t o = evR T' t o := by
  cases o <;> simp only [rO,List.mem_cons,List.not_mem_nil,or_false,forall_eq_or_imp,forall_eq] at h
  · simp only [evR,evRd,r_ld1,h]
  · simp only [evR,evRd,r_ldn,h]
  · simp only [evR,evRd,r_lkp,h.1,h.2]
  · rfl
theorem evA_cong {o : AOp} (h : ∀ x ∈ aO o,oev T x = oev T' x) : evA T o = evA T' o := by
  cases o
  · rfl
  · simp only [aO,List.mem_cons,List.not_mem_nil,or_false,forall_eq] at h
    simp only [evA,evAd,a_box,h]
  · simp only [evA,evAd,a_bsl]; rw [lay_cong h]
  · simp only [aO,List.mem_cons,List.not_mem_nil,or_false,forall_eq_or_imp,forall_eq] at h
    simp only [evA,evAd,a_mks,h.1,h.2]
  · rfl
theorem evW_cong {β : Type} {o : WOp} (h : ∀ x ∈ wO o,oev T x = oev T' x) (s : St) (k : Value → St → Option β) : evW T s o k = evW T' s o k := by
  cases o <;> simp only [wO,List.mem_cons,List.not_mem_nil,or_false,forall_eq_or_imp,forall_eq] at h
  · simp only [evW,evWd,w_st,h.1,h.2]
  · simp only [evW,evWd,w_mup,h.1,h.2.1,h.2.2]
  · simp only [evW,evWd,w_app,h.1,h.2]
theorem mapOf_mono {h h' : Tr LO} (hh : ∀ b o,h.get b = some o → h'.get b = some o) {n : Nat} {ag : Bool} {v : Value} {es : List (Value × Value)} (he : mapOf h n ag v = some es) : mapOf h' n ag v = some es := by
  unfold mapOf at he ⊢
  split at he
  · exact he
  · split at he
    · rename_i hg
      simp only [hh _ _ hg]
      exact he
    · cases he
  · cases he
theorem evR_mono {h h' : Tr LO} (hh : ∀ b o,h.get b = some o → h'.get b = some o) {o : ROp} {v : Value} (he : evR T h o = some v) : evR T h' o = some v := by
  cases o
  · simp only [evR,evRd,r_ld1] at he ⊢
    split at he
    · rename_i hp
      split at he
      · rename_i hg
        simp only [hh _ _ hg]
        exact he
      · cases he
    · cases he
  · simp only [evR,evRd,r_ldn] at he ⊢
    split at he
    · rename_i hp
      split at he
      · rename_i hg
        simp only [hh _ _ hg]
        exact he
      · cases he
    · cases he
  · simp only [evR,evRd,r_lkp] at he ⊢
    split at he
    · rename_i hk hm
      simp only [hk,mapOf_mono hh hm]
      exact he
    · cases he
  · simp only [evR,evRd,r_lenM] at he; cases he
end
end Go.Sim
namespace Go.Sim
set_option linter.all false
open Go
variable [Rho] [Asm] [SymOK]

theorem beqN {a b : Nat} (h : Nat.beq a b = true) : a = b := Nat.eq_of_beq_eq_true h
theorem eqI_ok {x y : Int} (h : eqI x y = true) : x = y := by
  unfold eqI at h
  split at h
  · rw [beqN h]
  · rw [beqN h]
  · cases h
theorem kindB_ok {k l : IntKind} (h : kindB k l = true) : k = l := by
  cases k <;> cases l <;> first | rfl | cases h
theorem sameB_ok {a b : Bool} (h : sameB a b = true) : a = b := by
  cases a <;> cases b <;> first | rfl | cases h
theorem veqL_ok {eq : Value → Value → Bool} (h : ∀ v w,eq v w = true → v = w) : ∀ {l m : List Value},veq.veqL eq l m = true → l = m
  | [],[],_ => rfl
  | [],_ :: _,e => by simp [veq.veqL] at e
  | _ :: _,[],e => by simp [veq.veqL] at e
  | x :: l,y :: m,e => by
    simp only [veq.veqL] at e
    split at e
    · rename_i h1
      rw [h _ _ h1,veqL_ok h e]
    · cases e
theorem veq_ok : ∀ (n : Nat) (v w : Value),veq n v w = true → v = w := by
  intro n
  induction n with
  | zero => intro v w h; simp [veq] at h
  | succ n ih =>
    intro v w h
    unfold veq at h
    split at h
    · split at h
      · rename_i hk; rw [kindB_ok hk,eqI_ok h]
      · cases h
    · rw [sameB_ok h]
    · rw [eqU_eq] at h
      simp only [beq_iff_eq] at h
      rw [h]
    · rfl
    · split at h
      · rename_i hk; rw [beqN hk,beqN h]
      · cases h
    · split at h
      · rename_i hk; rw [beqN hk,beqN h]
      · cases h
    · split at h
      · rename_i h1 h2 h3; rw [beqN h1,beqN h2,beqN h3,beqN h]
      · cases h
    · rfl
    · rw [beqN h]
    · rfl
    · rfl
    · split at h
      · rename_i h1 h2; rw [beqN h1,veqL_ok ih h2,veqL_ok ih h]
      · cases h
    · rw [← seq_ok _ _ _ h]
    · rw [veqL_ok ih h]
    · rw [veqL_ok ih h]
    · cases h

theorem okD_ok : ∀ {l : List (Ins × Nat)} {k : Nat},okD k l = true → (∀ (i : Nat) (a : Ins × Nat),l[i]? = some a → a.2 < 2 ^ (k + i)) ∧ ∀ (i j : Nat) (a b : Ins × Nat),i < j → l[i]? = some a → l[j]? = some b → ok2 (k + i) a b = true
  | [],k,_ => ⟨fun i a h => by simp at h,fun i j a b _ h => by simp at h⟩
  | x :: l,k,h => by
    simp only [okD] at h
    split at h
    · rename_i h1 h2
      obtain ⟨q1,q2⟩ := okD_ok h
      constructor
      · intro i a hi
        cases i with
        | zero => simp at hi; subst hi; exact blt_true h1
        | succ i =>
          have := q1 i a (by simpa using hi)
          rwa [Nat.succ_add_eq_add_succ] at this
      · intro i j a b hij hi hj
        cases j with
        | zero => omega
        | succ j =>
          cases i with
          | zero =>
            simp at hi hj
            subst hi
            exact List.all_eq_true.1 h2 b (List.mem_of_getElem? hj)
          | succ i =>
            have := q2 i j a b (by omega) (by simpa using hi) (by simpa using hj)
            rwa [Nat.succ_add_eq_add_succ] at this
    · cases h
theorem csD_ok : ∀ {l : List (Ins × Nat)} {k : Nat},(∀ (i : Nat) (a : Ins × Nat),l[i]? = some a → isC a.1.op = true → (k + i,a.2) ∈ csD k l) ∧ ∀ c ∈ csD k l,∃ (i : Nat) (a : Ins × Nat),l[i]? = some a ∧ isC a.1.op = true ∧ c = (k + i,a.2)
  | [],k => ⟨fun i a h => by simp at h,fun c h => by simp [csD] at h⟩
  | x :: l,k => by
    obtain ⟨q1,q2⟩ := csD_ok (l := l) (k := k + 1)
    constructor
    · intro i a hi hc
      cases i with
      | zero =>
        simp at hi
        subst hi
        simp [csD,hc]
      | succ i =>
        have := q1 i a (by simpa using hi) hc
        rw [Nat.succ_add_eq_add_succ] at this
        simp only [csD]
        split
        · exact List.mem_cons_of_mem _ this
        · exact this
    · intro c hc
      simp only [csD] at hc
      have tail : c ∈ csD (k + 1) l → ∃ i a,(x :: l)[i]? = some a ∧ isC a.1.op = true ∧ c = (k + i,a.2) := fun h => by
        obtain ⟨i,a,h1,h2,h3⟩ := q2 c h
        exact ⟨i + 1,a,by simpa using h1,h2,by rw [h3,Nat.succ_add_eq_add_succ]⟩
      split at hc
      · rename_i hx
        rcases List.mem_cons.1 hc with rfl | h
        · exact ⟨0,x,by simp,hx,rfl⟩
        · exact tail h
      · exact tail hc
theorem mkD_ok {cs : List (Nat × Nat)} : ∀ {l : List (Ins × Nat)} {k : Nat},(mkD cs k l).length = l.length ∧ ∀ (i : Nat) (d : DI),(mkD cs k l)[i]? = some d → l[i]? = some (d.io,d.m) ∧ d.cs = (0 :: cs.map fun c => Nat.succ c.1).filter fun p => !exempt cs p (k + i) d.m
  | [],k => ⟨rfl,fun i a h => by simp [mkD] at h⟩
  | x :: l,k => by
    obtain ⟨q1,q2⟩ := mkD_ok (cs := cs) (l := l) (k := k + 1)
    constructor
    · simp [mkD,q1]
    · intro i d hi
      cases i with
      | zero =>
        simp [mkD] at hi
        subst hi
        simp
      | succ i =>
        have := q2 i d (by simpa [mkD] using hi)
        rw [Nat.succ_add_eq_add_succ] at this
        simpa using this

structure Told (dl : List DI) : Prop where
  lt : ∀ (i : Nat) (d : DI),dl[i]? = some d → d.m < 2 ^ i
  two : ∀ (i j : Nat) (a b : DI),i < j → dl[i]? = some a → dl[j]? = some b → ok2 i (a.io,a.m) (b.io,b.m) = true
  cs0 : ∀ (i : Nat) (d : DI),dl[i]? = some d → 0 ∈ d.cs ∨ ∃ (k : Nat) (c : DI),dl[k]? = some c ∧ isC c.io.op = true ∧ d.m.testBit k = true
  csC : ∀ (i : Nat) (d : DI) (k : Nat) (c : DI),dl[i]? = some d → dl[k]? = some c → isC c.io.op = true → (k + 1) ∈ d.cs ∨ (∃ (j : Nat) (e : DI),dl[j]? = some e ∧ isC e.io.op = true ∧ ((k < j ∧ d.m.testBit j = true) ∨ (j ≤ k ∧ e.m.testBit i = true)))

theorem drawI_ok {l : List (Ins × Nat)} {dl : List DI} (h : drawI l = some dl) : dl.length = l.length ∧ (∀ (i : Nat) (d : DI),dl[i]? = some d → l[i]? = some (d.io,d.m)) ∧ Told dl := by
  unfold drawI at h
  split at h
  · rename_i hok
    cases h
    obtain ⟨q1,q2⟩ := okD_ok hok
    obtain ⟨c1,c2⟩ := csD_ok (l := l) (k := 0)
    obtain ⟨m1,m2⟩ := mkD_ok (cs := csD 0 l) (l := l) (k := 0)
    simp only [Nat.zero_add] at q1 q2 c1 c2 m2
    have back : ∀ (i : Nat) (a : Ins × Nat),l[i]? = some a → ∃ d : DI,(mkD (csD 0 l) 0 l)[i]? = some d ∧ d.io = a.1 ∧ d.m = a.2 := fun i a hi => by
      have hlt : i < (mkD (csD 0 l) 0 l).length := by rw [m1]; exact (List.getElem?_eq_some_iff.1 hi).1
      refine ⟨_,List.getElem?_eq_getElem hlt,?_⟩
      have := (m2 i _ (List.getElem?_eq_getElem hlt)).1
      rw [hi] at this
      cases this
      exact ⟨rfl,rfl⟩
    have ex : ∀ (p i m : Nat),exempt (csD 0 l) p i m = true → ∃ (j : Nat) (e : DI),(mkD (csD 0 l) 0 l)[j]? = some e ∧ isC e.io.op = true ∧ ((p ≤ j ∧ m.testBit j = true) ∨ (j < p ∧ e.m.testBit i = true)) := fun p i m hx => by
      simp only [exempt,List.any_eq_true] at hx
      obtain ⟨c,hc,hx⟩ := hx
      obtain ⟨j,a,h1,h2,rfl⟩ := c2 c hc
      obtain ⟨e,e1,e2,e3⟩ := back j a h1
      refine ⟨j,e,e1,by rw [e2]; exact h2,?_⟩
      simp only [Bool.or_eq_true,Bool.and_eq_true] at hx
      rcases hx with ⟨x1,x2⟩ | ⟨x1,x2⟩
      · exact .inl ⟨Nat.le_of_ble_eq_true x1,x2⟩
      · exact .inr ⟨blt_true x1,by rw [e3]; exact x2⟩
    refine ⟨m1,fun i d hd => (m2 i d hd).1,⟨fun i d hd => q1 i _ (m2 i d hd).1,fun i j a b hij ha hb => q2 i j _ _ hij (m2 i a ha).1 (m2 j b hb).1,?_,?_⟩⟩
    · intro i d hd
      have hcs := (m2 i d hd).2
      cases hx : exempt (csD 0 l) 0 i d.m with
      | false => left; rw [hcs]; simp [hx]
      | true =>
        right
        obtain ⟨j,e,e1,e2,e3⟩ := ex 0 i d.m hx
        rcases e3 with ⟨_,e3⟩ | ⟨e3,_⟩
        · exact ⟨j,e,e1,e2,e3⟩
        · omega
    · intro i d k c hd hk hc
      have hcs := (m2 i d hd).2
      have hmem : (k,c.m) ∈ csD 0 l := c1 k _ (m2 k c hk).1 hc
      cases hx : exempt (csD 0 l) (k + 1) i d.m with
      | false =>
        left
        rw [hcs]
        simp only [List.mem_filter,List.mem_cons,List.mem_map]
        exact ⟨.inr ⟨_,hmem,rfl⟩,by simp [hx]⟩
      | true =>
        right
        obtain ⟨j,e,e1,e2,e3⟩ := ex _ i d.m hx
        refine ⟨j,e,e1,e2,?_⟩
        rcases e3 with ⟨e3,e4⟩ | ⟨e3,e4⟩
        · exact .inl ⟨by omega,e4⟩
        · exact .inr ⟨by omega,e4⟩
  · cases h

theorem inO_ok {d : Nat} : ∀ {l : List Opd},inO d l = false → ∀ x ∈ l,x ≠ .t d
  | [],_,x,hx => by cases hx
  | .t n :: l,h,x,hx => by
    simp only [inO] at h
    split at h
    · cases h
    · rename_i hb
      rcases List.mem_cons.1 hx with rfl | hx
      · rintro ⟨⟩
        simp at hb
      · exact inO_ok h x hx
  | .v _ :: l,h,x,hx => by
    simp only [inO] at h
    rcases List.mem_cons.1 hx with rfl | hx
    · rintro ⟨⟩
    · exact inO_ok h x hx
theorem looks_ok {o : Ins} {d : Nat} (h : looks o (some d) = false) : (∀ x ∈ iO o.op,x ≠ .t d) ∧ ∀ t b,o.grd = some (t,b) → t ≠ d := by
  simp only [looks] at h
  split at h
  · cases h
  · rename_i h1
    refine ⟨inO_ok h1,fun t b e => ?_⟩
    rw [e] at h
    rintro rfl
    simp at h

theorem one_bit (look : Nat → Nat) (o : Oper) (k : Nat) : (CheckFast.one look o).testBit k = true ↔ ∃ e ∈ o.after,Region.binds .any e = true ∧ (e.on = k ∨ (look e.on).testBit k = true) := by
  unfold CheckFast.one
  rw [← Array.foldl_toList]
  have : ∀ (l : List Edge) (s : Nat),(l.foldl (fun s e => if Region.binds .any e then s ||| 2 ^ e.on ||| look e.on else s) s).testBit k = true ↔ s.testBit k = true ∨ ∃ e ∈ l,Region.binds .any e = true ∧ (e.on = k ∨ (look e.on).testBit k = true) := by
    intro l
    induction l with
    | nil => intro s; simp
    | cons e l ih =>
      intro s
      rw [List.foldl_cons,ih]
      by_cases hb : Region.binds .any e = true
      · simp only [hb,if_true,Nat.testBit_or,Nat.testBit_two_pow,Bool.or_eq_true,decide_eq_true_eq,List.mem_cons,exists_eq_or_imp,true_and]
        constructor
        · rintro (((h | h) | h) | h)
          · exact .inl h
          · exact .inr (.inl (.inl h))
          · exact .inr (.inl (.inr h))
          · exact .inr (.inr h)
        · rintro (h | (h | h) | h)
          · exact .inl (.inl (.inl h))
          · exact .inl (.inl (.inr h))
          · exact .inl (.inr h)
          · exact .inr h
      · simp [hb]
  rw [this]
  simp
end Go.Sim
namespace Go.Sim
set_option linter.all false
open Go
variable [Rho] [Asm] [SymOK]

theorem rmask_bit {p : List Nat} {m : Nat} : ∀ (n k : Nat),(rmask p m n).testBit k = (decide (k < n) && m.testBit (pm p k))
  | 0,k => by simp [rmask]
  | n + 1,k => by
    have ih := rmask_bit (p := p) (m := m) n k
    simp only [rmask]
    split
    · rename_i h
      show ((rmask p m n) ||| 2 ^ n).testBit k = _
      rw [Nat.testBit_or,ih,Nat.testBit_two_pow]
      by_cases hk : k = n
      · subst hk; simp [h]
      · have e1 : decide (k < n + 1) = decide (k < n) := by simp only [decide_eq_decide]; omega
        have e2 : decide (n = k) = false := by simp only [decide_eq_false_iff_not]; omega
        rw [e1,e2,Bool.or_false]
    · rename_i h
      rw [ih]
      by_cases hk : k = n
      · subst hk; simp [h]
      · have e1 : decide (k < n + 1) = decide (k < n) := by simp only [decide_eq_decide]; omega
        rw [e1]
theorem permL_ok {l : List (Ins × Nat)} {p : List Nat} {n : Nat} : ∀ {r : List Nat} {l' : List (Ins × Nat)},permL l p n r = some l' → l'.length = r.length ∧ ∀ (k : Nat) (x : Ins × Nat),l'[k]? = some x → ∃ (j : Nat) (a : Ins × Nat),r[k]? = some j ∧ l[j]? = some a ∧ x = (a.1,rmask p a.2 n)
  | [],l',h => by simp only [permL,Option.some.injEq] at h; subst h; exact ⟨rfl,fun k x h => by simp at h⟩
  | j :: r,l',h => by
    simp only [permL] at h
    split at h
    · cases h
    · rename_i a ha
      split at h
      · cases h
      · rename_i s hs
        cases h
        obtain ⟨q1,q2⟩ := permL_ok hs
        refine ⟨by simp [q1],fun k x hk => ?_⟩
        cases k with
        | zero => simp at hk; subst hk; exact ⟨j,a,by simp,ha,rfl⟩
        | succ k => simpa using q2 k x (by simpa using hk)

structure Laid (l : List (Ins × Nat)) (dl : List DI) (π σ : Nat → Nat) : Prop where
  len : dl.length = l.length
  left : ∀ i,σ (π i) = i
  right : ∀ i,π (σ i) = i
  lt : ∀ i,i < l.length → π i < l.length
  lt' : ∀ i,i < l.length → σ i < l.length
  get : ∀ (i : Nat) (d : DI),dl[i]? = some d → ∃ m,l[π i]? = some (d.io,m) ∧ m < 2 ^ l.length ∧ ∀ k,d.m.testBit k = (decide (k < l.length) && m.testBit (π k))
  told : Told dl

theorem drawP_ok {l : List (Ins × Nat)} {dl : List DI} (h : drawP l = some dl) : ∃ π σ,Laid l dl π σ := by
  unfold drawP at h
  generalize lateA 0 l [] = p at h
  simp only at h
  generalize (List.range l.length).map (fun i => p.findIdx (Nat.beq i)) = q at h
  split at h
  · rename_i l' h1 h2
    simp only [Bool.and_eq_true] at h1
    obtain ⟨hp,hm⟩ := h1
    simp only [permOK,Bool.and_eq_true,List.all_eq_true,List.mem_range] at hp
    obtain ⟨⟨hl1,hl2⟩,hp⟩ := hp
    have hl1 := beqN hl1
    have hl2 := beqN hl2
    obtain ⟨q1,q2⟩ := permL_ok h2
    obtain ⟨d1,d2,told⟩ := drawI_ok h
    have out : ∀ (r : List Nat),r.length = l.length → ∀ i,¬ i < l.length → pm r i = i := fun r hr i hi => by
      unfold pm
      rw [List.getElem?_eq_none (by omega)]
    have hlen : dl.length = l.length := by rw [d1,q1,hl1]
    refine ⟨pm p,pm q,hlen,fun i => ?_,fun i => ?_,fun i hi => blt_true (hp i hi).1.2,fun i hi => blt_true (hp i hi).2,fun i d hd => ?_,told⟩
    · by_cases hi : i < l.length
      · exact beqN (hp i hi).1.1.1
      · rw [out p hl1 i hi,out q hl2 i hi]
    · by_cases hi : i < l.length
      · exact beqN (hp i hi).1.1.2
      · rw [out q hl2 i hi,out p hl1 i hi]
    · obtain ⟨j,a,e1,e2,e3⟩ := q2 i _ (d2 i d hd)
      simp only [Prod.mk.injEq] at e3
      refine ⟨a.2,?_,?_,fun k => ?_⟩
      · unfold pm; rw [e1,e3.1]; exact e2
      · exact blt_true (List.all_eq_true.1 hm a (List.mem_of_getElem? e2))
      · rw [e3.2]; exact rmask_bit _ _
  · cases h
theorem drawA_ok {l : List (Ins × Nat)} {dl : List DI} (h : drawA l = some dl) : ∃ π σ,Laid l dl π σ := by
  unfold drawA at h
  split at h
  · rename_i d hd
    cases h
    obtain ⟨d1,d2,told⟩ := drawI_ok hd
    refine ⟨id,id,d1,fun _ => rfl,fun _ => rfl,fun _ h => h,fun _ h => h,fun i e he => ?_,told⟩
    have hi : i < l.length := by rw [← d1]; exact (List.getElem?_eq_some_iff.1 he).1
    have hlt := told.lt i e he
    refine ⟨e.m,d2 i e he,Nat.lt_of_lt_of_le hlt (Nat.pow_le_pow_right (by omega) (by omega)),fun k => ?_⟩
    by_cases hk : k < l.length
    · simp [hk]
    · have : e.m.testBit k = false := Nat.testBit_lt_two_pow (Nat.lt_of_lt_of_le hlt (Nat.pow_le_pow_right (by omega) (by omega)))
      simp [this]
  · exact drawP_ok h
end Go.Sim
namespace Go.Sim
set_option linter.all false
open Go
variable [Rho] [Asm] [SymOK]

theorem beforeL_ok : ∀ {l : List Oper} {j : Nat} {acc R : List Nat},CheckFast.beforeL l j acc = R → acc.length = j →
    R.length = j + l.length ∧ (∀ i,i < j → R[i]? = acc.reverse[i]?) ∧ ∀ (i : Nat) (o : Oper),l[i]? = some o → R[j + i]? = some (CheckFast.one (fun x => if x < j + i then R.getD x 0 else 0) o)
  | [],j,acc,R,h,hj => by
    simp only [CheckFast.beforeL] at h
    subst h
    exact ⟨by simp [hj],fun i _ => rfl,fun i o h => by simp at h⟩
  | o :: l,j,acc,R,h,hj => by
    simp only [CheckFast.beforeL,CheckFast.force_eq] at h
    obtain ⟨q1,q2,q3⟩ := beforeL_ok h (by simp [hj])
    have old : ∀ i,i < j → R[i]? = acc.reverse[i]? := fun i hi => by
      rw [q2 i (by omega),List.reverse_cons,List.getElem?_append_left (by simp; omega)]
    refine ⟨by rw [q1]; simp; omega,old,fun i o' hi => ?_⟩
    cases i with
    | zero =>
      simp at hi
      subst hi
      rw [Nat.add_zero,q2 j (by omega),List.reverse_cons,List.getElem?_append_right (by simp; omega)]
      simp only [List.length_reverse,hj,Nat.sub_self,List.getElem?_cons_zero]
      congr 2
      funext x
      split
      · rename_i hx
        rw [List.getD_eq_getElem?_getD,List.getD_eq_getElem?_getD,old x hx,List.getElem?_reverse (by omega)]
        congr 3
        omega
      · rfl
    | succ i =>
      have := q3 i o' (by simpa using hi)
      rw [Nat.add_right_comm] at this
      exact this
theorem before_ok {ops : Array Oper} {bl : List Nat} (h : CheckFast.beforeL ops.toList 0 [] = bl) : bl.length = ops.size ∧ ∀ (i : Nat) (o : Oper) (m : Nat),ops[i]? = some o → bl[i]? = some m →
    (∀ e ∈ o.after,Region.binds .any e = true → m.testBit e.on = true) ∧ ∀ k,m.testBit k = true → ∃ e ∈ o.after,Region.binds .any e = true ∧ (e.on = k ∨ ∃ m',bl[e.on]? = some m' ∧ m'.testBit k = true) := by
  obtain ⟨q1,_,q3⟩ := beforeL_ok h rfl
  refine ⟨by simpa using q1,fun i o m ho hm => ?_⟩
  have h1 := q3 i o (by rw [Array.getElem?_toList]; exact ho)
  rw [Nat.zero_add] at h1
  rw [hm] at h1
  cases h1
  constructor
  · intro e he hb
    rw [one_bit]
    exact ⟨e,he,hb,.inl rfl⟩
  · intro k hk
    rw [one_bit] at hk
    obtain ⟨e,he,hb,hk⟩ := hk
    refine ⟨e,he,hb,hk.imp id fun hk => ?_⟩
    split at hk
    · rw [List.getD_eq_getElem?_getD] at hk
      cases hq : bl[e.on]? with
      | none => rw [hq] at hk; simp at hk
      | some m' => rw [hq] at hk; exact ⟨m',rfl,hk⟩
    · simp at hk
end Go.Sim
namespace Go.Sim
set_option linter.all false
open Go
variable [Rho] [Asm] [SymOK]

section
variable {P : Program} {ι ι' ι'' : Io} {s s' s'' S S' : St} {w w' w'' : World}
structure Like (s s' : St) : Prop where
  get : ∀ b,s'.h.get b = s.h.get b
  n : s'.n = s.n
  bs : s'.bs = s.bs
  ws : s'.ws = s.ws
theorem WR.like (h : WR P ι s w) (e : Like s s') : WR P ι s' w where
  obj := fun b o hb => h.obj b o (by rw [← e.get]; exact hb)
  inj := fun b b' r c c' h1 h2 => h.inj b b' r c c' (by rw [← e.get]; exact h1) (by rw [← e.get]; exact h2)
  bound := h.bound
  dom := fun b r hb => by rw [e.n]; exact h.dom b r hb
  lim := by rw [e.n]; exact h.lim
  bsn := by rw [e.n,e.bs]; exact h.bsn
  wsb := fun b hb => by rw [e.ws] at hb; rw [e.bs]; exact h.wsb b hb
  pin := h.pin
  env := h.env
theorem Po.like (h : Po P ι s w ι' s' w') (e : Like s' s'') : Po P ι s w ι' s'' w' where
  wr0 := h.wr0
  ext := h.ext
  wr := h.wr.like e
  os := h.os
  tape := h.tape
  output := h.output
  size := h.size
  frame := fun k hk hh => h.frame k hk fun b c hb => by have := hh b c hb; rwa [e.ws] at this
  newold := fun b r c h1 h2 h3 => by rw [e.ws]; exact h.newold b r c h1 h2 h3
  newid := h.newid
  inv := fun b hb hw => by rw [e.get]; exact h.inv b hb (by rw [← e.ws]; exact hw)
  dead := fun b hb hg => by rw [e.get]; exact h.dead b hb hg
  bs := e.bs.trans h.bs
  nle := by rw [e.n]; exact h.nle
  wsm := fun b hb => by rw [e.ws]; exact h.wsm b hb
theorem WR.less (h : WR P ι S w) (hg : ∀ b o,s.h.get b = some o → S.h.get b = some o) (hn : s.n = S.n) (hbs : s.bs = S.bs) (hws : s.ws = S.ws) : WR P ι s w where
  obj := fun b o hb => h.obj b o (hg b o hb)
  inj := fun b b' r c c' h1 h2 => by
    refine h.inj b b' r c c' ?_ ?_
    · cases hq : s.h.get b with
      | none => exact absurd hq h1
      | some o => rw [hg b o hq]; simp
    · cases hq : s.h.get b' with
      | none => exact absurd hq h2
      | some o => rw [hg b' o hq]; simp
  bound := h.bound
  dom := fun b r hb => by rw [hn]; exact h.dom b r hb
  lim := by rw [hn]; exact h.lim
  bsn := by rw [hn,hbs]; exact h.bsn
  wsb := fun b hb => by rw [hws] at hb; rw [hbs]; exact h.wsb b hb
  pin := h.pin
  env := h.env

theorem Po.keep (h : WR P ι s w) {n : Nat} (hn : s.n ≤ n) (hl : n ≤ limH) : Po P ι s w ι ⟨s.h,n,s.bs,s.ws⟩ w :=
  ⟨h,.refl _,⟨h.obj,h.inj,h.bound,fun b r hb => Nat.lt_of_lt_of_le (h.dom b r hb) hn,hl,Nat.le_trans h.bsn hn,h.wsb,h.pin,h.env⟩,rfl,rfl,rfl,Nat.le_refl _,fun _ _ _ => rfl,fun b r c h1 h2 => (by rw [h1] at h2; cases h2),fun b r h1 h2 => (by rw [h1] at h2; cases h2),fun _ _ _ => rfl,fun _ _ h => h,rfl,hn,fun _ h => h⟩

theorem Po.newAt (hp : Po P ι s w ι' s' w') {b c : Nat} {o : LO} {x : Obj} (h1 : s.n ≤ b) (h2 : b < s'.n) (h3 : ι' b = none) (ho : ∀ ι'',Ext ι' ι'' → OR P ι'' c o x) :
    ∃ ι'',ι'' b = some (w'.heap.size,c) ∧ Ext ι' ι'' ∧ (∀ j,j ≠ b → ι'' j = ι' j) ∧ Po P ι s w ι'' ⟨Tr.set DH s'.h b (some o),s'.n,s'.bs,s'.ws⟩ { w' with heap := w'.heap.push x } := by
  have hW := hp.wr
  let ι2 : Io := fun j => if j = b then some (w'.heap.size,c) else ι' j
  have hext : Ext ι' ι2 := fun j r h => by
    show (if j = b then _ else ι' j) = _
    rw [if_neg]
    · exact h
    · rintro rfl; rw [h3] at h; cases h
  have hι : ∀ j r,ι2 j = some r → (j = b ∧ r = (w'.heap.size,c)) ∨ (j ≠ b ∧ ι' j = some r) := fun j r h => by
    have h' : (if j = b then some (w'.heap.size,c) else ι' j) = some r := h
    split at h'
    · rename_i e; cases h'; exact .inl ⟨e,rfl⟩
    · rename_i e; exact .inr ⟨e,h'⟩
  have hg : ∀ j,(Tr.set DH s'.h b (some o)).get j = if j = b then some o else s'.h.get j := fun j => Tr.get_set DH s'.h b (some o) j (lim_le (by have := hW.lim; omega))
  have hpush : ∀ k,k < w'.heap.size → (w'.heap.push x)[k]? = w'.heap[k]? := fun k hk => by
    rw [Array.getElem?_push,if_neg (by omega)]
  have hbs := hp.wr0.bsn
  refine ⟨ι2,by simp [ι2],hext,fun j hj => by simp [ι2,hj],hp.wr0,hp.ext.trans hext,⟨?_,?_,?_,?_,hW.lim,hW.bsn,hW.wsb,hW.pin.mono hext,hW.env.mono (fun b r c h => (hι b _ h).elim (fun e => .inr (by have := hW.env.top; cases e.2; exact this)) fun e => .inl ⟨b,c,e.2⟩) (by simp) fun k hk _ => hpush k hk⟩,hp.os,hp.tape,hp.output,?_,?_,?_,?_,?_,?_,hp.bs,hp.nle,hp.wsm⟩
  · intro j oj hj
    rw [hg] at hj
    split at hj
    · rename_i e
      subst e
      cases hj
      exact ⟨w'.heap.size,c,x,by simp [ι2],by simp,ho ι2 hext⟩
    · rename_i e
      obtain ⟨r',c',x',q1,q2,q3⟩ := hW.obj j oj hj
      exact ⟨r',c',x',hext _ _ q1,(hpush r' (hW.bound _ _ _ q1)).trans q2,q3.mono hext⟩
  · intro j j' r c1 c2 q1 q2 q3 q4
    rw [hg] at q1 q2
    rcases hι _ _ q3 with ⟨e1,e2⟩ | ⟨e1,e2⟩ <;> rcases hι _ _ q4 with ⟨e3,e4⟩ | ⟨e3,e4⟩
    · rw [e1,e3]
    · have := hW.bound _ _ _ e4
      cases e2
      omega
    · have := hW.bound _ _ _ e2
      cases e4
      omega
    · rw [if_neg e1] at q1
      rw [if_neg e3] at q2
      exact hW.inj j j' r c1 c2 q1 q2 e2 e4
  · intro j r c' h
    rcases hι _ _ h with ⟨e1,e2⟩ | ⟨e1,e2⟩
    · cases e2; simp
    · have := hW.bound _ _ _ e2; simp; omega
  · intro j r h
    rcases hι _ _ h with ⟨e1,e2⟩ | ⟨e1,e2⟩
    · rw [e1]; exact h2
    · exact hW.dom _ _ e2
  · have := hp.size; simp; omega
  · intro k hk hh
    have hk' : k < w'.heap.size := Nat.lt_of_lt_of_le hk hp.size
    exact (hpush k hk').trans (hp.frame k hk hh)
  · intro j r c' q1 q2 q3
    rcases hι _ _ q2 with ⟨e1,e2⟩ | ⟨e1,e2⟩
    · cases e2
      have := hp.size
      omega
    · exact hp.newold j r c' q1 e2 q3
  · intro j r q1 q2
    rcases hι _ _ q2 with ⟨e1,e2⟩ | ⟨e1,e2⟩
    · rw [e1]; exact h1
    · exact hp.newid j r q1 e2
  · intro j hj hw
    show (Tr.set DH s'.h b (some o)).get j = _
    rw [hg,if_neg (by omega)]
    exact hp.inv j hj hw
  · intro j hj e
    show (Tr.set DH s'.h b (some o)).get j = _
    rw [hg,if_neg (by omega)]
    exact hp.dead j hj e

theorem Po.more (hp : Po P ι s w ι' s' w') (E : Nat → Option LO) (hS : WR P ι S w) (g : ∀ b,S.h.get b = (E b).or (s.h.get b)) (g' : ∀ b,S'.h.get b = (E b).or (s'.h.get b))
    (he : ∀ b,E b ≠ none → s.h.get b = none) (n : S.n = s.n) (n' : S'.n = s'.n) (bs : S.bs = s.bs) (bs' : S'.bs = s'.bs) (ws : S.ws = s.ws) (ws' : S'.ws = s'.ws) : Po P ι S w ι' S' w' := by
  have up : ∀ b,s.h.get b ≠ none → S.h.get b ≠ none := fun b h => by
    rw [g]
    cases hE : E b with
    | none => simpa using h
    | some lo => simp
  have alive : ∀ b lo,E b = some lo → ∃ r c x,ι b = some (r,c) ∧ w.heap[r]? = some x ∧ OR P ι c lo x ∧ (∀ b' c',ι b' = some (r,c') → s.h.get b' = none) := fun b lo hE => by
    obtain ⟨r,c,x,q1,q2,q3⟩ := hS.obj b lo (by rw [g,hE]; rfl)
    refine ⟨r,c,x,q1,q2,q3,fun b' c' hb' => ?_⟩
    cases hq : s.h.get b' with
    | none => rfl
    | some o =>
      have e := hS.inj b b' r c c' (by rw [g,hE]; simp) (up b' (by rw [hq]; simp)) q1 hb'
      subst e
      rw [he b (by rw [hE]; simp)] at hq
      cases hq
  have live' : ∀ b,S'.h.get b ≠ none → E b = none → s'.h.get b ≠ none := fun b h hE => by rw [g',hE] at h; simpa using h
  have apart : ∀ b b' lo r c c',E b = some lo → ι' b = some (r,c) → ι' b' = some (r,c') → s'.h.get b' ≠ none → False := fun b b' lo r c c' hE q1 q2 q3 => by
    obtain ⟨r0,c0,x,p1,p2,p3,p4⟩ := alive b lo hE
    have e := hp.ext _ _ p1
    rw [q1] at e
    cases e
    cases hi : ι b' with
    | none =>
      obtain ⟨b0,c1,e1,l1,_⟩ := hp.newold b' r c' hi q2 (hS.bound _ _ _ p1)
      exact l1 (p4 b0 c1 e1)
    | some y =>
      have e := hp.ext _ _ hi
      rw [q2] at e
      cases e
      exact q3 (hp.dead b' (hp.wr0.dom _ _ hi) (p4 b' c' hi))
  refine ⟨hS,hp.ext,⟨?_,?_,hp.wr.bound,?_,?_,?_,?_,hp.wr.pin,hp.wr.env⟩,hp.os,hp.tape,hp.output,hp.size,?_,?_,?_,?_,?_,?_,?_,?_⟩
  · intro b o hb'
    cases hE : E b with
    | none =>
      rw [g',hE] at hb'
      exact hp.wr.obj b o (by simpa using hb')
    | some lo =>
      rw [g',hE] at hb'
      cases hb'
      obtain ⟨r,c,x,p1,p2,p3,p4⟩ := alive b _ hE
      refine ⟨r,c,x,hp.ext _ _ p1,?_,p3.mono hp.ext⟩
      rw [hp.frame r (hS.bound _ _ _ p1) fun b' c' hb' => .inl (p4 b' c' hb')]
      exact p2
  · intro b b' r c c' q1 q2 q3 q4
    cases hE : E b with
    | none =>
      cases hE' : E b' with
      | none => exact hp.wr.inj b b' r c c' (live' b q1 hE) (live' b' q2 hE') q3 q4
      | some lo' => exact (apart b' b lo' r c' c hE' q4 q3 (live' b q1 hE)).elim
    | some lo =>
      cases hE' : E b' with
      | none => exact (apart b b' lo r c c' hE q3 q4 (live' b' q2 hE')).elim
      | some lo' =>
        obtain ⟨r1,c1,x1,p1,_⟩ := alive b lo hE
        obtain ⟨r2,c2,x2,p2,_⟩ := alive b' lo' hE'
        have e1 := hp.ext _ _ p1
        have e2 := hp.ext _ _ p2
        rw [q3] at e1
        rw [q4] at e2
        cases e1
        cases e2
        exact hS.inj b b' r c c' (by rw [g,hE]; simp) (by rw [g,hE']; simp) p1 p2
  · intro b r h; rw [n']; exact hp.wr.dom b r h
  · rw [n']; exact hp.wr.lim
  · rw [n',bs']; exact hp.wr.bsn
  · intro b h; rw [ws'] at h; rw [bs']; exact hp.wr.wsb b h
  · intro k hk hh
    refine hp.frame k hk fun b c h => ?_
    rcases hh b c h with e | ⟨e1,e2⟩
    · left
      cases hq : s.h.get b with
      | none => rfl
      | some o => exact absurd e (up b (by rw [hq]; simp))
    · right
      rw [bs] at e1
      rw [ws'] at e2
      exact ⟨e1,e2⟩
  · intro b r c q1 q2 q3
    obtain ⟨b0,c0,e1,e2,e3⟩ := hp.newold b r c q1 q2 q3
    exact ⟨b0,c0,e1,up b0 e2,by rw [bs,ws']; exact e3⟩
  · intro b r q1 q2; rw [n]; exact hp.newid b r q1 q2
  · intro b h1 h2
    rw [g',g]
    cases hE : E b with
    | some lo => rfl
    | none =>
      simp only [Option.none_or]
      exact hp.inv b (by rw [← bs]; exact h1) (by rw [← ws']; exact h2)
  · intro b h1 h2
    rw [g] at h2
    rw [g']
    cases hE : E b with
    | some lo => rw [hE] at h2; cases h2
    | none =>
      rw [hE] at h2
      simp only [Option.none_or] at h2 ⊢
      exact hp.dead b (by rw [← n]; exact h1) h2
  · rw [bs',bs]; exact hp.bs
  · rw [n,n']; exact hp.nle
  · intro b h; rw [ws] at h; rw [ws']; exact hp.wsm b h
end
end Go.Sim
