/- Part 22 of the proof: SimN, SimO, SimP, SimR, SimS, SimS2. -/
import Derived.Scope
import Derived.Test.YtolabejbhaeddaaW21
/- From the operations to the walk. -/
namespace Go.Sim
set_option linter.all false
open Go
variable [Rho] [Asm] [SymOK]

def FW (l : Option Nat) : Fence := { Fence.wide with round := l }
section
variable {P : Program} {ι : Io} {T : Tm} {a : Act} {s : St} {w : World}

theorem evW_ok {o : Oper} {wo : WOp} {β : Type} {k : Value → St → Option β} {res : β} (hc : compW P o = some wo) (hT : TR ι T a.tmps) (hW : WR P ι s w) (he : evW T s wo k = some res) : ∃ v s1,k v s1 = some res ∧ Does P ι s w a o v s1 := by
  obtain ⟨dst,op,type,pos,after,guard⟩ := o
  cases op <;> simp only [compW] at hc <;> try (cases hc; done)
  case store t ad x =>
    simp only [bind,Option.bind_eq_some_iff,Option.some.injEq] at hc
    obtain ⟨n,hn,ad',ha,x',hx,rfl⟩ := hc
    exact evSt_ok hn ha hx hT hW he
  case mapUpdate t m kx vx =>
    split at hc
    · rename_i key elem hu
      simp only [bind,Option.bind_eq_some_iff,Option.some.injEq] at hc
      obtain ⟨n,hn,ag,hag,m',hm,k',hk,v',hv,rfl⟩ := hc
      exact evMup_ok hu hn hag hm hk hv hT hW he
    · cases hc
  case call c =>
    split at hc
    · rename_i e e2 sx xx h0 h1 h2 h3 h4
      simp only [bind,Option.bind_eq_some_iff] at hc
      obtain ⟨size,hsz,z,hz,bytes,hby,hc⟩ := hc
      split at hc
      · cases hc
      · rename_i hcond
        simp only [Option.bind_eq_some_iff,Option.some.injEq] at hc
        obtain ⟨sx',hsx,xx',hxx,rfl⟩ := hc
        simp only [Bool.or_eq_true,bne_iff_ne,ne_eq,decide_eq_true_eq,not_or,Decidable.not_not,Nat.not_lt] at hcond
        obtain ⟨⟨⟨q1,q2⟩,q3⟩,q4⟩ := hcond
        obtain ⟨sT,t1,t2⟩ := Option.bind_eq_some_iff.1 h1
        obtain ⟨xT,t3,t4⟩ := Option.bind_eq_some_iff.1 h2
        exact evApp_ok rfl h0 t1 t3 h3 h4 t2 t4 hsz hz hby q1 q2 q3 q4 hsx hxx hT hW he
    · cases hc

/-- The step of an operation, on the machine's side. -/
def Goes (P : Program) (l : Option Nat) (n : Nat) (ι : Io) (s : St) (w : World) (a : Act) (o : Oper) (v : Value) (s1 : St) : Prop :=
  ∀ (next : Act → World → Prop) (Q : Exit → Act → World → Prop),(∀ v' ι' w',VR ι' v v' → Po P ι s w ι' s1 w' → next (a.put o.dst v') w') → o.wpIn (FW l) n P a w next Q

theorem goes_run {l : Option Nat} {n : Nat} {o : Oper} {v v' : Value} {s1 : St} {ι' : Io} {w' : World} (hd : ∀ c,o.op ≠ .defer c) (hv : VR ι' v v') (hp : Po P ι s w ι' s1 w')
    (hr : (execOp a.eval o).run P w = .ok (.value v') w' ∨ ((execOp a.eval o).run P w = .ok .skip w' ∧ v' = undef)) : Goes P l n ι s w a o v s1 := by
  intro next Q hK
  refine ⟨fun _ _ => trivial,?_⟩
  rw [Oper.semAt_eq _ _ _ hd]
  rcases hr with hr | ⟨hr,rfl⟩
  · rw [hr]; exact hK _ _ _ hv hp
  · rw [hr]; exact hK _ _ _ hv hp

/-- What a call of a function value comes to. -/
def CallR (P : Program) (fv : Value) (args : List Value) (w : World) (R : Value → World → Prop) : Prop :=
  (∃ g xs ys fn,fv = .func (.func g) ⟨xs⟩ ⟨ys⟩ ∧ P.funcs[g]? = some fn ∧ fn.body.isSome = true ∧ (fn.name == "runtime.NumGoroutine") = false ∧
    ∀ n,CallsIn Fence.wide n P g ⟨xs ++ args ++ ys⟩ w fun e w' => ∃ v',e = .returned v' ∧ R v' w') ∨
  (∃ r lp,fv = .func (.yield r) #[] #[] ∧ w.heap[r]? = some (.loop lp) ∧ args.length = lp.params.size ∧
    ∀ n,RoundIn Fence.wide n P r lp.fn ((lp.params.zip ⟨args⟩).foldl (fun tmps (t,x) => tmps.setIfInBounds t x) lp.tmps) lp.assign lp.body w fun e w' => ∃ v',e = .returned v' ∧ R v' w')

def CallOK (P : Program) (call : Value → List Value → St → Option (Value × St)) : Prop :=
  ∀ fv args s v s1,call fv args s = some (v,s1) → ∀ ι w fv' args',VR ι fv fv' → LR ι args args' → WR P ι s w → CallR P fv' args' w fun v' w' => ∃ ι',VR ι' v v' ∧ Po P ι s w ι' s1 w'

theorem goes_call {l : Option Nat} {n : Nat} {c : Call} {f : Operand} {v : Value} {s1 : St} {dst : Option Tmp} {ty : TypeId} {pos : String} {after : Array Edge} {guard : Option (Nat × Bool)} (hcal : c.callee = .value f)
    (h : CallR P (a.eval f) (c.args.map a.eval).toList w fun v' w' => ∃ ι',VR ι' v v' ∧ Po P ι s w ι' s1 w') : Goes P l n ι s w a ⟨dst,.call c,ty,pos,after,guard⟩ v s1 := by
  intro next Q hK
  refine ⟨fun _ _ => trivial,?_⟩
  rw [Oper.semAt_eq _ _ _ (fun c h => by cases h)]
  obtain ⟨callee,args,argTypes⟩ := c
  simp only at hcal
  subst hcal
  rcases h with ⟨g,xs,ys,fn,hf,hfn,hb,hname,hcall⟩ | ⟨r,lp,hf,hheap,hlen,hround⟩
  · have hbn : fn.body.isNone = false := by cases hbb : fn.body <;> simp_all
    have hrun : (execOp a.eval ⟨dst,.call ⟨.value f,args,argTypes⟩,ty,pos,after,guard⟩).run P w = .ok (.enter g ⟨xs ++ (args.map a.eval).toList ++ ys⟩) w := by
      simp only [execOp,resolve,Deferred.ofValue,hf,Sem.run_bind,Sem.run_pure,Result.andThen_ok,invoke,callFunc,run_program,hfn,hname,hbn,Bool.false_eq_true,if_false]
      congr 2
      simp
    rw [hrun]
    refine ⟨fun h => by simp [FW,Fence.wide] at h,?_⟩
    refine CallsIn.mono (hcall _ : CallsIn (FW l) (n - 1) P g _ w _) ?_
    rintro e w' ⟨v',rfl,ι',hv,hp⟩
    exact hK _ _ _ hv hp
  · have hg : (getObj r).run P w = .ok (.loop lp) w := getObj_run hheap (fun _ _ _ h => by cases h)
    have hrun : (execOp a.eval ⟨dst,.call ⟨.value f,args,argTypes⟩,ty,pos,after,guard⟩).run P w = .ok (.round r lp.fn ((lp.params.zip (args.map a.eval)).foldl (fun tmps (t,x) => tmps.setIfInBounds t x) lp.tmps) lp.assign lp.body) w := by
      have hlen' : (args.map a.eval).size = lp.params.size := by simpa using hlen
      simp only [Array.size_map] at hlen'
      simp [execOp,resolve,Deferred.ofValue,hf,invoke,Instr.yield,Instr.getLoop,hg,hlen']
    rw [hrun]
    refine ⟨fun h => by simp [FW,Fence.wide] at h,?_⟩
    refine RoundIn.mono (hround _ : RoundIn (FW l) (n - 1) P r lp.fn _ _ _ w _) ?_
    rintro e w' ⟨v',rfl,ι',hv,hp⟩
    exact hK _ _ _ hv hp

theorem compC1_ok {o : Oper} {io : IOp} (h : compC1 P o = some io) : compC0 P o = some io ∨ io = badOp := by
  unfold compC1 at h
  split at h
  · rename_i h0; cases h; exact .inl h0
  · cases h; exact .inr rfl
theorem bad_none {call : Value → List Value → St → Option (Value × St)} {io : Ins} {β : Type} {k : Value → St → Option β} (h : io.op = badOp) : evI call io T s k = none := by
  unfold evI
  rw [h]
  rfl
theorem notDefer {o : Oper} {io : IOp} (hc : compC0 P o = some io) : ∀ c,o.op ≠ .defer c := by
  intro c h
  simp [compC0,h,compP,compR,compA,compW] at hc

theorem evI_ok {call : Value → List Value → St → Option (Value × St)} (hcall : CallOK P call) {o : Oper} {io : Ins} {β : Type} {k : Value → St → Option β} {res : β} (hc : compC1 P o = some io.op) (hT : TR ι T a.tmps) (hW : WR P ι s w) (he : evI call io T s k = some res) :
    ∃ v s1,k v s1 = some res ∧ ∀ l n,Goes P l n ι s w a o v s1 := by
  replace hc : compC0 P o = some io.op := by
    rcases compC1_ok hc with h | h
    · exact h
    · rw [bad_none h] at he; cases he
  have hnd := notDefer hc
  have plain : ∀ {q : IOp},io.op = q → (match compP P o with
      | some p => some (.p p)
      | none => match compR P o with
        | some r => some (.r r)
        | none => match compA P o with
          | some a => some (.a a)
          | none => match compW P o with
            | some w => some (.w w)
            | none => none) = some q → ∃ v s1,k v s1 = some res ∧ ∀ l n,Goes P l n ι s w a o v s1 := by
    intro q hq h
    unfold evI at he
    rw [hq] at he
    split at h
    · rename_i p hp
      cases h
      simp only [i_p] at he
      split at he
      · rename_i v hv
        obtain ⟨v',hvr,hr⟩ := evP_ok hp hT hv
        exact ⟨v,s,he,fun l n => goes_run hnd hvr (Po.refl hW) (.inl (hr w))⟩
      · cases he
    · split at h
      · rename_i r hr
        cases h
        simp only [i_r] at he
        split at he
        · rename_i v hv
          obtain ⟨v',hvr,hrun⟩ := evR_ok hr hT hW hv
          exact ⟨v,s,he,fun l n => goes_run hnd hvr (Po.refl hW) (.inl hrun)⟩
        · cases he
      · split at h
        · rename_i aa ha
          cases h
          simp only [i_a] at he
          split at he
          · cases he
          · rename_i hlt
            split at he
            · rename_i lo f hf
              rw [St.newK_eq] at he
              obtain ⟨c,x,g,hrun,hor,hvr⟩ := evA_ok (P := P) ha hT hf
              obtain ⟨ι',hι',hpo⟩ := Po.new hW (blt_true hlt) hor
              exact ⟨_,_,he,fun l n => goes_run hnd (hvr ι' _ _ hι') hpo (.inl (hrun w))⟩
            · cases he
        · split at h
          · rename_i wo hw
            cases h
            simp only [i_w] at he
            obtain ⟨v,s1,hk,v',ι',w',hvr,hpo,hrun⟩ := evW_ok hw hT hW he
            exact ⟨v,s1,hk,fun l n => goes_run hnd hvr hpo hrun⟩
          · cases h
  obtain ⟨dst,op,type,pos,after,guard⟩ := o
  unfold compC0 at hc
  split at hc
  · rename_i f args at_ hop
    try simp only at hop
    subst hop
    simp only [bind,Option.bind_eq_some_iff,Option.some.injEq] at hc
    obtain ⟨f',hf,args',hargs,hq⟩ := hc
    unfold evI at he
    rw [← hq] at he
    simp only [i_call] at he
    split at he
    · rename_i v s1 hv
      exact ⟨v,s1,he,fun l n => goes_call rfl (hcall _ _ _ _ _ hv ι w _ _ (compX_ok hf hT) (compXs_ok hargs hT) hW)⟩
    · cases he
  · exact plain rfl hc

/-! ### regions -/
theorem tget_put {T : Tm} {t : Nat} {v : Value} (h : t < limT) (j : Nat) : tget (tput T t v) j = if j = t then v else tget T j := by
  unfold tget tput
  rw [Tr.get_set DT T t (some v) j (by unfold limT at h; unfold DT; omega)]
  by_cases e : j = t <;> simp [e]
theorem TR.put {ι : Io} {T : Tm} {tmps : Array Value} (hT : TR ι T tmps) {t : Nat} {v v' : Value} (h : t < limT) (hs : t < tmps.size) (hv : VR ι v v') : TR ι (tput T t v) (tmps.setIfInBounds t v') := by
  intro j
  rw [tget_put h]
  by_cases e : j = t
  · subst e
    simp [hs]
    exact hv
  · rw [if_neg e]
    have := hT j
    simpa [Array.getElem?_setIfInBounds_ne (Ne.symm e)] using this
theorem put_ok {ι : Io} {nt : Nat} {d : Option Nat} {v v' : Value} (hd : dstOk nt d = true) (hs : nt ≤ a.tmps.size) (hT : TR ι T a.tmps) (hv : VR ι v v') {β : Type} {k : Tm → β} :
    ∃ T1,putD d T v k = k T1 ∧ TR ι T1 (a.put d v').tmps ∧ (a.put d v').tmps.size = a.tmps.size ∧ (a.put d v').defers = a.defers := by
  cases d with
  | none => exact ⟨T,rfl,hT,rfl,rfl⟩
  | some d =>
    simp only [dstOk,Bool.and_eq_true] at hd
    have h1 := blt_true hd.1
    have h2 := blt_true hd.2
    refine ⟨tput T d v,by simp only [putD,Tr.setK_eq]; rfl,?_,by simp [Act.put],rfl⟩
    exact hT.put h2 (by omega) hv

theorem wanted_ok {ι : Io} {ops : Array Oper} {o : Oper} {g : Option (Nat × Bool)} (hT : TR ι T a.tmps) (hg : compG ops o.guard = some g) : (wanted T g = true ∨ gOK T g = true) → Region.wanted o (yielded ops a.tmps) = wanted T g := by
  unfold Region.wanted
  cases ho : o.guard with
  | none =>
    rw [ho] at hg
    simp only [compG,Option.some.injEq] at hg
    subst hg
    intro _
    rfl
  | some jb =>
    obtain ⟨j,b⟩ := jb
    rw [ho] at hg
    simp only [compG] at hg
    split at hg
    · rename_i t ht
      cases hg
      simp only [yielded,ht,Option.bind_some,wanted,gOK]
      have hv := hT t
      cases hq : a.tmps[t]? with
      | none =>
        have e : a.tmps.getD t undef = undef := by simp [hq]
        rw [e] at hv
        generalize tget T t = x at hv
        cases hv <;> first
          | (simp; done)
          | (rename_i hs; cases hs)
      | some y =>
        have e : a.tmps.getD t undef = y := by simp [hq]
        rw [e] at hv
        generalize tget T t = x at hv
        intro hk
        cases hv <;> first
          | (exfalso; simp at hk; done)
          | (cases b <;> simp; done)
          | (rename_i c; cases b <;> cases c <;> rfl)
    · cases hg

def pairV (v : Value) (s : St) : Option (Value × St) := some (v,s)
def pairT (T : Tm) (s : St) : Option (Tm × St) := some (T,s)
theorem w_st_k {β : Type} (n : Nat) (x y : Opd) (T : Tm) (s : St) (k : Value → St → Option β) : w_st n x y T s k = (w_st n x y T s pairV).bind fun p => k p.1 p.2 := by
  unfold w_st
  simp only [St.putK_eq,St.newK_eq]
  repeat' (first | rfl | split)
theorem w_mup_k {β : Type} (n : Nat) (ag : Bool) (m x y : Opd) (T : Tm) (s : St) (k : Value → St → Option β) : w_mup n ag m x y T s k = (w_mup n ag m x y T s pairV).bind fun p => k p.1 p.2 := by
  unfold w_mup
  simp only [St.putK_eq,St.newK_eq]
  repeat' (first | rfl | split)
theorem w_app_k {β : Type} (n : Nat) (x y : Opd) (T : Tm) (s : St) (k : Value → St → Option β) : w_app n x y T s k = (w_app n x y T s pairV).bind fun p => k p.1 p.2 := by
  unfold w_app
  simp only [St.putK_eq,St.newK_eq]
  repeat' (first | rfl | split)
theorem evI_k (call : Value → List Value → St → Option (Value × St)) {β : Type} (io : Ins) (T : Tm) (s : St) (k : Value → St → Option β) : evI call io T s k = (evI call io T s pairV).bind fun p => k p.1 p.2 := by
  unfold evI
  split
  · unfold i_p; split <;> rfl
  · unfold i_r; split <;> rfl
  · unfold i_a
    split
    · rfl
    · split
      · simp only [St.newK_eq]; rfl
      · rfl
  · unfold i_w evW evWd
    rename_i op _
    cases op
    · exact w_st_k ..
    · exact w_mup_k ..
    · exact w_app_k ..
  · unfold i_call; split <;> rfl
theorem evOps_k (call : Value → List Value → St → Option (Value × St)) {β : Type} : ∀ (l : List Ins) (T : Tm) (s : St) (k : Tm → St → Option β),evOps call l T s k = (evOps call l T s pairT).bind fun p => k p.1 p.2
  | [],T,s,k => rfl
  | o :: l,T,s,k => by
    simp only [evOps]
    split
    · rw [evI_k,evI_k (k := fun v s => force v fun v => putD o.dst T v fun T => evOps call l T s pairT)]
      cases evI call o T s pairV with
      | none => rfl
      | some p =>
        simp only [Option.bind_some,force_eq]
        cases o.dst with
        | none => simp only [putD]; exact evOps_k call l _ _ k
        | some d => simp only [putD,Tr.setK_eq]; exact evOps_k call l _ _ k
    · cases gOK T o.grd with
      | false => rfl
      | true =>
        simp only
        cases o.dst with
        | none => simp only [putD]; exact evOps_k call l _ _ k
        | some d => simp only [putD,Tr.setK_eq]; exact evOps_k call l _ _ k

theorem evOps_ok {call : Value → List Value → St → Option (Value × St)} (hcall : CallOK P call) {nt : Nat} {ops : Array Oper} {l : Option Nat} {n : Nat} : ∀ {rs : List Oper} {i : Nat} {il : List Ins} {T T2 : Tm} {s s2 : St} {ι : Io} {w : World} {a : Act},
    ops.toList.drop i = rs → compOps P nt ops rs = some il → evOps call il T s pairT = some (T2,s2) → TR ι T a.tmps → nt ≤ a.tmps.size → WR P ι s w →
    ∀ Q : Exit → Act → World → Prop,(∀ a' ι' w',TR ι' T2 a'.tmps → a'.tmps.size = a.tmps.size → a'.defers = a.defers → Po P ι s w ι' s2 w' → Q .normal a' w') → wpOpsIn (FW l) n P ops Q (List.range' i rs.length) a w := by
  intro rs
  induction rs with
  | nil =>
    intro i il T T2 s s2 ι w a hd hc he hT hs hW Q hQ
    simp only [compOps,Option.some.injEq] at hc
    subst hc
    cases he
    exact hQ a ι w hT rfl rfl (Po.refl hW)
  | cons o rs ih =>
    intro i il T T2 s s2 ι w a hd hc he hT hs hW Q hQ
    simp only [compOps] at hc
    cases h1 : compIO P nt ops o with
    | none => rw [h1] at hc; cases hc
    | some io =>
      rw [h1] at hc
      simp only at hc
      cases h2 : compOps P nt ops rs with
      | none => rw [h2] at hc; cases hc
      | some il' =>
        rw [h2] at hc
        cases hc
        have hoi : ops[i]? = some o := by
          rw [← Array.getElem?_toList]
          have : (ops.toList.drop i)[0]? = some o := by rw [hd]; rfl
          simpa using this
        have hd' : ops.toList.drop (i + 1) = rs := by
          rw [← List.drop_drop,hd]; rfl
        unfold compIO at h1
        split at h1
        · rename_i hdst
          simp only [bind,Option.bind_eq_some_iff,Option.some.injEq] at h1
          obtain ⟨op',hop,g,hg,rfl⟩ := h1
          simp only [evOps] at he
          have hgk : wanted T g = true ∨ gOK T g = true := by
            cases hwt : wanted T g with
            | true => exact .inl rfl
            | false =>
              rw [hwt] at he
              simp only at he
              cases hgk : gOK T g with
              | true => exact .inr rfl
              | false => rw [hgk] at he; cases he
          have hw := wanted_ok hT hg hgk
          simp only [List.length_cons,List.range'_succ,wpOpsIn,hoi]
          cases hwt : wanted T g with
          | true =>
            rw [hwt] at he
            simp only at he
            rw [hw,hwt,if_pos rfl]
            obtain ⟨v,s1,hk,hgo⟩ := evI_ok hcall hop hT hW he
            rw [force_eq] at hk
            refine hgo l n _ _ fun v' ι' w' hv hp => ?_
            obtain ⟨T1,e1,hT1,hs1,hdf⟩ := put_ok (a := a) (k := fun T => evOps call il' T s1 pairT) hdst hs (hT.mono hp.ext) hv
            rw [e1] at hk
            exact ih hd' h2 hk hT1 (by omega) hp.wr Q fun a' ι'' w'' q1 q2 q3 q4 => hQ a' ι'' w'' q1 (by omega) (by rw [q3,hdf]) (hp.trans q4)
          | false =>
            have hgk' : gOK T g = true := by
              rcases hgk with h | h
              · rw [hwt] at h; cases h
              · exact h
            rw [hwt] at he
            simp only [hgk'] at he
            obtain ⟨T1,e1,hT1,hs1,hdf⟩ := put_ok (k := fun T => evOps call il' T s pairT) hdst hs hT (undef_ok ι)
            rw [e1] at he
            rw [hw,hwt,if_neg (by simp)]
            exact ⟨fun _ _ => trivial,ih hd' h2 he hT1 (by omega) hW Q fun a' ι' w' q1 q2 q3 q4 => hQ a' ι' w' q1 (by omega) (by rw [q3,hdf]) q4⟩
        · cases h1
end
end Go.Sim
/- Loops, results, ends of calls. -/
namespace Go.Sim
set_option linter.all false
open Go
variable [Rho] [Asm] [SymOK]

/-! ### a loop, round by round -/
def LoopR (F : Fence) (n : Nat) (P : Program) (c : Code) (Q : Exit → Act → World → Prop) (a : Act) (w : World) : Prop :=
  ∀ (b : Frame) (k : List Item) (cs : List Frame),b.roundOf = F.round → F.fn b.fn → F.room (cs.length + 1 + n) →
    ∃ e a' w',Q e a' w' ∧ ArrivesIn (Machine.fenced P F) P (lone (b.atR a (.code c :: .inLoop c :: k)) cs w) b k cs e a' w'
theorem loopR_wp {F : Fence} {n : Nat} {P : Program} {c : Code} {Q : Exit → Act → World → Prop} {a : Act} {w : World} (h : LoopR F n P c Q a w) : (Code.loop c).wpIn F n P Q a w := by
  intro b k cs hro hb hr
  obtain ⟨e,a',w',hq,harr⟩ := h b k cs hro hb hr
  exact ⟨e,a',w',hq,.of_steps (.one (fenced_calm hb hr rfl) stepR_loop) harr⟩
theorem loopR_step {F : Fence} {n : Nat} {P : Program} {c : Code} {Q : Exit → Act → World → Prop} {a : Act} {w : World} (h : c.wpIn F n P (Exit.then (LoopR F n P c Q) Q) a w) : LoopR F n P c Q a w := by
  intro b k cs hro hb hr
  obtain ⟨e,a₁,w₁,hq,harr⟩ := h b (.inLoop c :: k) cs hro hb hr
  cases e with
  | normal =>
    obtain ⟨e₂,a₂,w₂,hq₂,harr₂⟩ := hq b k cs hro hb hr
    exact ⟨e₂,a₂,w₂,hq₂,.of_steps (StepsIn.trans harr (.one (fenced_calm hb hr rfl) stepR_inLoop)) harr₂⟩
  | exit id => exact ⟨_,a₁,w₁,hq,.pass (x := .inLoop c) rfl (fun _ _ => .inl (by simp)) harr⟩
  | goto l => exact ⟨_,a₁,w₁,hq,.pass (x := .inLoop c) rfl (fun _ _ => .inl (by simp)) harr⟩
  | ret => exact ⟨_,a₁,w₁,hq,.pass (x := .inLoop c) rfl (fun _ _ => .inl (by simp)) harr⟩
  | panic ch => exact ⟨_,a₁,w₁,hq,.pass (x := .inLoop c) rfl (fun _ _ => .inl (by simp)) harr⟩
  | outgrown => exact ⟨_,a₁,w₁,hq,.pass (x := .inLoop c) rfl (fun _ _ => .inl (by simp)) harr⟩
theorem wpIn_scope {n : Nat} {P : Program} {c : Code} {Q : Exit → Act → World → Prop} {a : Act} {w : World} (h : c.wpIn Fence.wide n P (Exit.noGoto Q) a w) : (Code.scope c).wpIn Fence.wide n P Q a w :=
  wpIn_wide.2 (wp_scope_straight ((wpIn_wide (n := n)).1 h))

section
variable {P : Program} {ι : Io} {T : Tm} {a : Act} {s : St} {w : World}

/-! ### arguments and results -/
theorem argsT_ok : ∀ {vs vs' pre : List Value} {k : Nat} {T : Tm},LR ι vs vs' → TR ι T ⟨pre ++ List.replicate k undef⟩ → vs.length ≤ k → pre.length + k ≤ limT → TR ι (argsT T pre.length vs) ⟨pre ++ vs' ++ List.replicate (k - vs.length) undef⟩
  | [],_,pre,k,T,.nil,h,_,_ => by simpa [argsT] using h
  | v :: vs,_,pre,k,T,.cons (v' := v') (l' := vs') hv hl,h,hk,hlim => by
    simp only [List.length_cons] at hk
    obtain ⟨j,rfl⟩ : ∃ j,k = j + 1 := ⟨k - 1,by omega⟩
    have h1 : TR ι (tput T pre.length v) ⟨(pre ++ [v']) ++ List.replicate j undef⟩ := by
      have := h.put (t := pre.length) (v := v) (v' := v') (by omega) (by simp) hv
      simpa [List.replicate_succ] using this
    have h2 := argsT_ok (pre := pre ++ [v']) hl h1 (by omega) (by simp; omega)
    simp only [List.length_append,List.length_cons,List.length_nil,Nat.zero_add] at h2
    have e : j + 1 - (vs.length + 1) = j - vs.length := by omega
    simp only [argsT,List.length_cons,e]
    simpa using h2
theorem tr_e (n : Nat) : TR ι .e ⟨List.replicate n undef⟩ := by
  intro t
  have e : (⟨List.replicate n undef⟩ : Array Value).getD t undef = undef := by
    simp only [Array.getD_eq_getD_getElem?,List.getElem?_toArray,List.getElem?_replicate]
    split <;> rfl
  rw [e,show tget .e t = .tuple ⟨[]⟩ by unfold tget; rw [Tr.get_e]]
  exact undef_ok ι

def resOne (tmps : Array Value) : ResultVar → Sem Value
  | .tmp t => pure (tmps.getD t undef)
  | .cell a t => do loadVar t (← asAddr (tmps.getD a undef))
theorem results_eq (fn : Func) (tmps : Array Value) : results fn tmps = (do let vs ← fn.results.mapM (resOne tmps); pure (if h : vs.size = 1 then vs[0] else .tuple vs)) := by
  unfold results
  congr 1
theorem resV_ok {h : Tr LO} (hW : WR P ι s w) (hs : s.h = h) {tmps : Array Value} (hT : TR ι T tmps) : ∀ {l : List ResultVar} {rs : List IRes} {vs : List Value},l.mapM (compRes P) = some rs → resV T h rs = some vs →
    ∃ vs',LR ι vs vs' ∧ (l.mapM (resOne tmps)).run P w = .ok vs' w := by
  subst hs
  intro l
  induction l with
  | nil =>
    intro rs vs hc he
    simp at hc
    subst hc
    simp only [resV,Option.some.injEq] at he
    subst he
    exact ⟨[],.nil,by simp⟩
  | cons r l ih =>
    intro rs vs hc he
    simp only [List.mapM_cons,bind,Option.bind] at hc
    cases h1 : compRes P r with
    | none => rw [h1] at hc; cases hc
    | some q =>
      rw [h1] at hc
      simp only at hc
      cases h2 : l.mapM (compRes P) with
      | none => rw [h2] at hc; cases hc
      | some qs =>
        rw [h2] at hc
        cases hc
        simp only [resV] at he
        split at he
        · cases he
        · rename_i v hv
          split at he
          · rename_i vs0 hvs
            cases he
            obtain ⟨vs',h3,h4⟩ := ih h2 hvs
            have key : ∃ v',VR ι v v' ∧ (resOne tmps r).run P w = .ok v' w := by
              cases r with
              | tmp t =>
                simp only [compRes,Option.some.injEq] at h1
                subst h1
                cases hv
                exact ⟨_,hT t,rfl⟩
              | cell t ty =>
                simp only [compRes] at h1
                split at h1
                · rename_i ag n hag hn
                  cases h1
                  have ht := hT t
                  simp only at hv
                  split at hv
                  · rename_i b o e1
                    rw [e1] at ht
                    obtain ⟨r,c,hr,hb⟩ := ht.ptrI
                    have hld : ∀ x,(Instr.loadAt ty (.pointer (some ⟨r,o,none⟩))).run P w = .ok x w → (resOne tmps (.cell t ty)).run P w = .ok x w := by
                      intro x hx
                      simp only [resOne,hr]
                      exact hx
                    split at hv
                    · rename_i cs hcs
                      cases ag with
                      | true =>
                        simp only at hv
                        split at hv
                        · rename_i rr hrr
                          cases hv
                          obtain ⟨v',hvr,hrun⟩ := loadN_ok hW ht hcs hrr hag hn
                          rw [hr] at hrun
                          exact ⟨v',hvr,hld _ hrun⟩
                        · cases hv
                      | false =>
                        simp only at hv
                        obtain ⟨v',hvr,hrun⟩ := load1_ok hW ht hcs hv hag
                        rw [hr] at hrun
                        exact ⟨v',hvr,hld _ hrun⟩
                    · cases hv
                  · cases hv
                · cases h1
            obtain ⟨v',h5,h6⟩ := key
            refine ⟨v' :: vs',.cons h5 h3,?_⟩
            simp only [List.mapM_cons,Sem.run_bind,h6,Result.andThen_ok]
            rw [h4]
            rfl
          · cases he
theorem outV_ok {vs vs' : List Value} (h : LR ι vs vs') : VR ι (outV vs) (if h : (⟨vs'⟩ : Array Value).size = 1 then (⟨vs'⟩ : Array Value)[0] else .tuple ⟨vs'⟩) := by
  cases h with
  | nil => exact .tup .nil
  | cons hv hl =>
    cases hl with
    | nil => exact hv
    | cons hv2 hl2 => exact .tup (.cons hv (.cons hv2 hl2))
theorem results_ok (hW : WR P ι s w) {tmps : Array Value} (hT : TR ι T tmps) {fn : Func} {rs : List IRes} {vs : List Value} (hc : fn.results.toList.mapM (compRes P) = some rs) (he : resV T s.h rs = some vs) : ∃ v',VR ι (outV vs) v' ∧ (results fn tmps).run P w = .ok v' w := by
  obtain ⟨vs',h1,h2⟩ := resV_ok hW rfl hT hc he
  refine ⟨_,outV_ok h1,?_⟩
  rw [results_eq]
  simp only [Sem.run_bind,Array.mapM_eq_mapM_toList,Sem.run_map,h2]
  rfl
end
end Go.Sim
/- Calls and code. -/
namespace Go.Sim
set_option linter.all false
open Go
variable [Rho] [Asm] [SymOK]

section
variable {P : Program} {ι : Io} {T : Tm} {a : Act} {s : St} {w : World}

/-! ### the end of a call -/
theorem flatL_ok {ι ι' : Io} {m : Nat} (h : ∀ b r,b < m → ι' b = some r → ι b = some r) : ∀ {l l' : List Value},flatL m l = true → LR ι' l l' → LR ι l l'
  | _,_,_,.nil => .nil
  | _,_,hf,.cons hv hl => by
    simp only [flatL] at hf
    split at hf
    · rename_i h1
      exact .cons (VR.backFlat h 4 _ _ h1 hv) (flatL_ok h hf hl)
    · cases hf
theorem flatE_ok {ι ι' : Io} {m : Nat} (h : ∀ b r,b < m → ι' b = some r → ι b = some r) : ∀ {l : List (Value × Value)} {l' : List MapEntry},flatE m l = true → ER ι' l l' → ER ι l l'
  | _,_,_,.nil => .nil
  | _,_,hf,.cons hk hv hl => by
    simp only [flatE] at hf
    split at hf
    · rename_i h1 h2
      exact .cons (VR.backFlat h 4 _ _ h1 hk) (VR.backFlat h 4 _ _ h2 hv) (flatE_ok h hf hl)
    · cases hf
theorem flatO_ok {ι ι' : Io} {m c : Nat} {lo : LO} {o : Obj} (h : ∀ b r,b < m → ι' b = some r → ι b = some r) (hf : flatO m lo = true) (ho : OR P ι' c lo o) : OR P ι c lo o := by
  cases lo with
  | cells l => obtain ⟨cs,t,e,hc,l',tl,h1,h2⟩ := ho; exact ⟨cs,t,e,hc,l',tl,h1,flatL_ok h hf h2⟩
  | map n ag es => obtain ⟨en,ck,e,h1,h2⟩ := ho; exact ⟨en,ck,e,flatE_ok h hf h1,h2⟩
  | loop st pend T ps asg body => cases hf
  | defd b => exact ho
  | ro l => exact ho

theorem back_ok {m : Nat} {h' : Tr LO} : ∀ {ws : List Nat} {h h1 : Tr LO},back m h' h ws = some h1 → (∀ b ∈ ws,b + 1 < 2 ^ DH) → (∀ b ∈ ws,∃ o,h'.get b = some o ∧ flatO m o = true) ∧ ∀ j,h1.get j = if j ∈ ws then h'.get j else h.get j
  | [],h,h1,e,_ => by
    simp only [back,Option.some.injEq] at e
    subst e
    simp
  | b :: ws,h,h1,e,hb => by
    simp only [back] at e
    split at e
    · rename_i o ho
      split at e
      · rename_i hf
        obtain ⟨q1,q2⟩ := back_ok e fun x hx => hb x (List.mem_cons_of_mem _ hx)
        refine ⟨fun x hx => ?_,fun j => ?_⟩
        · rcases List.mem_cons.1 hx with rfl | hx
          · exact ⟨o,ho,hf⟩
          · exact q1 x hx
        · rw [q2 j,Tr.get_set DH h b (some o) j (hb b List.mem_cons_self)]
          by_cases h1 : j ∈ ws
          · simp [h1]
          · by_cases h2 : j = b
            · subst h2; simp [ho]
            · simp [h1,h2]
      · cases e
    · cases e
theorem merge_ok {bs : Nat} : ∀ {l ws : List Nat},(∀ b,b ∈ ws → b ∈ merge bs ws l) ∧ (∀ b,b ∈ l → b < bs → b ∈ merge bs ws l)
  | [],ws => ⟨fun _ h => h,fun _ h => by simp at h⟩
  | b :: l,ws => by
    simp only [merge]
    split
    · rename_i h1 h2
      obtain ⟨q1,q2⟩ := merge_ok (bs := bs) (l := l) (ws := b :: ws)
      refine ⟨fun x hx => q1 x (List.mem_cons_of_mem _ hx),fun x hx hlt => ?_⟩
      rcases List.mem_cons.1 hx with rfl | hx
      · exact q1 _ List.mem_cons_self
      · exact q2 x hx hlt
    · rename_i hne
      obtain ⟨q1,q2⟩ := merge_ok (bs := bs) (l := l) (ws := ws)
      refine ⟨q1,fun x hx hlt => ?_⟩
      rcases List.mem_cons.1 hx with rfl | hx
      · have hblt : Nat.blt x bs = true := by simpa [Nat.blt_eq] using hlt
        cases hm : mem x ws with
        | true => exact q1 _ (mem_ok hm)
        | false => exact absurd hm (hne hblt)
      · exact q2 x hx hlt

theorem merge_mem {bs : Nat} : ∀ {l ws : List Nat} {b : Nat},b ∈ merge bs ws l → b ∈ ws ∨ b < bs
  | [],ws,b,h => .inl h
  | c :: l,ws,b,h => by
    simp only [merge] at h
    split at h
    · rename_i h1 h2
      rcases merge_mem h with h | h
      · rcases List.mem_cons.1 h with rfl | h
        · exact .inr (blt_true h1)
        · exact .inl h
      · exact .inr h
    · exact merge_mem h
/-- A call goes about its own blocks. -/
theorem callee_wr (hW : WR P ι s w) : WR P ι ⟨s.h,s.n,s.n,[]⟩ w := ⟨hW.obj,hW.inj,hW.bound,hW.dom,hW.lim,Nat.le_refl _,fun _ h => (by cases h),hW.pin,hW.env⟩

theorem done_ok (hW : WR P ι s w) {ι' : Io} {s' s1 : St} {w' : World} {v v' v1 : Value} (hp : Po P ι ⟨s.h,s.n,s.n,[]⟩ w ι' s' w') (hv : VR ι' v v') (he : done s v s' = (v1,s1)) :
    ∃ ι1,VR ι1 v1 v' ∧ Po P ι s w ι1 s1 w' := by
  have keep : ∃ ι1,VR ι1 v v' ∧ Po P ι s w ι1 ⟨s'.h,s'.n,s.bs,merge s.bs s.ws s'.ws⟩ w' := by
    refine ⟨ι',hv,⟨hW,hp.ext,⟨hp.wr.obj,hp.wr.inj,hp.wr.bound,hp.wr.dom,hp.wr.lim,Nat.le_trans hW.bsn hp.nle,fun b hb => (merge_mem hb).elim (hW.wsb b) id,hp.wr.pin,hp.wr.env⟩,hp.os,hp.tape,hp.output,hp.size,?_,?_,hp.newid,?_,hp.dead,rfl,hp.nle,fun b hb => (merge_ok).1 b hb⟩⟩
    · intro k hk hh
      refine hp.frame k hk fun b c hb => ?_
      rcases hh b c hb with e | ⟨e1,e2⟩
      · exact .inl e
      · exact .inr ⟨hW.dom _ _ hb,fun hm => e2 ((merge_ok).2 b hm e1)⟩
    · intro b r c h1 h2 hr
      obtain ⟨b0,c0,e0,l0,o0⟩ := hp.newold b r c h1 h2 hr
      refine ⟨b0,c0,e0,l0,?_⟩
      rcases o0 with o | o
      · exact absurd (hW.dom _ _ e0) (Nat.not_lt.2 o)
      · by_cases hlt : b0 < s.bs
        · exact .inr ((merge_ok).2 b0 o hlt)
        · exact .inl (Nat.not_lt.1 hlt)
    · intro b hb hw
      exact hp.inv b (Nat.lt_of_lt_of_le hb hW.bsn) fun hm => hw ((merge_ok).2 b hm hb)
  unfold done at he
  split at he
  · rename_i hf
    split at he
    · rename_i h1 hback
      cases he
      have hback' : ∀ b r,b < s.n → ι' b = some r → ι b = some r := fun b r hb h => by
        cases hi : ι b with
        | none => exact absurd (hp.newid b r hi h) (Nat.not_le.2 hb)
        | some x => have := hp.ext _ _ hi; rw [h] at this; exact this.symm
      have hws : ∀ b ∈ s'.ws,b < s.n := fun b hb => by have := hp.wr.wsb b hb; rw [hp.bs] at this; exact this
      obtain ⟨q1,q2⟩ := back_ok hback fun b hb => lim_le (by have := hws b hb; have := hW.lim; omega)
      have hlive : ∀ j,h1.get j ≠ none → s.h.get j ≠ none := fun j hj e => by
        rw [q2 j] at hj
        split at hj
        · rename_i hm
          exact hj (hp.dead j (hws j hm) e)
        · exact hj e
      refine ⟨ι,VR.backFlat hback' 4 _ _ hf hv,⟨hW,.refl _,⟨?_,?_,?_,hW.dom,hW.lim,hW.bsn,fun b hb => (merge_mem hb).elim (hW.wsb b) id,hW.pin,⟨hW.env.low,hp.wr.env.top,hp.wr.env.old⟩⟩,hp.os,hp.tape,hp.output,hp.size,?_,?_,?_,?_,?_,rfl,Nat.le_refl _,fun b hb => (merge_ok).1 b hb⟩⟩
      · intro j o hj
        have hj2 : h1.get j = some o := hj
        rw [q2 j] at hj2
        split at hj2
        · rename_i hm
          obtain ⟨r,c,x,e1,e2,e3⟩ := hp.wr.obj j o hj2
          obtain ⟨o',ho',hfo⟩ := q1 j hm
          rw [hj2] at ho'
          cases ho'
          exact ⟨r,c,x,hback' j _ (hws j hm) e1,e2,flatO_ok hback' hfo e3⟩
        · rename_i hm
          obtain ⟨r0,c0,x0,f1,f2,f3⟩ := hW.obj j o hj2
          have hjn := hW.dom _ _ f1
          have e0 := (hp.inv j hjn hm).trans hj2
          obtain ⟨r,c,x,e1,e2,e3⟩ := hp.wr.obj j o e0
          have e4 := hp.ext _ _ f1
          rw [e1] at e4
          cases e4
          exact ⟨_,_,x,f1,e2,f3.back hp.ext e3⟩
      · intro j j' r c c' h1 h2 h3 h4
        exact hW.inj j j' r c c' (hlive j h1) (hlive j' h2) h3 h4
      · intro j r c h
        exact Nat.lt_of_lt_of_le (hW.bound j r c h) hp.size
      · intro k hk hh
        refine hp.frame k hk fun b c hb => ?_
        rcases hh b c hb with e | ⟨e1,e2⟩
        · exact .inl e
        · exact .inr ⟨hW.dom _ _ hb,fun hm => e2 ((merge_ok).2 b hm e1)⟩
      · intro b r c h1 h2; rw [h1] at h2; cases h2
      · intro b r h1 h2; rw [h1] at h2; cases h2
      · intro b hb hw
        show h1.get b = _
        rw [q2 b,if_neg]
        intro hm
        exact hw ((merge_ok).2 b hm hb)
      · intro b hb e
        show h1.get b = none
        rw [q2 b]
        split
        · exact hp.dead b hb e
        · exact e
    · cases he; exact keep
  · cases he; exact keep

/-! ### marks -/
inductive DsOK (ι : Io) (bs : Nat) : List Nat → List Deferred → Prop
  | nil : DsOK ι bs [] []
  | cons {d r c : Nat} {ds : List Nat} {l : List Deferred} : ι d = some (r,c) → bs ≤ d → DsOK ι bs ds l → DsOK ι bs (d :: ds) ({ target := .collected r,args := #[] } :: l)
theorem DsOK.mono {ι ι' : Io} (h : Ext ι ι') {bs : Nat} : ∀ {ds l},DsOK ι bs ds l → DsOK ι' bs ds l
  | _,_,.nil => .nil
  | _,_,.cons h1 h2 h3 => .cons (h _ _ h1) h2 (h3.mono h)

theorem DsOK.nilI {ι : Io} {bs : Nat} {l : List Deferred} (h : DsOK ι bs [] l) : l = [] := by cases h; rfl
theorem put_own {s : St} {b : Nat} {o : Option LO} (h : s.bs ≤ b) : s.put b o = ⟨Tr.set DH s.h b o,s.n,s.bs,s.ws⟩ := by
  unfold St.put note
  have : Nat.blt b s.bs = false := by
    cases hb : Nat.blt b s.bs with
    | false => rfl
    | true => have := blt_true hb; omega
  rw [this]

theorem shut_ok {F : Fence} {n : Nat} {fn : Func} {tmps : Array Value} {R : Ending → World → Prop} : ∀ {ds : List Nat} {l : List Deferred} {s : St} {ι : Io} {w : World} {h1 : Tr LO},DsOK ι s.bs ds l → shut s.h ds = some h1 → WR P ι s w →
    (∀ w',Po P ι s w ι ⟨h1,s.n,s.bs,s.ws⟩ w' → LeavesInM F n P fn tmps R [] .returning w') → LeavesInM F n P fn tmps R l .returning w
  | [],_,s,ι,w,h1,.nil,e,hW,hK => by
    simp only [shut,Option.some.injEq] at e
    subst e
    exact hK w (Po.refl hW)
  | d :: ds,_,s,ι,w,h1,.cons (r := r) (c := c) hd hb hl,e,hW,hK => by
    simp only [shut] at e
    split at e
    · rename_i hg
      obtain ⟨r',c',x,e1,e2,e3⟩ := hW.obj _ _ hg
      rw [hd] at e1
      cases e1
      have e4 : x = .deferred (some []) := e3
      subst e4
      have hlt := hW.bound _ _ _ hd
      have hgo : (getObj r).run P w = .ok (.deferred (some [])) w := getObj_run e2 (fun _ _ _ h => by cases h)
      have hso : (setObj r (.deferred none)).run P w = .ok () { w with heap := w.heap.setIfInBounds r (.deferred none) } := setObj_run e2 (fun _ _ _ h => by cases h)
      have hpo := Po.put hW (by rw [hg]; simp) hd (o := .defd false) (x := .deferred none) rfl (upd_set hlt)
      rw [put_own hb] at hpo
      refine ⟨by simp,.inl ⟨r,_,rfl,?_,shut_ok (s := ⟨Tr.set DH s.h d (some (.defd false)),s.n,s.bs,s.ws⟩) hl e hpo.wr fun w' hp => hK w' (hpo.trans hp)⟩⟩
      simp only [Instr.takeDeferred,Sem.run_bind,hgo,Result.andThen_ok,hso,Sem.run_pure]
    · cases e

/-! ### the statements -/
def outE : Out → Exit
  | .norm => .normal
  | .ret => .ret
  | .exit id => .exit id
  | .goto l => .goto l

def RdOK (ι : Io) (rnd l : Option Nat) : Prop := match rnd with
  | none => l = none
  | some b => ∃ r c,ι b = some (r,c) ∧ l = some r
theorem RdOK.mono {ι ι' : Io} (h : Ext ι ι') {rnd l : Option Nat} (hr : RdOK ι rnd l) : RdOK ι' rnd l := by
  cases rnd with
  | none => exact hr
  | some b => obtain ⟨r,c,h1,h2⟩ := hr; exact ⟨r,c,h _ _ h1,h2⟩

/-- What the walk owes where the reckoner has an answer. -/
def Post (P : Program) (ι : Io) (s : St) (w : World) (a : Act) (cf : Cf) (Q : Exit → Act → World → Prop) : Prop :=
  ∀ a' ι' w',TR ι' cf.T a'.tmps → a'.tmps.size = a.tmps.size → Po P ι s w ι' cf.s w' → DsOK ι' s.bs cf.ds a'.defers → Q (outE cf.out) a' w'
def CodeOK (P : Program) (code : IC → Option Nat → List Nat → Tm → St → Option Cf) : Prop :=
  ∀ nt c ic rnd ds T s cf,comp P nt c = some ic → code ic rnd ds T s = some cf → ∀ ι w a l n Q,TR ι T a.tmps → nt ≤ a.tmps.size → WR P ι s w → RdOK ι rnd l → DsOK ι s.bs ds a.defers → Post P ι s w a cf Q →
    c.wpIn (FW l) n P Q a w ∧ ∀ c0,c = .loop c0 → LoopR (FW l) n P c0 Q a w

theorem compF_inv {f : FuncId} {fi : FI} (h : compF P f = some fi) : ∃ fn c,P.funcs[f]? = some fn ∧ fn.body = some c ∧ comp P fn.ntmps c = some fi.code ∧ fn.results.toList.mapM (compRes P) = some fi.res ∧ fn.ntmps = fi.nt ∧ (fn.name == "runtime.NumGoroutine") = false ∧ fi.nt ≤ limT := by
  unfold compF at h
  split at h
  · cases h
  · rename_i fn hfn
    split at h
    · cases h
    · rename_i c hc
      split at h
      · rename_i ic rs h1 h2
        split at h
        · cases h
        · rename_i hcond
          cases h
          simp only [Bool.or_eq_true,decide_eq_true_eq,not_or,Nat.not_lt] at hcond
          exact ⟨fn,c,hfn,hc,h1,h2,rfl,by simpa using hcond.1,hcond.2⟩
      · cases h

def TabOK (P : Program) (tab : Tr FI) : Prop := ∀ f fi,tab.get f = some fi → compF P f = some fi

theorem puts_ok : ∀ {ps : List Nat} {args args' : List Value} {T T1 : Tm} {tmps : Array Value},puts T ps args = some T1 → LR ι args args' → TR ι T tmps → (∀ p ∈ ps,p < tmps.size) →
    TR ι T1 ((ps.zip args').foldl (fun tmps p => tmps.setIfInBounds p.1 p.2) tmps) ∧ ((ps.zip args').foldl (fun (tmps : Array Value) p => tmps.setIfInBounds p.1 p.2) tmps).size = tmps.size ∧ args'.length = ps.length
  | [],[],_,T,T1,tmps,h,.nil,hT,_ => by
    simp only [puts,Option.some.injEq] at h
    subst h
    exact ⟨hT,rfl,rfl⟩
  | [],_ :: _,_,_,_,_,h,_,_,_ => by simp [puts] at h
  | _ :: _,[],_,_,_,_,h,_,_,_ => by simp [puts] at h
  | t :: ps,v :: vs,_,T,T1,tmps,h,.cons (v' := v') hv hl,hT,hp => by
    simp only [puts] at h
    split at h
    · rename_i hlt
      obtain ⟨q1,q2,q3⟩ := puts_ok (tmps := tmps.setIfInBounds t v') h hl (hT.put (blt_true hlt) (hp t List.mem_cons_self) hv) (fun p hpm => by simpa using hp p (List.mem_cons_of_mem _ hpm))
      exact ⟨q1,by simpa using q2,by simp [q3]⟩
    · cases h

theorem jump_outE {o : Out} {P : Program} {l : Nat} {R : Ending → World → Prop} {a : Act} {w : World} (h : ∃ v w',(Instr.endRound l (jump o)).run P w = .ok v w' ∧ R (.returned v) w') : roundPost P l R (outE o) a w := by
  cases o <;> exact h

theorem callB_ok {tab : Tr FI} (htab : TabOK P tab) {code : IC → Option Nat → List Nat → Tm → St → Option Cf} (hcode : CodeOK P code) : CallOK P (callB tab code) := by
  intro fv args s v s1 he ι w fv' args' hf ha hW
  unfold callB at he
  split at he
  · rename_i g xs ys
    split at he
    · cases he
    · rename_i fi hfi
      split at he
      · cases he
      · rename_i hlen
        have hlen' := Nat.le_of_ble_eq_true hlen
        rw [len_eq] at hlen'
        split at he
        · rename_i o T' s' ds hcd
          obtain ⟨fn,c,hfn,hb,hcm,hres,hnt,hname,hlim⟩ := compF_inv (htab _ _ hfi)
          cases hf with
          | func hny hxs hys =>
            rename_i xs' ys'
            refine .inl ⟨g,xs',ys',fn,rfl,hfn,by rw [hb]; rfl,hname,fun n => ?_⟩
            have hall : LR ι (app xs (app args ys)) (xs' ++ args' ++ ys') := by
              rw [app_eq,app_eq,List.append_assoc]
              exact hxs.append (ha.append hys)
            have hsz := hall.length
            have htr := argsT_ok (pre := []) (k := fi.nt) hall (tr_e fi.nt) hlen' (by simpa using hlim)
            have hdone : ∀ (o : Out),(o = .norm ∨ o = .ret) → (match shut s'.h ds with
                | none => (none : Option (Value × St))
                | some h => match resV T' h fi.res with
                  | some vs => some (done s (outV vs) ⟨h,s'.n,s'.bs,s'.ws⟩)
                  | none => none) = some (v,s1) → ∀ (a' : Act) (ι' : Io) (w' : World),TR ι' T' a'.tmps → Po P ι ⟨s.h,s.n,s.n,[]⟩ w ι' s' w' → DsOK ι' s.n ds a'.defers →
                LeavesInM Fence.wide n P fn a'.tmps (fun e w' => ∃ v',e = .returned v' ∧ ∃ ι',VR ι' v v' ∧ Po P ι s w ι' s1 w') a'.defers .returning w' := by
              intro o _ hm a' ι' w' hT' hp hds
              split at hm
              · cases hm
              · rename_i h1 hsh
                split at hm
                · rename_i vs hvs
                  have hds' : DsOK ι' s'.bs ds a'.defers := by rw [hp.bs]; exact hds
                  refine shut_ok hds' hsh hp.wr fun w'' hp2 => ?_
                  obtain ⟨v',hv1,hv2⟩ := results_ok hp2.wr hT' hres hvs
                  have hd : done s (outV vs) ⟨h1,s'.n,s'.bs,s'.ws⟩ = (v,s1) := by injection hm
                  obtain ⟨ι1,hv3,hp3⟩ := done_ok hW (hp.trans hp2) hv1 hd
                  exact ⟨v',hv2,v',rfl,ι1,hv3,hp3⟩
                · cases hm
            refine callsIn_of_wp_marks hfn hb trivial ?_ rfl
            have hargs : (⟨xs' ++ args' ++ ys'⟩ : Array Value) ++ Array.replicate (fn.ntmps - (⟨xs' ++ args' ++ ys'⟩ : Array Value).size) undef = ⟨[] ++ (xs' ++ args' ++ ys') ++ List.replicate (fi.nt - (app xs (app args ys)).length) undef⟩ := by
              apply Array.ext'
              rw [Array.toList_append,Array.toList_replicate,hnt,hsz]
              rfl
            rw [hargs]
            refine (hcode _ c fi.code none [] _ _ _ hcm hcd ι w _ none n _ htr ?_ (callee_wr hW) rfl .nil ?_).1
            · show fn.ntmps ≤ ([] ++ (xs' ++ args' ++ ys') ++ List.replicate (fi.nt - (app xs (app args ys)).length) undef).length
              rw [hnt,List.length_append,List.nil_append,← hsz,List.length_replicate]
              omega
            · intro a' ι' w' hT' _ hp hds
              cases o with
              | norm => exact hdone .norm (.inl rfl) he a' ι' w' hT' hp hds
              | ret => exact hdone .ret (.inr rfl) he a' ι' w' hT' hp hds
              | exit id => cases he
              | goto l => cases he
        · cases he
  · rename_i l xs ys
    split at he
    · rename_i st0 pend0 T ps asg body0 hloop
      cases hf with
      | func hny _ _ => exact absurd rfl (hny _)
      | yld hl =>
      rename_i r c
      obtain ⟨r',c',x,e1,e2,lp,nt,rfl,e3,e4,e5,e6,e7,e8,e9,e10⟩ := hW.obj _ _ hloop
      rw [hl] at e1
      cases e1
      split at he
      · cases he
      · rename_i T1 hputs
        split at he
        · rename_i T2 s2 hasg
          obtain ⟨q1,q2,q3⟩ := puts_ok (tmps := lp.tmps) hputs ha e5 (fun p hp => Nat.lt_of_lt_of_le (e8 p hp) e6)
          have htm : (lp.params.zip ⟨args'⟩).foldl (fun tmps (t,x) => tmps.setIfInBounds t x) lp.tmps = (ps.zip args').foldl (fun tmps p => tmps.setIfInBounds p.1 p.2) lp.tmps := by
            rw [← Array.foldl_toList,Array.toList_zip,e7]
          refine .inr ⟨r,lp,rfl,e2,by rw [q3,← e7]; simp,fun n => ?_⟩
          rw [htm]
          refine roundIn_of_wpIn trivial ?_
          refine (hcode nt lp.assign asg (some l) [] T1 s _ e9 hasg ι w { tmps := (ps.zip args').foldl (fun tmps p => tmps.setIfInBounds p.1 p.2) lp.tmps,defers := [] } (some r) n _ q1 (by show nt ≤ Array.size _; rw [q2]; exact e6) hW ⟨r,c,hl,rfl⟩ .nil ?_).1
          intro a1 ι1 w1 hT1 hsz1 hp1 hds1
          split at he
          · rename_i pend2 T3 ps3 asg3 body3 hloop2
            obtain ⟨r2,c2,x2,f1,f2,lp2,nt2,rfl,f3,f4,f5⟩ := hp1.wr.obj _ _ hloop2
            have f1' := hp1.ext _ _ hl
            rw [f1] at f1'
            cases f1'
            have hlt := hp1.wr.bound _ _ _ f1
            have hgo : (getObj r).run P w1 = .ok (.loop lp2) w1 := getObj_run f2 (fun _ _ _ h => by cases h)
            have hso : ∀ x,(setObj r x).run P w1 = .ok () { w1 with heap := w1.heap.setIfInBounds r x } := fun x => setObj_run f2 (fun _ _ _ h => by cases h)
            have hpo := Po.put hp1.wr (by rw [hloop2]; simp) f1 (o := .loop .busy pend2 T3 ps3 asg3 body3) (x := .loop { lp2 with state := .busy }) ⟨_,nt2,rfl,rfl,f4,f5⟩ (upd_set hlt)
            refine ⟨_,by simp only [Instr.beginRound,Instr.getLoop,Sem.run_bind,hgo,Result.andThen_ok,hso,f3,Sem.run_pure]; rfl,?_⟩
            rw [St.putK_eq] at he
            split at he
            · rename_i o T4 s4 hbody
              have hp2 := hp1.trans hpo
              refine (hcode nt lp.body body0 (some l) [] _ _ _ e10 hbody ι1 _ a1 (some r) n _ hT1 (by rw [hsz1]; show nt ≤ Array.size _; rw [q2]; exact e6) hpo.wr ⟨r,c,f1,rfl⟩ (by rw [DsOK.nilI hds1]; exact .nil) ?_).1
              intro a2 ι2 w2 hT2 hsz2 hp3 hds2
              refine jump_outE ?_
              split at he
              · rename_i st5 pend5 T5 ps5 asg5 body5 hloop5
                obtain ⟨r5,c5,x5,g1,g2,lp5,nt5,rfl,g3,g4,g5⟩ := hp3.wr.obj _ _ hloop5
                have g1' := hp3.ext _ _ f1
                rw [g1] at g1'
                cases g1'
                have hlt5 := hp3.wr.bound _ _ _ g1
                have hgo5 : (getObj r).run P w2 = .ok (.loop lp5) w2 := getObj_run g2 (fun _ _ _ h => by cases h)
                have hso5 : ∀ x,(setObj r x).run P w2 = .ok () { w2 with heap := w2.heap.setIfInBounds r x } := fun x => setObj_run g2 (fun _ _ _ h => by cases h)
                split at he
                · rename_i hj
                  rw [St.putK_eq] at he
                  cases he
                  have hpo5 := Po.put hp3.wr (by rw [hloop5]; simp) g1 (o := .loop .ready none T5 ps5 asg5 body5) (x := .loop { lp5 with state := .ready,pending := none }) ⟨_,nt5,rfl,rfl,rfl,g5⟩ (upd_set hlt5)
                  rw [hj]
                  exact ⟨.bool true,_,by simp only [Instr.endRound,Instr.getLoop,Sem.run_bind,hgo5,Result.andThen_ok,hso5,Sem.run_pure,Option.isNone_none,if_true],_,rfl,ι2,.bool true,(hp2.trans hp3).trans hpo5⟩
                · rename_i j hj
                  rw [St.putK_eq] at he
                  cases he
                  have hpo5 := Po.put hp3.wr (by rw [hloop5]; simp) g1 (o := .loop .done (some j) T5 ps5 asg5 body5) (x := .loop { lp5 with state := .done,pending := some j }) ⟨_,nt5,rfl,rfl,rfl,g5⟩ (upd_set hlt5)
                  rw [hj]
                  exact ⟨.bool false,_,by simp only [Instr.endRound,Instr.getLoop,Sem.run_bind,hgo5,Result.andThen_ok,hso5,Sem.run_pure,Option.isNone_some,Bool.false_eq_true,if_false],_,rfl,ι2,.bool false,(hp2.trans hp3).trans hpo5⟩
              · cases he
            · cases he
          · cases he
        · cases he
    · cases he
  · cases he
end
end Go.Sim
/- What an operation looks at. -/
namespace Go.Sim
set_option linter.all false
open Go
variable [Rho] [Asm] [SymOK]

section
variable {T T' : Tm}
theorem oevs_cong {xs : List Opd} (h : ∀ x ∈ xs,oev T x = oev T' x) : oevs T xs = oevs T' xs := by
  induction xs with
  | nil => rfl
  | cons x xs ih =>
    simp only [oevs]
    rw [h x (by simp),ih fun y hy => h y (by simp [hy])]
theorem lay_cong {ps : List (Nat × Nat × Opd)} (h : ∀ x ∈ psO ps,oev T x = oev T' x) (z : List Value) : lay T z ps = lay T' z ps := by
  induction ps generalizing z with
  | nil => rfl
  | cons p ps ih =>
    obtain ⟨off,n,x⟩ := p
    simp only [lay]
    rw [h x (by simp [psO])]
    have ih' := ih (fun y hy => h y (by simp [psO,hy]))
    simp only [ih']
theorem cut_cong {lo hi : Option Opd} (h : ∀ x ∈ optO lo ++ optO hi,oev T x = oev T' x) (l top : Nat) : cut T l top lo hi = cut T' l top lo hi := by
  have h1 : cutHi T l top hi = cutHi T' l top hi := by
    cases hi with
    | none => rfl
    | some x => simp only [cutHi]; rw [h x (by simp [optO])]
  have h2 : ∀ m,cutLo T m lo = cutLo T' m lo := fun m => by
    cases lo with
    | none => rfl
    | some x => simp only [cutLo]; rw [h x (by simp [optO])]
  simp only [cut,h1,h2]
theorem evP_cong {o : POp} (h : ∀ x ∈ pO o,oev T x = oev T' x) : evP T o = evP T' o := by
  cases o
  case build z ps => simp only [evP,evPd,p_build]; rw [lay_cong h]
  case mkf fn xs ys =>
    simp only [evP,evPd,p_mkf]
    rw [oevs_cong (xs := xs) fun x hx => h x (by simp [pO,hx]),oevs_cong (xs := ys) fun x hx => h x (by simp [pO,hx])]
  case max xs => simp only [evP,evPd,p_max]; rw [oevs_cong (xs := xs) h]
  case min xs => simp only [evP,evPd,p_min]; rw [oevs_cong (xs := xs) h]
  case slcS size x lo hi =>
    simp only [evP,evPd,p_slcS]
    have hc := fun l top => cut_cong (T := T) (T' := T') (lo := lo) (hi := hi) (fun y hy => h y (by simp only [pO,List.mem_cons]; exact .inr hy)) l top
    simp only [hc]
    rw [h x (by simp [pO])]
  all_goals simp only [pO,List.mem_cons,List.not_mem_nil,or_false,forall_eq_or_imp,forall_eq] at h
  all_goals first
    | rfl
    | (simp only [evP,evPd,p_mov,p_pick,p_bin,p_eqB,p_eqG,p_isNil,p_neg,p_not,p_conv,p_mki,p_fld,p_idxA,p_ext,p_fad,p_iadS,p_iadA,p_lenS,p_lenT,p_nilc,h]; done)
    | (simp only [evP,evPd,p_mov,p_pick,p_bin,p_eqB,p_eqG,p_isNil,p_neg,p_not,p_conv,p_mki,p_fld,p_idxA,p_ext,p_fad,p_iadS,p_iadA,p_lenS,p_lenT,p_nilc,h.1,h.2]; done)
    | (simp only [evP,evPd,p_mov,p_pick,p_bin,p_eqB,p_eqG,p_isNil,p_neg,p_not,p_conv,p_mki,p_fld,p_idxA,p_ext,p_fad,p_iadS,p_iadA,p_lenS,p_lenT,p_nilc,h.1,h.2.1,h.2.2]; done)
theorem evR_cong {o : ROp} (h : ∀ x ∈ rO o,oev T x = oev T' x) (t : Tr LO) : evR T t o = evR T' t o := by
  cases o <;> simp only [rO,List.mem_cons,List.not_mem_nil,or_false,forall_eq_or_imp,forall_eq] at h
  · simp only [evR,evRd,r_ld1,h]
  · simp only [evR,evRd,r_ldn,h]
  · simp only [evR,evRd,r_lkp,h.1,h.2]
  · rfl
theorem evA_cong {o : AOp} (h : ∀ x ∈ aO o,oev T x = oev T' x) : evA T o = evA T' o := by
  cases o
  · rfl
  · simp only [aO,List.mem_cons,List.not_mem_nil,or_false,forall_eq] at h
    simp only [evA,evAd,a_box,h]
  · simp only [evA,evAd,a_bsl]; rw [lay_cong h]
  · simp only [aO,List.mem_cons,List.not_mem_nil,or_false,forall_eq_or_imp,forall_eq] at h
    simp only [evA,evAd,a_mks,h.1,h.2]
  · rfl
theorem evW_cong {β : Type} {o : WOp} (h : ∀ x ∈ wO o,oev T x = oev T' x) (s : St) (k : Value → St → Option β) : evW T s o k = evW T' s o k := by
  cases o <;> simp only [wO,List.mem_cons,List.not_mem_nil,or_false,forall_eq_or_imp,forall_eq] at h
  · simp only [evW,evWd,w_st,h.1,h.2]
  · simp only [evW,evWd,w_mup,h.1,h.2.1,h.2.2]
  · simp only [evW,evWd,w_app,h.1,h.2]
/-- More blocks do not turn what is read. -/
theorem mapOf_mono {h h' : Tr LO} (hh : ∀ b o,h.get b = some o → h'.get b = some o) {n : Nat} {ag : Bool} {v : Value} {es : List (Value × Value)} (he : mapOf h n ag v = some es) : mapOf h' n ag v = some es := by
  unfold mapOf at he ⊢
  split at he
  · exact he
  · split at he
    · rename_i hg
      simp only [hh _ _ hg]
      exact he
    · cases he
  · cases he
theorem evR_mono {h h' : Tr LO} (hh : ∀ b o,h.get b = some o → h'.get b = some o) {o : ROp} {v : Value} (he : evR T h o = some v) : evR T h' o = some v := by
  cases o
  · simp only [evR,evRd,r_ld1] at he ⊢
    split at he
    · rename_i hp
      split at he
      · rename_i hg
        simp only [hh _ _ hg]
        exact he
      · cases he
    · cases he
  · simp only [evR,evRd,r_ldn] at he ⊢
    split at he
    · rename_i hp
      split at he
      · rename_i hg
        simp only [hh _ _ hg]
        exact he
      · cases he
    · cases he
  · simp only [evR,evRd,r_lkp] at he ⊢
    split at he
    · rename_i hk hm
      simp only [hk,mapOf_mono hh hm]
      exact he
    · cases he
  · simp only [evR,evRd,r_lenM] at he; cases he
end
end Go.Sim
/- What is told beforehand of a region that draws its order. -/
namespace Go.Sim
set_option linter.all false
open Go
variable [Rho] [Asm] [SymOK]

theorem beqN {a b : Nat} (h : Nat.beq a b = true) : a = b := Nat.eq_of_beq_eq_true h
theorem eqI_ok {x y : Int} (h : eqI x y = true) : x = y := by
  unfold eqI at h
  split at h
  · rw [beqN h]
  · rw [beqN h]
  · cases h
theorem kindB_ok {k l : IntKind} (h : kindB k l = true) : k = l := by
  cases k <;> cases l <;> first | rfl | cases h
theorem sameB_ok {a b : Bool} (h : sameB a b = true) : a = b := by
  cases a <;> cases b <;> first | rfl | cases h
theorem veqL_ok {eq : Value → Value → Bool} (h : ∀ v w,eq v w = true → v = w) : ∀ {l m : List Value},veq.veqL eq l m = true → l = m
  | [],[],_ => rfl
  | [],_ :: _,e => by simp [veq.veqL] at e
  | _ :: _,[],e => by simp [veq.veqL] at e
  | x :: l,y :: m,e => by
    simp only [veq.veqL] at e
    split at e
    · rename_i h1
      rw [h _ _ h1,veqL_ok h e]
    · cases e
theorem veq_ok : ∀ (n : Nat) (v w : Value),veq n v w = true → v = w := by
  intro n
  induction n with
  | zero => intro v w h; simp [veq] at h
  | succ n ih =>
    intro v w h
    unfold veq at h
    split at h
    · split at h
      · rename_i hk; rw [kindB_ok hk,eqI_ok h]
      · cases h
    · rw [sameB_ok h]
    · rw [eqU_eq] at h
      simp only [beq_iff_eq] at h
      rw [h]
    · rfl
    · split at h
      · rename_i hk; rw [beqN hk,beqN h]
      · cases h
    · split at h
      · rename_i hk; rw [beqN hk,beqN h]
      · cases h
    · split at h
      · rename_i h1 h2 h3; rw [beqN h1,beqN h2,beqN h3,beqN h]
      · cases h
    · rfl
    · rw [beqN h]
    · rfl
    · rfl
    · split at h
      · rename_i h1 h2; rw [beqN h1,veqL_ok ih h2,veqL_ok ih h]
      · cases h
    · rw [← seq_ok _ _ _ h]
    · rw [veqL_ok ih h]
    · rw [veqL_ok ih h]
    · cases h

/-! ### the given order -/
theorem okD_ok : ∀ {l : List (Ins × Nat)} {k : Nat},okD k l = true → (∀ (i : Nat) (a : Ins × Nat),l[i]? = some a → a.2 < 2 ^ (k + i)) ∧ ∀ (i j : Nat) (a b : Ins × Nat),i < j → l[i]? = some a → l[j]? = some b → ok2 (k + i) a b = true
  | [],k,_ => ⟨fun i a h => by simp at h,fun i j a b _ h => by simp at h⟩
  | x :: l,k,h => by
    simp only [okD] at h
    split at h
    · rename_i h1 h2
      obtain ⟨q1,q2⟩ := okD_ok h
      constructor
      · intro i a hi
        cases i with
        | zero => simp at hi; subst hi; exact blt_true h1
        | succ i =>
          have := q1 i a (by simpa using hi)
          rwa [Nat.succ_add_eq_add_succ] at this
      · intro i j a b hij hi hj
        cases j with
        | zero => omega
        | succ j =>
          cases i with
          | zero =>
            simp at hi hj
            subst hi
            exact List.all_eq_true.1 h2 b (List.mem_of_getElem? hj)
          | succ i =>
            have := q2 i j a b (by omega) (by simpa using hi) (by simpa using hj)
            rwa [Nat.succ_add_eq_add_succ] at this
    · cases h
theorem csD_ok : ∀ {l : List (Ins × Nat)} {k : Nat},(∀ (i : Nat) (a : Ins × Nat),l[i]? = some a → isC a.1.op = true → (k + i,a.2) ∈ csD k l) ∧ ∀ c ∈ csD k l,∃ (i : Nat) (a : Ins × Nat),l[i]? = some a ∧ isC a.1.op = true ∧ c = (k + i,a.2)
  | [],k => ⟨fun i a h => by simp at h,fun c h => by simp [csD] at h⟩
  | x :: l,k => by
    obtain ⟨q1,q2⟩ := csD_ok (l := l) (k := k + 1)
    constructor
    · intro i a hi hc
      cases i with
      | zero =>
        simp at hi
        subst hi
        simp [csD,hc]
      | succ i =>
        have := q1 i a (by simpa using hi) hc
        rw [Nat.succ_add_eq_add_succ] at this
        simp only [csD]
        split
        · exact List.mem_cons_of_mem _ this
        · exact this
    · intro c hc
      simp only [csD] at hc
      have tail : c ∈ csD (k + 1) l → ∃ i a,(x :: l)[i]? = some a ∧ isC a.1.op = true ∧ c = (k + i,a.2) := fun h => by
        obtain ⟨i,a,h1,h2,h3⟩ := q2 c h
        exact ⟨i + 1,a,by simpa using h1,h2,by rw [h3,Nat.succ_add_eq_add_succ]⟩
      split at hc
      · rename_i hx
        rcases List.mem_cons.1 hc with rfl | h
        · exact ⟨0,x,by simp,hx,rfl⟩
        · exact tail h
      · exact tail hc
theorem mkD_ok {cs : List (Nat × Nat)} : ∀ {l : List (Ins × Nat)} {k : Nat},(mkD cs k l).length = l.length ∧ ∀ (i : Nat) (d : DI),(mkD cs k l)[i]? = some d → l[i]? = some (d.io,d.m) ∧ d.cs = (0 :: cs.map fun c => Nat.succ c.1).filter fun p => !exempt cs p (k + i) d.m
  | [],k => ⟨rfl,fun i a h => by simp [mkD] at h⟩
  | x :: l,k => by
    obtain ⟨q1,q2⟩ := mkD_ok (cs := cs) (l := l) (k := k + 1)
    constructor
    · simp [mkD,q1]
    · intro i d hi
      cases i with
      | zero =>
        simp [mkD] at hi
        subst hi
        simp
      | succ i =>
        have := q2 i d (by simpa [mkD] using hi)
        rw [Nat.succ_add_eq_add_succ] at this
        simpa using this

/-- What is told beforehand. -/
structure Told (dl : List DI) : Prop where
  lt : ∀ (i : Nat) (d : DI),dl[i]? = some d → d.m < 2 ^ i
  two : ∀ (i j : Nat) (a b : DI),i < j → dl[i]? = some a → dl[j]? = some b → ok2 i (a.io,a.m) (b.io,b.m) = true
  cs0 : ∀ (i : Nat) (d : DI),dl[i]? = some d → 0 ∈ d.cs ∨ ∃ (k : Nat) (c : DI),dl[k]? = some c ∧ isC c.io.op = true ∧ d.m.testBit k = true
  csC : ∀ (i : Nat) (d : DI) (k : Nat) (c : DI),dl[i]? = some d → dl[k]? = some c → isC c.io.op = true → (k + 1) ∈ d.cs ∨ (∃ (j : Nat) (e : DI),dl[j]? = some e ∧ isC e.io.op = true ∧ ((k < j ∧ d.m.testBit j = true) ∨ (j ≤ k ∧ e.m.testBit i = true)))

theorem drawI_ok {l : List (Ins × Nat)} {dl : List DI} (h : drawI l = some dl) : dl.length = l.length ∧ (∀ (i : Nat) (d : DI),dl[i]? = some d → l[i]? = some (d.io,d.m)) ∧ Told dl := by
  unfold drawI at h
  split at h
  · rename_i hok
    cases h
    obtain ⟨q1,q2⟩ := okD_ok hok
    obtain ⟨c1,c2⟩ := csD_ok (l := l) (k := 0)
    obtain ⟨m1,m2⟩ := mkD_ok (cs := csD 0 l) (l := l) (k := 0)
    simp only [Nat.zero_add] at q1 q2 c1 c2 m2
    have back : ∀ (i : Nat) (a : Ins × Nat),l[i]? = some a → ∃ d : DI,(mkD (csD 0 l) 0 l)[i]? = some d ∧ d.io = a.1 ∧ d.m = a.2 := fun i a hi => by
      have hlt : i < (mkD (csD 0 l) 0 l).length := by rw [m1]; exact (List.getElem?_eq_some_iff.1 hi).1
      refine ⟨_,List.getElem?_eq_getElem hlt,?_⟩
      have := (m2 i _ (List.getElem?_eq_getElem hlt)).1
      rw [hi] at this
      cases this
      exact ⟨rfl,rfl⟩
    have ex : ∀ (p i m : Nat),exempt (csD 0 l) p i m = true → ∃ (j : Nat) (e : DI),(mkD (csD 0 l) 0 l)[j]? = some e ∧ isC e.io.op = true ∧ ((p ≤ j ∧ m.testBit j = true) ∨ (j < p ∧ e.m.testBit i = true)) := fun p i m hx => by
      simp only [exempt,List.any_eq_true] at hx
      obtain ⟨c,hc,hx⟩ := hx
      obtain ⟨j,a,h1,h2,rfl⟩ := c2 c hc
      obtain ⟨e,e1,e2,e3⟩ := back j a h1
      refine ⟨j,e,e1,by rw [e2]; exact h2,?_⟩
      simp only [Bool.or_eq_true,Bool.and_eq_true] at hx
      rcases hx with ⟨x1,x2⟩ | ⟨x1,x2⟩
      · exact .inl ⟨Nat.le_of_ble_eq_true x1,x2⟩
      · exact .inr ⟨blt_true x1,by rw [e3]; exact x2⟩
    refine ⟨m1,fun i d hd => (m2 i d hd).1,⟨fun i d hd => q1 i _ (m2 i d hd).1,fun i j a b hij ha hb => q2 i j _ _ hij (m2 i a ha).1 (m2 j b hb).1,?_,?_⟩⟩
    · intro i d hd
      have hcs := (m2 i d hd).2
      cases hx : exempt (csD 0 l) 0 i d.m with
      | false => left; rw [hcs]; simp [hx]
      | true =>
        right
        obtain ⟨j,e,e1,e2,e3⟩ := ex 0 i d.m hx
        rcases e3 with ⟨_,e3⟩ | ⟨e3,_⟩
        · exact ⟨j,e,e1,e2,e3⟩
        · omega
    · intro i d k c hd hk hc
      have hcs := (m2 i d hd).2
      have hmem : (k,c.m) ∈ csD 0 l := c1 k _ (m2 k c hk).1 hc
      cases hx : exempt (csD 0 l) (k + 1) i d.m with
      | false =>
        left
        rw [hcs]
        simp only [List.mem_filter,List.mem_cons,List.mem_map]
        exact ⟨.inr ⟨_,hmem,rfl⟩,by simp [hx]⟩
      | true =>
        right
        obtain ⟨j,e,e1,e2,e3⟩ := ex _ i d.m hx
        refine ⟨j,e,e1,e2,?_⟩
        rcases e3 with ⟨e3,e4⟩ | ⟨e3,e4⟩
        · exact .inl ⟨by omega,e4⟩
        · exact .inr ⟨by omega,e4⟩
  · cases h

theorem inO_ok {d : Nat} : ∀ {l : List Opd},inO d l = false → ∀ x ∈ l,x ≠ .t d
  | [],_,x,hx => by cases hx
  | .t n :: l,h,x,hx => by
    simp only [inO] at h
    split at h
    · cases h
    · rename_i hb
      rcases List.mem_cons.1 hx with rfl | hx
      · rintro ⟨⟩
        simp at hb
      · exact inO_ok h x hx
  | .v _ :: l,h,x,hx => by
    simp only [inO] at h
    rcases List.mem_cons.1 hx with rfl | hx
    · rintro ⟨⟩
    · exact inO_ok h x hx
theorem looks_ok {o : Ins} {d : Nat} (h : looks o (some d) = false) : (∀ x ∈ iO o.op,x ≠ .t d) ∧ ∀ t b,o.grd = some (t,b) → t ≠ d := by
  simp only [looks] at h
  split at h
  · cases h
  · rename_i h1
    refine ⟨inO_ok h1,fun t b e => ?_⟩
    rw [e] at h
    rintro rfl
    simp at h

/-! ### what comes before -/
theorem one_bit (look : Nat → Nat) (o : Oper) (k : Nat) : (CheckFast.one look o).testBit k = true ↔ ∃ e ∈ o.after,Region.binds .any e = true ∧ (e.on = k ∨ (look e.on).testBit k = true) := by
  unfold CheckFast.one
  rw [← Array.foldl_toList]
  have : ∀ (l : List Edge) (s : Nat),(l.foldl (fun s e => if Region.binds .any e then s ||| 2 ^ e.on ||| look e.on else s) s).testBit k = true ↔ s.testBit k = true ∨ ∃ e ∈ l,Region.binds .any e = true ∧ (e.on = k ∨ (look e.on).testBit k = true) := by
    intro l
    induction l with
    | nil => intro s; simp
    | cons e l ih =>
      intro s
      rw [List.foldl_cons,ih]
      by_cases hb : Region.binds .any e = true
      · simp only [hb,if_true,Nat.testBit_or,Nat.testBit_two_pow,Bool.or_eq_true,decide_eq_true_eq,List.mem_cons,exists_eq_or_imp,true_and]
        constructor
        · rintro (((h | h) | h) | h)
          · exact .inl h
          · exact .inr (.inl (.inl h))
          · exact .inr (.inl (.inr h))
          · exact .inr (.inr h)
        · rintro (h | (h | h) | h)
          · exact .inl (.inl (.inl h))
          · exact .inl (.inl (.inr h))
          · exact .inl (.inr h)
          · exact .inr h
      · simp [hb]
  rw [this]
  simp
end Go.Sim
/- Another order than the written one. -/
namespace Go.Sim
set_option linter.all false
open Go
variable [Rho] [Asm] [SymOK]

theorem rmask_bit {p : List Nat} {m : Nat} : ∀ (n k : Nat),(rmask p m n).testBit k = (decide (k < n) && m.testBit (pm p k))
  | 0,k => by simp [rmask]
  | n + 1,k => by
    have ih := rmask_bit (p := p) (m := m) n k
    simp only [rmask]
    split
    · rename_i h
      show ((rmask p m n) ||| 2 ^ n).testBit k = _
      rw [Nat.testBit_or,ih,Nat.testBit_two_pow]
      by_cases hk : k = n
      · subst hk; simp [h]
      · have e1 : decide (k < n + 1) = decide (k < n) := by simp only [decide_eq_decide]; omega
        have e2 : decide (n = k) = false := by simp only [decide_eq_false_iff_not]; omega
        rw [e1,e2,Bool.or_false]
    · rename_i h
      rw [ih]
      by_cases hk : k = n
      · subst hk; simp [h]
      · have e1 : decide (k < n + 1) = decide (k < n) := by simp only [decide_eq_decide]; omega
        rw [e1]
theorem permL_ok {l : List (Ins × Nat)} {p : List Nat} {n : Nat} : ∀ {r : List Nat} {l' : List (Ins × Nat)},permL l p n r = some l' → l'.length = r.length ∧ ∀ (k : Nat) (x : Ins × Nat),l'[k]? = some x → ∃ (j : Nat) (a : Ins × Nat),r[k]? = some j ∧ l[j]? = some a ∧ x = (a.1,rmask p a.2 n)
  | [],l',h => by simp only [permL,Option.some.injEq] at h; subst h; exact ⟨rfl,fun k x h => by simp at h⟩
  | j :: r,l',h => by
    simp only [permL] at h
    split at h
    · cases h
    · rename_i a ha
      split at h
      · cases h
      · rename_i s hs
        cases h
        obtain ⟨q1,q2⟩ := permL_ok hs
        refine ⟨by simp [q1],fun k x hk => ?_⟩
        cases k with
        | zero => simp at hk; subst hk; exact ⟨j,a,by simp,ha,rfl⟩
        | succ k => simpa using q2 k x (by simpa using hk)

/-- What is told of an order: where each operation stands (π), and back (σ). -/
structure Laid (l : List (Ins × Nat)) (dl : List DI) (π σ : Nat → Nat) : Prop where
  len : dl.length = l.length
  left : ∀ i,σ (π i) = i
  right : ∀ i,π (σ i) = i
  lt : ∀ i,i < l.length → π i < l.length
  lt' : ∀ i,i < l.length → σ i < l.length
  get : ∀ (i : Nat) (d : DI),dl[i]? = some d → ∃ m,l[π i]? = some (d.io,m) ∧ m < 2 ^ l.length ∧ ∀ k,d.m.testBit k = (decide (k < l.length) && m.testBit (π k))
  told : Told dl

theorem drawP_ok {l : List (Ins × Nat)} {dl : List DI} (h : drawP l = some dl) : ∃ π σ,Laid l dl π σ := by
  unfold drawP at h
  generalize lateA 0 l [] = p at h
  simp only at h
  generalize (List.range l.length).map (fun i => p.findIdx (Nat.beq i)) = q at h
  split at h
  · rename_i l' h1 h2
    simp only [Bool.and_eq_true] at h1
    obtain ⟨hp,hm⟩ := h1
    simp only [permOK,Bool.and_eq_true,List.all_eq_true,List.mem_range] at hp
    obtain ⟨⟨hl1,hl2⟩,hp⟩ := hp
    have hl1 := beqN hl1
    have hl2 := beqN hl2
    obtain ⟨q1,q2⟩ := permL_ok h2
    obtain ⟨d1,d2,told⟩ := drawI_ok h
    have out : ∀ (r : List Nat),r.length = l.length → ∀ i,¬ i < l.length → pm r i = i := fun r hr i hi => by
      unfold pm
      rw [List.getElem?_eq_none (by omega)]
    have hlen : dl.length = l.length := by rw [d1,q1,hl1]
    refine ⟨pm p,pm q,hlen,fun i => ?_,fun i => ?_,fun i hi => blt_true (hp i hi).1.2,fun i hi => blt_true (hp i hi).2,fun i d hd => ?_,told⟩
    · by_cases hi : i < l.length
      · exact beqN (hp i hi).1.1.1
      · rw [out p hl1 i hi,out q hl2 i hi]
    · by_cases hi : i < l.length
      · exact beqN (hp i hi).1.1.2
      · rw [out q hl2 i hi,out p hl1 i hi]
    · obtain ⟨j,a,e1,e2,e3⟩ := q2 i _ (d2 i d hd)
      simp only [Prod.mk.injEq] at e3
      refine ⟨a.2,?_,?_,fun k => ?_⟩
      · unfold pm; rw [e1,e3.1]; exact e2
      · exact blt_true (List.all_eq_true.1 hm a (List.mem_of_getElem? e2))
      · rw [e3.2]; exact rmask_bit _ _
  · cases h
theorem drawA_ok {l : List (Ins × Nat)} {dl : List DI} (h : drawA l = some dl) : ∃ π σ,Laid l dl π σ := by
  unfold drawA at h
  split at h
  · rename_i d hd
    cases h
    obtain ⟨d1,d2,told⟩ := drawI_ok hd
    refine ⟨id,id,d1,fun _ => rfl,fun _ => rfl,fun _ h => h,fun _ h => h,fun i e he => ?_,told⟩
    have hi : i < l.length := by rw [← d1]; exact (List.getElem?_eq_some_iff.1 he).1
    have hlt := told.lt i e he
    refine ⟨e.m,d2 i e he,Nat.lt_of_lt_of_le hlt (Nat.pow_le_pow_right (by omega) (by omega)),fun k => ?_⟩
    by_cases hk : k < l.length
    · simp [hk]
    · have : e.m.testBit k = false := Nat.testBit_lt_two_pow (Nat.lt_of_lt_of_le hlt (Nat.pow_le_pow_right (by omega) (by omega)))
      simp [this]
  · exact drawP_ok h
end Go.Sim
