/- Part 6 of the proof: SimT2, SimT3, SimT4, SimT5, SimT6. -/
import Derived.OrdersIn
import Derived.Test.YtljefjngmembkaaGreatDoorT05
namespace Go.Sim
set_option linter.all false
open Go
variable [Rho] [Asm] [SymOK]

structure Run (call : Value → List Value → St → Option (Value × St)) (n0 k : Nat) (dl : List DI) (Tf : Nat → Tm) (Hf : Nat → St) (V : Nat → Value) (L : Nat → Option LO) : Prop where
  step : ∀ (i : Nat) (d : DI),dl[i]? = some d → stepD call (n0 + (k + i)) d.io (Tf i) (Hf i) = some (V i,Hf (i + 1),L i)
  put : ∀ (i : Nat) (d : DI),dl[i]? = some d → Tf (i + 1) = match d.io.dst with
    | none => Tf i
    | some t => tput (Tf i) t (V i)

theorem evD_ok {call : Value → List Value → St → Option (Value × St)} {n0 : Nat} : ∀ {dl : List DI} {k : Nat} {T T2 : Tm} {s s2 : St} {rs : List DR},evD call n0 k dl T s = some (rs,T2,s2) →
    ∃ Tf Hf V L,Run call n0 k dl Tf Hf V L ∧ Tf 0 = T ∧ Hf 0 = s ∧ Tf dl.length = T2 ∧ Hf dl.length = s2 ∧ rs.length = dl.length ∧ ∀ (i : Nat) (r : DR),rs[i]? = some r → r.T = Tf i ∧ r.s = Hf i ∧ r.v = V i
  | [],k,T,T2,s,s2,rs,h => by
    simp only [evD,Option.some.injEq,Prod.mk.injEq] at h
    obtain ⟨rfl,rfl,rfl⟩ := h
    exact ⟨fun _ => T,fun _ => s,fun _ => .tuple #[],fun _ => none,⟨fun i d h => by simp at h,fun i d h => by simp at h⟩,rfl,rfl,rfl,rfl,rfl,fun i r h => by simp at h⟩
  | d :: l,k,T,T2,s,s2,rs,h => by
    simp only [evD] at h
    split at h
    · cases h
    · rename_i v s1 lo h1
      rw [force_eq] at h
      have h2 : ∃ T1,(T1 = match d.io.dst with
          | none => T
          | some t => tput T t v) ∧ (match evD call n0 (k + 1) l T1 s1 with
          | none => none
          | some (rs,T2,s2) => some (⟨T,s,v,lo⟩ :: rs,T2,s2)) = some (rs,T2,s2) := by
        cases hd : d.io.dst with
        | none => rw [hd] at h; exact ⟨T,rfl,h⟩
        | some t => rw [hd] at h; simp only [putD,Tr.setK_eq] at h; exact ⟨_,rfl,h⟩
      obtain ⟨T1,e1,h2⟩ := h2
      split at h2
      · cases h2
      · rename_i rs' T2' s2' h3
        cases h2
        obtain ⟨Tf,Hf,V,L,hr,q1,q2,q3,q4,q5,q6⟩ := evD_ok h3
        refine ⟨fun | 0 => T | i + 1 => Tf i,fun | 0 => s | i + 1 => Hf i,fun | 0 => v | i + 1 => V i,fun | 0 => lo | i + 1 => L i,⟨?_,?_⟩,rfl,rfl,q3,q4,by simp [q5],?_⟩
        · intro i d' hi
          cases i with
          | zero =>
            simp at hi
            subst hi
            show stepD call (n0 + (k + 0)) d.io T s = some (v,Hf 0,lo)
            rw [q2]
            exact h1
          | succ i =>
            have := hr.step i d' (by simpa using hi)
            rw [show k + 1 + i = k + (i + 1) by omega] at this
            exact this
        · intro i d' hi
          cases i with
          | zero =>
            simp at hi
            subst hi
            show Tf 0 = _
            rw [q1]
            exact e1
          | succ i => exact hr.put i d' (by simpa using hi)
        · intro i r hi
          cases i with
          | zero => simp at hi; subst hi; exact ⟨rfl,rfl,rfl⟩
          | succ i => exact q6 i r (by simpa using hi)

theorem hAt_ok {h2 : Tr LO} {N : Nat} {Hf : Nat → St} (h : (Hf N).h = h2) : ∀ {rs : List DR} {k : Nat},k + rs.length = N → (∀ (i : Nat) (r : DR),rs[i]? = some r → r.s = Hf (k + i)) → ∀ p,k + p ≤ N → hAt h2 rs p = (Hf (k + p)).h
  | [],k,hk,_,p,hp => by
    have : k + p = N := by simp at hk; omega
    simp only [hAt]
    rw [this,h]
  | r :: rs,k,hk,hr,p,hp => by
    cases p with
    | zero => simp only [hAt]; rw [hr 0 r (by simp)]
    | succ p =>
      simp only [hAt]
      have := hAt_ok h (rs := rs) (k := k + 1) (by simp at hk; omega) (fun i r' hi => by
        have := hr (i + 1) r' (by simpa using hi)
        rw [this]; congr 1; omega) p (by omega)
      rw [this]
      congr 2
      omega
theorem chk_ok {h2 : Tr LO} {all : List DR} {T : Tm} {o : ROp} {v : Value} : ∀ {ps : List Nat},chk h2 all T o v ps = true → ∀ p ∈ ps,evR T (hAt h2 all p) o = some v
  | [],_,p,hp => by cases hp
  | q :: ps,h,p,hp => by
    simp only [chk] at h
    split at h
    · cases h
    · rename_i v' hv
      split at h
      · rename_i he
        rcases List.mem_cons.1 hp with rfl | hp
        · rw [hv,veq_ok _ _ _ he]
        · exact chk_ok h p hp
      · cases h
theorem recheck_ok {h2 : Tr LO} {all : List DR} : ∀ {dl : List DI} {rs : List DR},recheck h2 all dl rs = true → ∀ (i : Nat) (d : DI) (r : DR) (o : ROp),dl[i]? = some d → rs[i]? = some r → d.io.op = .r o → wanted r.T d.io.grd = true → ∀ p ∈ d.cs,evR r.T (hAt h2 all p) o = some r.v
  | [],_,_,i,d,r,o,hd,_,_,_,_,_ => by simp at hd
  | _ :: _,[],_,i,d,r,o,_,hr,_,_,_,_ => by simp at hr
  | d0 :: l,r0 :: rs,h,i,d,r,o,hd,hr,ho,hw,p,hp => by
    simp only [recheck] at h
    split at h
    · rename_i h1
      cases i with
      | zero =>
        simp at hd hr
        subst hd
        subst hr
        rw [ho,hw] at h1
        exact chk_ok h1 p hp
      | succ i => exact recheck_ok h i d r o (by simpa using hd) (by simpa using hr) ho hw p hp
    · cases h
theorem lenD_ok : ∀ (l : List DI),lenD l = l.length
  | [] => rfl
  | _ :: l => by simp [lenD,lenD_ok l]

theorem stepD_still {call : Value → List Value → St → Option (Value × St)} {b : Nat} {o : Ins} {T : Tm} {s s' : St} {v : Value} {lo : Option LO} (hc : isC o.op = false) (h : stepD call b o T s = some (v,s',lo)) :
    (s' = s ∧ lo = none) ∨ ∃ x,lo = some x ∧ s' = ⟨Tr.set DH s.h b (some x),s.n,s.bs,s.ws⟩ := by
  unfold stepD at h
  split at h
  · split at h
    · cases h; exact .inl ⟨rfl,rfl⟩
    · cases h
  · split at h
    · split at h
      · cases h; exact .inl ⟨rfl,rfl⟩
      · cases h
    · split at h
      · cases h; exact .inl ⟨rfl,rfl⟩
      · cases h
    · split at h
      · rw [Tr.setK_eq] at h; cases h; exact .inr ⟨_,rfl,rfl⟩
      · cases h
    · rename_i ho; rw [ho] at hc; cases hc
    · rename_i ho; rw [ho] at hc; cases hc
end Go.Sim
namespace Go.Sim
set_option linter.all false
open Go
variable [Rho] [Asm] [SymOK]

structure Rg (P : Program) (call : Value → List Value → St → Option (Value × St)) (nt : Nat) (ops : Array Oper) (π σ : Nat → Nat) (dl : List DI) (n0 : Nat) (Tf : Nat → Tm) (Hf : Nat → St) (V : Nat → Value) (L : Nat → Option LO) : Prop where
  told : Told dl
  len : dl.length = ops.size
  io : ∀ (i : Nat) (d : DI),dl[i]? = some d → ∃ o,ops[π i]? = some o ∧ compIO P nt ops o = some d.io
  edge : ∀ (i : Nat) (o : Oper) (d : DI),ops[π i]? = some o → dl[i]? = some d → (∀ e ∈ o.after,Region.binds .any e = true → e.on < dl.length ∧ d.m.testBit (σ e.on) = true) ∧ ∀ k,d.m.testBit k = true → ∃ e ∈ o.after,Region.binds .any e = true ∧ (σ e.on = k ∨ ∃ d',dl[σ e.on]? = some d' ∧ d'.m.testBit k = true)
  left : ∀ i,σ (π i) = i
  right : ∀ i,π (σ i) = i
  plt : ∀ i,i < dl.length → π i < dl.length
  plt' : ∀ i,i < dl.length → σ i < dl.length
  run : Run call n0 0 dl Tf Hf V L
  chk : ∀ (i : Nat) (d : DI) (o : ROp),dl[i]? = some d → d.io.op = .r o → wanted (Tf i) d.io.grd = true → ∀ p ∈ d.cs,p ≤ dl.length → evR (Tf i) (Hf p).h o = some (V i)
  lim : n0 + dl.length ≤ limH

theorem compIO_ok {P : Program} {nt : Nat} {ops : Array Oper} {o : Oper} {io : Ins} (h : compIO P nt ops o = some io) : dstOk nt o.dst = true ∧ io.dst = o.dst ∧ compC1 P o = some io.op ∧ compG ops o.guard = some io.grd := by
  unfold compIO at h
  split at h
  · rename_i hd
    simp only [bind,Option.bind_eq_some_iff,Option.some.injEq] at h
    obtain ⟨op',hop,g,hg,rfl⟩ := h
    exact ⟨hd,rfl,hop,hg⟩
  · cases h
theorem compC0_a {P : Program} {o : Oper} {r : AOp} (h : compC1 P o = some (.a r)) : compC0 P o = some (.a r) := by
  rcases compC1_ok h with h | h
  · exact h
  · cases h
theorem compC1_a {P : Program} {o : Oper} {r : AOp} (h : compC1 P o = some (.a r)) : compA P o = some r := by
  have h := compC0_a h
  unfold compC0 at h
  split at h
  · simp only [bind,Option.bind_eq_some_iff,Option.some.injEq] at h
    obtain ⟨_,_,_,_,h⟩ := h
    cases h
  · split at h
    · cases h
    · split at h
      · cases h
      · split at h
        · rename_i ha; cases h; exact ha
        · split at h <;> cases h

section
variable {P : Program} {call : Value → List Value → St → Option (Value × St)} {nt : Nat} {ops : Array Oper} {π σ : Nat → Nat} {dl : List DI} {n0 : Nat} {Tf : Nat → Tm} {Hf : Nat → St} {V : Nat → Value} {L : Nat → Option LO}

theorem Rg.dst (R : Rg P call nt ops π σ dl n0 Tf Hf V L) {i : Nat} {d : DI} (hd : dl[i]? = some d) : dstOk nt d.io.dst = true := by
  obtain ⟨o,_,h⟩ := R.io i d hd
  obtain ⟨h1,h2,_⟩ := compIO_ok h
  rw [h2]; exact h1
theorem Rg.dstT (R : Rg P call nt ops π σ dl n0 Tf Hf V L) {i t : Nat} {d : DI} (hd : dl[i]? = some d) (ht : d.io.dst = some t) : t < limT := by
  have := R.dst hd
  rw [ht] at this
  simp only [dstOk,Bool.and_eq_true] at this
  exact blt_true this.2
theorem Rg.tf (R : Rg P call nt ops π σ dl n0 Tf Hf V L) (t : Nat) : ∀ i,i ≤ dl.length → (∃ (j : Nat) (d : DI),j < i ∧ dl[j]? = some d ∧ d.io.dst = some t ∧ tget (Tf i) t = V j) ∨ ((∀ (j : Nat) (d : DI),j < i → dl[j]? = some d → d.io.dst ≠ some t) ∧ tget (Tf i) t = tget (Tf 0) t) := by
  intro i
  induction i with
  | zero => intro _; exact .inr ⟨fun j d h => by omega,rfl⟩
  | succ i ih =>
    intro hi
    obtain ⟨d,hd⟩ : ∃ d,dl[i]? = some d := ⟨_,List.getElem?_eq_getElem (by omega)⟩
    have hp := R.run.put i d hd
    by_cases ht : d.io.dst = some t
    · left
      refine ⟨i,d,by omega,hd,ht,?_⟩
      rw [ht] at hp
      simp only at hp
      rw [hp,tget_put (R.dstT hd ht),if_pos rfl]
    · have e : tget (Tf (i + 1)) t = tget (Tf i) t := by
        cases hq : d.io.dst with
        | none => rw [hq] at hp; rw [hp]
        | some t' =>
          rw [hq] at hp
          simp only at hp
          rw [hp,tget_put (R.dstT hd hq),if_neg]
          rintro rfl
          exact ht hq
      rcases ih (by omega) with ⟨j,d',h1,h2,h3,h4⟩ | ⟨h1,h2⟩
      · exact .inl ⟨j,d',by omega,h2,h3,e.trans h4⟩
      · refine .inr ⟨fun j d' hj hd' => ?_,e.trans h2⟩
        by_cases hji : j = i
        · subst hji
          rw [hd] at hd'
          cases hd'
          exact ht
        · exact h1 j d' (by omega) hd'
theorem stepD_lo {b : Nat} {o : Ins} {T : Tm} {s s' : St} {v : Value} {lo : Option LO} (hs : stepD call b o T s = some (v,s',lo)) (h : lo ≠ none) : isA o.op = true := by
  cases hop : o.op with
  | a _ => rfl
  | p op =>
    exfalso; apply h
    unfold stepD at hs
    rw [hop] at hs
    split at hs
    · split at hs <;> cases hs; rfl
    · simp only at hs; split at hs <;> cases hs; rfl
  | r op =>
    exfalso; apply h
    unfold stepD at hs
    rw [hop] at hs
    split at hs
    · split at hs <;> cases hs; rfl
    · simp only at hs; split at hs <;> cases hs; rfl
  | call f xs =>
    exfalso; apply h
    unfold stepD at hs
    rw [hop] at hs
    split at hs
    · split at hs <;> cases hs; rfl
    · simp only at hs; split at hs <;> cases hs; rfl
  | w op =>
    exfalso; apply h
    unfold stepD at hs
    rw [hop] at hs
    split at hs
    · split at hs <;> cases hs; rfl
    · simp only at hs
      have : ∀ {o : Option (Value × St)} {v : Value} {s : St} {lo : Option LO},(o.bind fun p => pairD p.1 p.2) = some (v,s,lo) → lo = none := by
        intro o v s lo h
        cases o with
        | none => cases h
        | some p => cases h; rfl
      unfold evW evWd at hs
      cases op with
      | st n a x => simp only at hs; rw [w_st_k] at hs; exact this hs
      | mup n ag m k v => simp only at hs; rw [w_mup_k] at hs; exact this hs
      | app n z x y => simp only at hs; rw [w_app_k] at hs; exact this hs
theorem Rg.lo (R : Rg P call nt ops π σ dl n0 Tf Hf V L) {j : Nat} {d : DI} (hd : dl[j]? = some d) (h : L j ≠ none) : isA d.io.op = true := stepD_lo (R.run.step j d hd) h

theorem ok2_dst {i : Nat} {a b : Ins × Nat} (h : ok2 i a b = true) {t : Nat} (ha : a.1.dst = some t) (hb : b.1.dst = some t) : False := by
  unfold ok2 at h
  simp [apartD,ha,hb] at h
theorem ok2_bit {i : Nat} {a b : Ins × Nat} (h : ok2 i a b = true) (hq : (∃ t,a.1.dst = some t ∧ looks b.1 (some t) = true) ∨ (∃ t,b.1.dst = some t ∧ looks a.1 (some t) = true) ∨ (isC b.1.op = true ∧ (isC a.1.op = true ∨ isA a.1.op = true))) : b.2.testBit i = true := by
  unfold ok2 at h
  split at h
  · cases h
  · split at h
    · assumption
    · exfalso
      rcases hq with ⟨t,h1,h2⟩ | ⟨t,h1,h2⟩ | ⟨h1,h2⟩
      · rw [h1,h2] at h
        split at h
        · rename_i q _ _; cases q
        · rename_i q _ _; cases q
        · cases h
      · rw [h1,h2] at h
        split at h
        · rename_i q _; cases q
        · rename_i q _; cases q
        · cases h
      · rw [h1] at h
        split at h
        · rename_i q; cases q
        · rcases h2 with h2 | h2 <;> simp [h2] at h
        · cases h

theorem Rg.between (R : Rg P call nt ops π σ dl n0 Tf Hf V L) {c : Nat} : ∀ i,c ≤ i → i ≤ dl.length → (∀ (k : Nat) (d : DI),c ≤ k → k < i → dl[k]? = some d → isC d.io.op = false) →
    (Hf i).n = (Hf c).n ∧ (Hf i).bs = (Hf c).bs ∧ (Hf i).ws = (Hf c).ws ∧ (∀ j lo,c ≤ j → j < i → L j = some lo → (Hf i).h.get (n0 + j) = some lo) ∧ ∀ b,(∀ j,c ≤ j → j < i → L j ≠ none → b ≠ n0 + j) → (Hf i).h.get b = (Hf c).h.get b := by
  have base : (Hf c).n = (Hf c).n ∧ (Hf c).bs = (Hf c).bs ∧ (Hf c).ws = (Hf c).ws ∧ (∀ j lo,c ≤ j → j < c → L j = some lo → (Hf c).h.get (n0 + j) = some lo) ∧ ∀ b,(∀ j,c ≤ j → j < c → L j ≠ none → b ≠ n0 + j) → (Hf c).h.get b = (Hf c).h.get b :=
    ⟨rfl,rfl,rfl,fun j lo h1 h2 => by omega,fun b _ => rfl⟩
  intro i
  induction i with
  | zero => intro hci _ _; have : c = 0 := by omega
            subst this; exact base
  | succ i ih =>
    intro hci' hi hC
    by_cases heq : c = i + 1
    · subst heq; exact base
    have hci : c ≤ i := by omega
    obtain ⟨q1,q2,q3,q4,q5⟩ := ih hci (by omega) fun k d h1 h2 => hC k d h1 (by omega)
    obtain ⟨d,hd⟩ : ∃ d,dl[i]? = some d := ⟨_,List.getElem?_eq_getElem (by omega)⟩
    have hs := R.run.step i d hd
    rw [Nat.zero_add] at hs
    rcases stepD_still (hC i d hci (by omega) hd) hs with ⟨e1,e2⟩ | ⟨x,e1,e2⟩
    · rw [e1]
      refine ⟨q1,q2,q3,fun j lo h1 h2 h3 => ?_,fun b hb => q5 b fun j h1 h2 => hb j h1 (by omega)⟩
      by_cases hji : j = i
      · subst hji; rw [e2] at h3; cases h3
      · exact q4 j lo h1 (by omega) h3
    · have hl := R.lim
      have hg : ∀ b,(Hf (i + 1)).h.get b = if b = n0 + i then some x else (Hf i).h.get b := fun b => by
        rw [e2]; exact Tr.get_set DH _ _ _ b (lim_le (by omega))
      refine ⟨by rw [e2]; exact q1,by rw [e2]; exact q2,by rw [e2]; exact q3,fun j lo h1 h2 h3 => ?_,fun b hb => ?_⟩
      · rw [hg]
        by_cases hji : j = i
        · subst hji; rw [if_pos rfl,← e1,h3]
        · rw [if_neg (by omega)]; exact q4 j lo h1 (by omega) h3
      · rw [hg,if_neg (hb i hci (by omega) (by rw [e1]; simp))]
        exact q5 b fun j h1 h2 => hb j h1 (by omega)

theorem lay_blocks (E : Nat → Option LO) (n0 : Nat) (h : Tr LO) : ∀ N,(∀ b,E b ≠ none → n0 ≤ b ∧ b < n0 + N) → n0 + N ≤ limH → ∃ h' : Tr LO,∀ b,h'.get b = (E b).or (h.get b) := by
  intro N
  induction N generalizing E with
  | zero =>
    intro hE _
    refine ⟨h,fun b => ?_⟩
    cases hq : E b with
    | none => rfl
    | some lo => have := hE b (by rw [hq]; simp); omega
  | succ N ih =>
    intro hE hl
    obtain ⟨h',hh⟩ := ih (fun b => if b = n0 + N then none else E b) (fun b hb => by
      split at hb
      · exact absurd rfl hb
      · have := hE b hb; omega) (by omega)
    cases hq : E (n0 + N) with
    | none =>
      refine ⟨h',fun b => ?_⟩
      rw [hh]
      split
      · rename_i e; rw [e,hq]
      · rfl
    | some lo =>
      refine ⟨Tr.set DH h' (n0 + N) (some lo),fun b => ?_⟩
      rw [Tr.get_set DH h' (n0 + N) (some lo) b (lim_le (by omega))]
      split
      · rename_i e; rw [e,hq]; rfl
      · rename_i e; rw [hh,if_neg e]
end
end Go.Sim
namespace Go.Sim
set_option linter.all false
open Go
variable [Rho] [Asm] [SymOK]

structure Inv (P : Program) (dl : List DI) (n0 : Nat) (Tf : Nat → Tm) (Hf : Nat → St) (V : Nat → Value) (L : Nat → Option LO) (ι0 : Io) (s0 : St) (w0 : World) (a0 : Act) (D : Nat → Prop) (a : Act) (w : World) (ι : Io) (TD : Tm) (S : St) (c : Nat) : Prop where
  lt : ∀ i,D i → i < dl.length
  closed : ∀ (i : Nat) (d : DI),D i → dl[i]? = some d → ∀ k,d.m.testBit k = true → D k
  tr : TR ι TD a.tmps
  size : a.tmps.size = a0.tmps.size
  defers : a.defers = a0.defers
  done : ∀ (i : Nat) (d : DI) (t : Nat),D i → dl[i]? = some d → d.io.dst = some t → tget TD t = V i
  undone : ∀ t,(∀ (i : Nat) (d : DI),D i → dl[i]? = some d → d.io.dst ≠ some t) → tget TD t = tget (Tf 0) t
  cle : c ≤ dl.length
  cC : c = 0 ∨ ∃ (k : Nat) (d : DI),c = k + 1 ∧ dl[k]? = some d ∧ isC d.io.op = true ∧ D k
  cmax : ∀ (k : Nat) (d : DI),D k → dl[k]? = some d → isC d.io.op = true → k < c
  po : Po P ι0 s0 w0 ι S w
  n : S.n = (Hf c).n
  bs : S.bs = (Hf c).bs
  ws : S.ws = (Hf c).ws
  ext1 : ∀ j lo,c ≤ j → D j → L j = some lo → S.h.get (n0 + j) = some lo
  ext2 : ∀ b,(∀ j,c ≤ j → D j → L j ≠ none → b ≠ n0 + j) → S.h.get b = (Hf c).h.get b
  fresh : ∀ j,j < dl.length → ¬ D j → ι (n0 + j) = none
  hnone : ∀ j,c ≤ j → j < dl.length → (Hf c).h.get (n0 + j) = none
  nge : n0 + dl.length ≤ S.n
  n0le : s0.n ≤ n0

section
variable {P : Program} {call : Value → List Value → St → Option (Value × St)} {nt : Nat} {ops : Array Oper} {π σ : Nat → Nat} {dl : List DI} {n0 : Nat} {Tf : Nat → Tm} {Hf : Nat → St} {V : Nat → Value} {L : Nat → Option LO}
  {ι0 : Io} {s0 : St} {w0 : World} {a0 : Act} {D : Nat → Prop} {a : Act} {w : World} {ι : Io} {TD : Tm} {S : St} {c i : Nat} {d : DI}

def And1 (D : Nat → Prop) (i : Nat) : Nat → Prop := fun j => D j ∨ j = i

theorem Inv.agree (R : Rg P call nt ops π σ dl n0 Tf Hf V L) (H : Inv P dl n0 Tf Hf V L ι0 s0 w0 a0 D a w ι TD S c) (hd : dl[i]? = some d) (hi : ¬ D i) (hm : ∀ k,d.m.testBit k = true → D k) (t : Nat) (ht : looks d.io (some t) = true) : tget TD t = tget (Tf i) t := by
  have hil : i < dl.length := (List.getElem?_eq_some_iff.1 hd).1
  rcases R.tf t i (by omega) with ⟨j,e,h1,h2,h3,h4⟩ | ⟨h1,h2⟩
  · rw [h4]
    refine H.done j e t (hm j ?_) h2 h3
    exact ok2_bit (R.told.two j i e d h1 h2 hd) (.inl ⟨t,h3,ht⟩)
  · rw [h2]
    refine H.undone t fun j e hj he hdst => ?_
    rcases Nat.lt_trichotomy j i with hlt | rfl | hgt
    · exact h1 j e hlt he hdst
    · exact hi hj
    · have := ok2_bit (R.told.two i j d e hgt hd he) (.inr (.inl ⟨t,hdst,ht⟩))
      exact hi (H.closed j e hj he i this)

theorem agree_op {T T' : Tm} {o : Ins} (h : ∀ t,looks o (some t) = true → tget T t = tget T' t) : (∀ x ∈ iO o.op,oev T x = oev T' x) ∧ wanted T o.grd = wanted T' o.grd ∧ gOK T o.grd = gOK T' o.grd := by
  have look : ∀ t,looks o (some t) = false → (∀ x ∈ iO o.op,x ≠ .t t) ∧ ∀ t' b,o.grd = some (t',b) → t' ≠ t := fun t h => looks_ok h
  constructor
  · intro x hx
    cases x with
    | v x => rfl
    | t n =>
      simp only [oev]
      refine h n ?_
      cases hq : looks o (some n) with
      | true => rfl
      | false => exact absurd rfl ((look n hq).1 _ hx)
  · cases hg : o.grd with
    | none => exact ⟨rfl,rfl⟩
    | some p =>
      obtain ⟨t,b⟩ := p
      have e : tget T t = tget T' t := by
        refine h t ?_
        cases hq : looks o (some t) with
        | true => rfl
        | false => exact absurd rfl ((look t hq).2 _ _ hg)
      simp only [wanted,gOK,e]
      exact ⟨trivial,trivial⟩

theorem Inv.put (R : Rg P call nt ops π σ dl n0 Tf Hf V L) (H : Inv P dl n0 Tf Hf V L ι0 s0 w0 a0 D a w ι TD S c) (hs : nt ≤ a0.tmps.size) (hd : dl[i]? = some d) (hi : ¬ D i) {ι' : Io} (he : Ext ι ι') {v' : Value} (hv : VR ι' (V i) v') :
    ∃ TD',TR ι' TD' (a.put d.io.dst v').tmps ∧ (a.put d.io.dst v').tmps.size = a0.tmps.size ∧ (a.put d.io.dst v').defers = a0.defers ∧
      (∀ (j : Nat) (e : DI) (t : Nat),And1 D i j → dl[j]? = some e → e.io.dst = some t → tget TD' t = V j) ∧ ∀ t,(∀ (j : Nat) (e : DI),And1 D i j → dl[j]? = some e → e.io.dst ≠ some t) → tget TD' t = tget (Tf 0) t := by
  have hdst := R.dst hd
  have ne : ∀ (j : Nat) (e : DI) (t : Nat),j ≠ i → dl[j]? = some e → e.io.dst = some t → d.io.dst ≠ some t := fun j e t hji hj ht hdt => by
    rcases Nat.lt_or_gt_of_ne hji with h | h
    · exact ok2_dst (R.told.two j i e d h hj hd) ht hdt
    · exact ok2_dst (R.told.two i j d e h hd hj) hdt ht
  obtain ⟨TD',e1,h1,h2,h3⟩ := put_ok (a := a) (T := TD) (k := fun T => T) hdst (by rw [H.size]; exact hs) (H.tr.mono he) hv
  have hg : ∀ t,tget TD' t = if d.io.dst = some t then V i else tget TD t := fun t => by
    cases hq : d.io.dst with
    | none => rw [hq] at e1; simp only [putD] at e1; rw [← e1]; simp
    | some t' =>
      rw [hq] at e1
      simp only [putD,Tr.setK_eq] at e1
      rw [← e1]
      show tget (tput TD t' (V i)) t = _
      rw [tget_put (R.dstT hd hq)]
      by_cases e : t = t'
      · subst e; simp
      · rw [if_neg e,if_neg (by simpa using Ne.symm e)]
  refine ⟨TD',h1,h2.trans H.size,h3.trans H.defers,fun j e t hj he' ht => ?_,fun t ht => ?_⟩
  · rw [hg]
    by_cases hji : j = i
    · subst hji
      rw [hd] at he'
      cases he'
      rw [if_pos ht]
    · rw [if_neg (ne j e t hji he' ht)]
      exact H.done j e t (hj.resolve_right hji) he' ht
  · rw [hg,if_neg (ht i d (.inr rfl) hd)]
    exact H.undone t fun j e hj he' => ht j e (.inl hj) he'

theorem Inv.cleC (R : Rg P call nt ops π σ dl n0 Tf Hf V L) (H : Inv P dl n0 Tf Hf V L ι0 s0 w0 a0 D a w ι TD S c) (hd : dl[i]? = some d) (hi : ¬ D i) (hk : isC d.io.op = true ∨ isA d.io.op = true) : c ≤ i := by
  rcases H.cC with rfl | ⟨k,e,rfl,h1,h2,h3⟩
  · exact Nat.zero_le _
  · rcases Nat.lt_trichotomy k i with h | rfl | h
    · exact h
    · exact absurd h3 hi
    · have := ok2_bit (R.told.two i k d e h hd h1) (.inr (.inr ⟨h2,hk⟩))
      exact absurd (H.closed k e h3 h1 i this) hi
theorem Inv.closed1 (H : Inv P dl n0 Tf Hf V L ι0 s0 w0 a0 D a w ι TD S c) (hd : dl[i]? = some d) (hm : ∀ k,d.m.testBit k = true → D k) : ∀ (j : Nat) (e : DI),And1 D i j → dl[j]? = some e → ∀ k,e.m.testBit k = true → And1 D i k := by
  intro j e hj he k hk
  rcases hj with hj | rfl
  · exact .inl (H.closed j e hj he k hk)
  · rw [hd] at he; cases he; exact .inl (hm k hk)
theorem Inv.lt1 (H : Inv P dl n0 Tf Hf V L ι0 s0 w0 a0 D a w ι TD S c) (hd : dl[i]? = some d) : ∀ j,And1 D i j → j < dl.length := fun j hj => by
  rcases hj with hj | rfl
  · exact H.lt j hj
  · exact (List.getElem?_eq_some_iff.1 hd).1

theorem Inv.still (R : Rg P call nt ops π σ dl n0 Tf Hf V L) (H : Inv P dl n0 Tf Hf V L ι0 s0 w0 a0 D a w ι TD S c) (hs : nt ≤ a0.tmps.size) (hd : dl[i]? = some d) (hi : ¬ D i) (hm : ∀ k,d.m.testBit k = true → D k)
    (hL : L i = none) (hC : isC d.io.op = false) {v' : Value} {ι' : Io} {w' : World} (hv : VR ι' (V i) v') (hp : Po P ι S w ι' S w') : ∃ ι' TD' S' c',Inv P dl n0 Tf Hf V L ι0 s0 w0 a0 (And1 D i) (a.put d.io.dst v') w' ι' TD' S' c' := by
  obtain ⟨TD',t1,t2,t3,t4,t5⟩ := H.put R hs hd hi hp.ext hv
  refine ⟨ι',TD',S,c,H.lt1 hd,H.closed1 hd hm,t1,t2,t3,t4,t5,H.cle,?_,?_,H.po.trans hp,H.n,H.bs,H.ws,?_,?_,?_,H.hnone,H.nge,H.n0le⟩
  · rcases H.cC with h | ⟨k,e,h1,h2,h3,h4⟩
    · exact .inl h
    · exact .inr ⟨k,e,h1,h2,h3,.inl h4⟩
  · intro k e hk he hc
    rcases hk with hk | rfl
    · exact H.cmax k e hk he hc
    · rw [hd] at he; cases he; rw [hC] at hc; cases hc
  · intro j lo hj hD hl
    rcases hD with hD | rfl
    · exact H.ext1 j lo hj hD hl
    · rw [hL] at hl; cases hl
  · intro b hb
    exact H.ext2 b fun j h1 h2 h3 => hb j h1 (.inl h2) h3
  · intro j hj hD
    cases hq : ι' (n0 + j) with
    | none => rfl
    | some r =>
      have := hp.newid _ _ (H.fresh j hj fun h => hD (.inl h)) hq
      have := H.nge
      omega

theorem Inv.anew (R : Rg P call nt ops π σ dl n0 Tf Hf V L) (H : Inv P dl n0 Tf Hf V L ι0 s0 w0 a0 D a w ι TD S c) (hs : nt ≤ a0.tmps.size) (hd : dl[i]? = some d) (hi : ¬ D i) (hm : ∀ k,d.m.testBit k = true → D k)
    {lo : LO} {k : Nat} {x : Obj} {f g : Nat → Value} (hL : L i = some lo) (hV : V i = f (n0 + i)) (hor : ∀ ι',Ext ι ι' → OR P ι' k lo x) (hvr : ∀ (ι' : Io) b r,ι' b = some (r,k) → VR ι' (f b) (g r)) :
    ∃ ι' TD' S' c',Inv P dl n0 Tf Hf V L ι0 s0 w0 a0 (And1 D i) (a.put d.io.dst (g w.heap.size)) { w with heap := w.heap.push x } ι' TD' S' c' := by
  have hA := R.lo hd (by rw [hL]; simp)
  have hci := H.cleC R hd hi (.inr hA)
  have hil := H.lt1 hd i (.inr rfl)
  have hlim := R.lim
  have hnge := H.nge
  obtain ⟨ι',q1,q2,q3,q4⟩ := H.po.newAt (b := n0 + i) (by have := H.n0le; omega) (by omega) (H.fresh i hil hi) hor
  have hv := hvr ι' _ _ q1
  rw [← hV] at hv
  obtain ⟨TD',t1,t2,t3,t4,t5⟩ := H.put R hs hd hi q2 hv
  have hg : ∀ b,(Tr.set DH S.h (n0 + i) (some lo)).get b = if b = n0 + i then some lo else S.h.get b := fun b => Tr.get_set DH _ _ _ b (lim_le (by omega))
  refine ⟨ι',TD',_,c,H.lt1 hd,H.closed1 hd hm,t1,t2,t3,t4,t5,H.cle,?_,?_,q4,H.n,H.bs,H.ws,?_,?_,?_,H.hnone,H.nge,H.n0le⟩
  · rcases H.cC with h | ⟨k,e,h1,h2,h3,h4⟩
    · exact .inl h
    · exact .inr ⟨k,e,h1,h2,h3,.inl h4⟩
  · intro k e hk he hc
    rcases hk with hk | rfl
    · exact H.cmax k e hk he hc
    · rw [hd] at he
      cases he
      exfalso
      cases hop : d.io.op <;> rw [hop] at hA hc <;> first | cases hA; done | cases hc; done
  · intro j lo' hj hD hl
    show (Tr.set DH S.h (n0 + i) (some lo)).get _ = _
    rw [hg]
    by_cases hji : j = i
    · subst hji; rw [if_pos rfl,← hL,hl]
    · rw [if_neg (by omega)]; exact H.ext1 j lo' hj (hD.resolve_right hji) hl
  · intro b hb
    show (Tr.set DH S.h (n0 + i) (some lo)).get b = _
    rw [hg,if_neg (hb i hci (.inr rfl) (by rw [hL]; simp))]
    exact H.ext2 b fun j h1 h2 h3 => hb j h1 (.inl h2) h3
  · intro j hj hD
    rw [q3 _ (fun e => hD (.inr (by omega)))]
    exact H.fresh j hj fun h => hD (.inl h)

theorem Inv.before (R : Rg P call nt ops π σ dl n0 Tf Hf V L) (H : Inv P dl n0 Tf Hf V L ι0 s0 w0 a0 D a w ι TD S c) (hd : dl[i]? = some d) (hi : ¬ D i) (hm : ∀ k,d.m.testBit k = true → D k) (hC : isC d.io.op = true) :
    c ≤ i ∧ S.n = (Hf i).n ∧ S.bs = (Hf i).bs ∧ S.ws = (Hf i).ws ∧ (∀ j,i ≤ j → j < dl.length → (Hf i).h.get (n0 + j) = none) ∧
    (∀ j lo,i < j → D j → L j = some lo → S.h.get (n0 + j) = some lo) ∧ ∀ b,(∀ j,i < j → D j → L j ≠ none → b ≠ n0 + j) → S.h.get b = (Hf i).h.get b := by
  have hci := H.cleC R hd hi (.inl hC)
  have hil := H.lt1 hd i (.inr rfl)
  have noC : ∀ (k : Nat) (e : DI),c ≤ k → k < i → dl[k]? = some e → isC e.io.op = false := fun k e h1 h2 he => by
    cases hq : isC e.io.op with
    | false => rfl
    | true =>
      have := ok2_bit (R.told.two k i e d h2 he hd) (.inr (.inr ⟨hC,.inl hq⟩))
      have := H.cmax k e (hm k this) he hq
      omega
  obtain ⟨b1,b2,b3,b4,b5⟩ := R.between i hci (by omega) noC
  have inD : ∀ j,c ≤ j → j < i → L j ≠ none → D j := fun j h1 h2 h3 => by
    obtain ⟨e,he⟩ : ∃ e,dl[j]? = some e := ⟨_,List.getElem?_eq_getElem (by omega)⟩
    exact hm j (ok2_bit (R.told.two j i e d h2 he hd) (.inr (.inr ⟨hC,.inr (R.lo he h3)⟩)))
  refine ⟨hci,H.n.trans b1.symm,H.bs.trans b2.symm,H.ws.trans b3.symm,fun j h1 h2 => ?_,fun j lo h1 h2 h3 => H.ext1 j lo (by omega) h2 h3,fun b hb => ?_⟩
  · rw [b5 _ fun k h3 h4 _ => by omega]
    exact H.hnone j (by omega) h2
  · by_cases hx : ∃ j,c ≤ j ∧ D j ∧ L j ≠ none ∧ b = n0 + j
    · obtain ⟨j,h1,h2,h3,rfl⟩ := hx
      cases hq : L j with
      | none => exact absurd hq h3
      | some lo =>
        rw [H.ext1 j lo h1 h2 hq]
        rcases Nat.lt_trichotomy j i with h | rfl | h
        · exact (b4 j lo h1 h hq).symm
        · exact absurd h2 hi
        · exact absurd rfl (hb j h h2 h3)
    · have hx' : ∀ j,c ≤ j → D j → L j ≠ none → b ≠ n0 + j := fun j h1 h2 h3 h4 => hx ⟨j,h1,h2,h3,h4⟩
      rw [H.ext2 b hx',b5 b fun j h1 h2 h3 => hx' j h1 (inD j h1 h2 h3) h3]

theorem Inv.cstep (R : Rg P call nt ops π σ dl n0 Tf Hf V L) (H : Inv P dl n0 Tf Hf V L ι0 s0 w0 a0 D a w ι TD S c) (hs : nt ≤ a0.tmps.size) (hd : dl[i]? = some d) (hi : ¬ D i) (hm : ∀ k,d.m.testBit k = true → D k)
    (hC : isC d.io.op = true) : WR P ι (Hf i) w ∧ ∀ (v' : Value) (ι' : Io) (w' : World),VR ι' (V i) v' → Po P ι (Hf i) w ι' (Hf (i + 1)) w' → ∃ ι' TD' S' c',Inv P dl n0 Tf Hf V L ι0 s0 w0 a0 (And1 D i) (a.put d.io.dst v') w' ι' TD' S' c' := by
  classical
  obtain ⟨hci,hn,hbs,hws,hnone,hx1,hx2⟩ := H.before R hd hi hm hC
  have hil := H.lt1 hd i (.inr rfl)
  have hlim := R.lim
  have hnge := H.nge
  let E : Nat → Option LO := fun b => if n0 ≤ b ∧ i < b - n0 ∧ D (b - n0) then L (b - n0) else none
  have hE : ∀ b,E b ≠ none → ∃ j,i < j ∧ D j ∧ L j ≠ none ∧ b = n0 + j := fun b hb => by
    have hb' : (if n0 ≤ b ∧ i < b - n0 ∧ D (b - n0) then L (b - n0) else none) ≠ none := hb
    split at hb'
    · rename_i hq; exact ⟨b - n0,hq.2.1,hq.2.2,hb',by omega⟩
    · exact absurd rfl hb'
  have hEj : ∀ j,i < j → D j → E (n0 + j) = L j := fun j h1 h2 => by
    show (if n0 ≤ n0 + j ∧ i < n0 + j - n0 ∧ D (n0 + j - n0) then L (n0 + j - n0) else none) = _
    rw [Nat.add_sub_cancel_left,if_pos ⟨by omega,h1,h2⟩]
  have hEn : ∀ b,(∀ j,i < j → D j → L j ≠ none → b ≠ n0 + j) → E b = none := fun b hb => by
    cases hq : E b with
    | none => rfl
    | some lo =>
      obtain ⟨j,h1,h2,h3,h4⟩ := hE b (by rw [hq]; simp)
      exact absurd h4 (hb j h1 h2 h3)
  have he : ∀ b,E b ≠ none → (Hf i).h.get b = none := fun b hb => by
    obtain ⟨j,h1,h2,_,rfl⟩ := hE b hb
    exact hnone j (by omega) (H.lt j h2)
  have hg : ∀ b,S.h.get b = (E b).or ((Hf i).h.get b) := fun b => by
    cases hq : E b with
    | some lo =>
      obtain ⟨j,h1,h2,h3,rfl⟩ := hE b (by rw [hq]; simp)
      rw [hEj j h1 h2] at hq
      exact hx1 j lo h1 h2 hq
    | none =>
      refine hx2 b fun j h1 h2 h3 h4 => ?_
      subst h4
      rw [hEj j h1 h2] at hq
      exact h3 hq
  have hW : WR P ι (Hf i) w := H.po.wr.less (fun b o hb => by
    rw [hg]
    cases hq : E b with
    | none => exact hb
    | some lo => rw [he b (by rw [hq]; simp)] at hb; cases hb) hn.symm hbs.symm hws.symm
  refine ⟨hW,fun v' ι' w' hv hp => ?_⟩
  obtain ⟨h',hh'⟩ := lay_blocks E n0 (Hf (i + 1)).h dl.length (fun b hb => by
    obtain ⟨j,h1,h2,_,rfl⟩ := hE b hb
    have := H.lt j h2
    omega) hlim
  have hp' := hp.more (S := S) (S' := ⟨h',(Hf (i + 1)).n,(Hf (i + 1)).bs,(Hf (i + 1)).ws⟩) E H.po.wr hg hh' he hn rfl hbs rfl hws rfl
  obtain ⟨TD',t1,t2,t3,t4,t5⟩ := H.put R hs hd hi hp.ext hv
  refine ⟨ι',TD',_,i + 1,H.lt1 hd,H.closed1 hd hm,t1,t2,t3,t4,t5,hil,.inr ⟨i,d,rfl,hd,hC,.inr rfl⟩,?_,H.po.trans hp',rfl,rfl,rfl,?_,?_,?_,?_,?_,H.n0le⟩
  · intro k e hk he' hc
    rcases hk with hk | rfl
    · have := H.cmax k e hk he' hc; omega
    · omega
  · intro j lo hj hD hl
    show h'.get _ = _
    have hD' : D j := hD.resolve_right (by omega)
    rw [hh',hEj j (by omega) hD',hl]
    rfl
  · intro b hb
    show h'.get b = _
    rw [hh',hEn b fun j h1 h2 h3 => hb j (by omega) (.inl h2) h3]
    rfl
  · intro j hj hD
    cases hq : ι' (n0 + j) with
    | none => rfl
    | some r =>
      have := hp'.newid _ _ (H.fresh j hj fun h => hD (.inl h)) hq
      omega
  · intro j h1 h2
    exact hp.dead _ (by rw [← hn]; omega) (hnone j (by omega) h2)
  · have := hp'.nle
    exact Nat.le_trans hnge this
end
end Go.Sim
namespace Go.Sim
set_option linter.all false
open Go
variable [Rho] [Asm] [SymOK]

theorem wpIn_of_value {P : Program} {l : Option Nat} {n : Nat} {o : Oper} {a : Act} {w w' : World} {v : Value} {K : Act → World → Prop} {Q : Exit → Act → World → Prop} (hd : ∀ c,o.op ≠ .defer c)
    (hr : (execOp a.eval o).run P w = .ok (.value v) w') (hK : K (a.put o.dst v) w') : o.wpIn (FW l) n P a w K Q := by
  refine ⟨fun _ _ => trivial,?_⟩
  rw [Oper.semAt_eq _ _ _ hd,hr]
  exact hK

section
variable {P : Program} {call : Value → List Value → St → Option (Value × St)} {nt : Nat} {ops : Array Oper} {π σ : Nat → Nat} {dl : List DI} {n0 : Nat} {Tf : Nat → Tm} {Hf : Nat → St} {V : Nat → Value} {L : Nat → Option LO}
  {ι0 : Io} {s0 : St} {w0 : World} {a0 : Act} {D : Nat → Prop} {a : Act} {w : World} {ι : Io} {TD : Tm} {S : St} {c i : Nat} {d : DI}

theorem Inv.reads (R : Rg P call nt ops π σ dl n0 Tf Hf V L) (H : Inv P dl n0 Tf Hf V L ι0 s0 w0 a0 D a w ι TD S c) (hd : dl[i]? = some d) (hi : ¬ D i) (hm : ∀ k,d.m.testBit k = true → D k) {o : ROp} (ho : d.io.op = .r o) (hw : wanted (Tf i) d.io.grd = true) : evR (Tf i) S.h o = some (V i) := by
  have hmem : c ∈ d.cs := by
    rcases H.cC with rfl | ⟨k,e,rfl,h1,h2,h3⟩
    · rcases R.told.cs0 i d hd with h | ⟨k,e,h1,h2,h3⟩
      · exact h
      · have := H.cmax k e (hm k h3) h1 h2; omega
    · rcases R.told.csC i d k e hd h1 h2 with h | ⟨j,e',j1,j2,j3⟩
      · exact h
      · exfalso
        rcases j3 with ⟨j3,j4⟩ | ⟨j3,j4⟩
        · have := H.cmax j e' (hm j j4) j1 j2; omega
        · have hj : D j := by
            rcases Nat.lt_or_eq_of_le j3 with h | rfl
            · exact H.closed k e h3 h1 j (ok2_bit (R.told.two j k e' e h j1 h1) (.inr (.inr ⟨h2,.inl j2⟩)))
            · exact h3
          exact hi (H.closed j e' hj j1 i j4)
  refine evR_mono (fun b x hb => ?_) (R.chk i d o hd ho hw c hmem H.cle)
  rw [H.ext2 b fun j h1 h2 h3 h4 => ?_]
  · exact hb
  · subst h4
    rw [H.hnone j h1 (H.lt j h2)] at hb
    cases hb

theorem Inv.step (hcall : CallOK P call) (R : Rg P call nt ops π σ dl n0 Tf Hf V L) (H : Inv P dl n0 Tf Hf V L ι0 s0 w0 a0 D a w ι TD S c) (hs : nt ≤ a0.tmps.size) (hd : dl[i]? = some d) (hi : ¬ D i) (hm : ∀ k,d.m.testBit k = true → D k)
    {l : Option Nat} {n : Nat} {Q : Exit → Act → World → Prop} {K : Act → World → Prop} (hK : ∀ a' w',(∃ ι' TD' S' c',Inv P dl n0 Tf Hf V L ι0 s0 w0 a0 (And1 D i) a' w' ι' TD' S' c') → K a' w') : wpOpIn (FW l) n P ops Q (π i) K a w := by
  obtain ⟨o,ho,hio⟩ := R.io i d hd
  obtain ⟨h1,h2,hop,hgd⟩ := compIO_ok hio
  obtain ⟨ag,agw,agk⟩ := agree_op (H.agree R hd hi hm)
  have hst := R.run.step i d hd
  rw [Nat.zero_add] at hst
  unfold wpOpIn
  simp only [ho]
  unfold stepD at hst
  have hgk : wanted (Tf i) d.io.grd = true ∨ gOK (Tf i) d.io.grd = true := by
    cases hwt : wanted (Tf i) d.io.grd with
    | true => exact .inl rfl
    | false =>
      rw [hwt] at hst
      simp only at hst
      cases hgk : gOK (Tf i) d.io.grd with
      | true => exact .inr rfl
      | false => rw [hgk] at hst; cases hst
  rw [wanted_ok H.tr hgd (by rw [agw,agk]; exact hgk),agw]
  cases hwt : wanted (Tf i) d.io.grd with
  | false =>
    have hgk' : gOK (Tf i) d.io.grd = true := by
      rcases hgk with h | h
      · rw [hwt] at h; cases h
      · exact h
    rw [hwt] at hst
    simp only [hgk',Option.some.injEq,Prod.mk.injEq] at hst
    obtain ⟨e1,e2,e3⟩ := hst
    rw [if_neg (by simp)]
    refine ⟨fun _ _ => trivial,hK _ _ ?_⟩
    have hu : VR ι (V i) undef := by rw [← e1]; exact undef_ok ι
    rw [← h2]
    cases hC : isC d.io.op with
    | false => exact H.still R hs hd hi hm e3.symm hC hu (Po.refl H.po.wr)
    | true =>
      obtain ⟨hW,hgo⟩ := H.cstep R hs hd hi hm hC
      refine hgo _ ι w hu ?_
      rw [← e2]
      exact Po.refl hW
  | true =>
    rw [hwt] at hst
    rw [if_pos rfl]
    have uniform : ∀ {s1 : St},WR P ι s1 w → evI call d.io TD s1 pairD = some (V i,Hf (i + 1),none) → ∃ s2,s2 = Hf (i + 1) ∧ ∀ l n,Goes P l n ι s1 w a o (V i) s2 := fun hW he => by
      obtain ⟨v,s2,hk,hgo⟩ := evI_ok hcall hop H.tr hW he
      simp only [pairD,Option.some.injEq,Prod.mk.injEq,and_true] at hk
      obtain ⟨k1,k2⟩ := hk
      subst k1
      exact ⟨s2,k2,hgo⟩
    cases hq : d.io.op with
    | p op =>
      rw [hq] at hst ag
      simp only at hst
      split at hst
      · rename_i v hv
        simp only [Option.some.injEq,Prod.mk.injEq] at hst
        obtain ⟨e1,e2,e3⟩ := hst
        have he : evI call d.io TD S pairV = some (V i,S) := by
          unfold evI
          rw [hq]
          simp only [i_p]
          rw [evP_cong ag,hv,e1]
          rfl
        obtain ⟨v1,s2,hk,hgo⟩ := evI_ok hcall hop H.tr H.po.wr he
        simp only [pairV,Option.some.injEq,Prod.mk.injEq] at hk
        obtain ⟨k1,k2⟩ := hk
        subst k1
        subst k2
        refine hgo l n _ _ fun v' ι' w' hv' hp => hK _ _ ?_
        rw [← h2]
        exact H.still R hs hd hi hm e3.symm (by rw [hq]; rfl) hv' hp
      · cases hst
    | r op =>
      rw [hq] at hst ag
      simp only at hst
      split at hst
      · rename_i v hv
        simp only [Option.some.injEq,Prod.mk.injEq] at hst
        obtain ⟨e1,e2,e3⟩ := hst
        have hrd := H.reads R hd hi hm hq hwt
        have he : evI call d.io TD S pairV = some (V i,S) := by
          unfold evI
          rw [hq]
          simp only [i_r]
          rw [evR_cong ag,hrd]
          rfl
        obtain ⟨v1,s2,hk,hgo⟩ := evI_ok hcall hop H.tr H.po.wr he
        simp only [pairV,Option.some.injEq,Prod.mk.injEq] at hk
        obtain ⟨k1,k2⟩ := hk
        subst k1
        subst k2
        refine hgo l n _ _ fun v' ι' w' hv' hp => hK _ _ ?_
        rw [← h2]
        exact H.still R hs hd hi hm e3.symm (by rw [hq]; rfl) hv' hp
      · cases hst
    | a op =>
      rw [hq] at hst ag hop
      simp only at hst
      split at hst
      · rename_i lo f hv
        rw [Tr.setK_eq] at hst
        simp only [Option.some.injEq,Prod.mk.injEq] at hst
        obtain ⟨e1,e2,e3⟩ := hst
        obtain ⟨k,x,g,hrun,hor,hvr⟩ := evA_ok (P := P) (ι := ι) (a := a) (compC1_a hop) H.tr (by rw [evA_cong ag]; exact hv)
        refine wpIn_of_value (notDefer (compC0_a hop)) (hrun w) (hK _ _ ?_)
        rw [← h2]
        exact H.anew R hs hd hi hm e3.symm e1.symm hor hvr
      · cases hst
    | w op =>
      obtain ⟨hW,hgo⟩ := H.cstep R hs hd hi hm (by rw [hq]; rfl)
      rw [hq] at hst ag
      simp only at hst
      have hlo : L i = none := by
        cases hl : L i with
        | none => rfl
        | some lo => have := R.lo hd (by rw [hl]; simp); rw [hq] at this; cases this
      obtain ⟨s2,rfl,hg2⟩ := uniform hW (by
        unfold evI
        rw [hq]
        simp only [i_w]
        rw [evW_cong ag,hst,hlo])
      refine hg2 l n _ _ fun v' ι' w' hv' hp => hK _ _ ?_
      rw [← h2]
      exact hgo v' ι' w' hv' hp
    | call f xs =>
      obtain ⟨hW,hgo⟩ := H.cstep R hs hd hi hm (by rw [hq]; rfl)
      rw [hq] at hst ag
      simp only at hst
      split at hst
      · rename_i v s1 hv
        simp only [Option.some.injEq,Prod.mk.injEq] at hst
        obtain ⟨e1,e2,e3⟩ := hst
        obtain ⟨s2,rfl,hg2⟩ := uniform hW (by
          unfold evI
          rw [hq]
          simp only [i_call]
          rw [ag f (by simp [iO]),oevs_cong fun x hx => ag x (by simp [iO,hx]),hv,e1,e2]
          rfl)
        refine hg2 l n _ _ fun v' ι' w' hv' hp => hK _ _ ?_
        rw [← h2]
        exact hgo v' ι' w' hv' hp
      · cases hst
end
end Go.Sim
namespace Go.Sim
set_option linter.all false
open Go
variable [Rho] [Asm] [SymOK]

section
variable {P : Program} {call : Value → List Value → St → Option (Value × St)} {nt : Nat} {ops : Array Oper} {π σ : Nat → Nat} {dl : List DI} {n0 : Nat} {Tf : Nat → Tm} {Hf : Nat → St} {V : Nat → Value} {L : Nat → Option LO}
  {ι0 : Io} {s0 : St} {w0 : World} {a0 : Act} {D : Nat → Prop} {a : Act} {w : World} {ι : Io} {TD : Tm} {S : St} {c i : Nat} {d : DI}

theorem Inv.all (R : Rg P call nt ops π σ dl n0 Tf Hf V L) (H : Inv P dl n0 Tf Hf V L ι0 s0 w0 a0 D a w ι TD S c) (hD : ∀ i,i < dl.length → D i) : TR ι (Tf dl.length) a.tmps ∧ Po P ι0 s0 w0 ι (Hf dl.length) w := by
  constructor
  · intro t
    have e : tget TD t = tget (Tf dl.length) t := by
      rcases R.tf t dl.length (Nat.le_refl _) with ⟨j,d,h1,h2,h3,h4⟩ | ⟨h1,h2⟩
      · rw [h4]; exact H.done j d t (hD j h1) h2 h3
      · rw [h2]; exact H.undone t fun j d hj hd => h1 j d (H.lt j hj) hd
    rw [← e]
    exact H.tr t
  · obtain ⟨b1,b2,b3,b4,b5⟩ := R.between dl.length H.cle (Nat.le_refl _) fun k d h1 h2 hd => by
      cases hq : isC d.io.op with
      | false => rfl
      | true => have := H.cmax k d (hD k h2) hd hq; omega
    refine H.po.like ⟨fun b => ?_,by rw [b1,H.n],by rw [b2,H.bs],by rw [b3,H.ws]⟩
    by_cases hx : ∃ j,c ≤ j ∧ D j ∧ L j ≠ none ∧ b = n0 + j
    · obtain ⟨j,h1,h2,h3,rfl⟩ := hx
      cases hq : L j with
      | none => exact absurd hq h3
      | some lo => rw [H.ext1 j lo h1 h2 hq,b4 j lo h1 (H.lt j h2) hq]
    · rw [H.ext2 b fun j h1 h2 h3 h4 => hx ⟨j,h1,h2,h3,h4⟩,b5 b fun j h1 h2 h3 h4 => hx ⟨j,h1,hD j h2,h3,h4⟩]

theorem bit_lt {m i k : Nat} (h : m < 2 ^ i) (hk : m.testBit k = true) : k < i := by
  refine Nat.lt_of_not_le fun hik => ?_
  rw [Nat.testBit_lt_two_pow (Nat.lt_of_lt_of_le h (Nat.pow_le_pow_right (by omega) hik))] at hk
  cases hk

theorem ready_nil (R : Rg P call nt ops π σ dl n0 Tf Hf V L) {listed : Array Bool} (hsz : listed.size = dl.length) (h : Region.ready .any ops listed = []) : ∀ i,i < dl.length → listed.getD (π i) false = true := by
  intro i
  induction i using Nat.strongRecOn with
  | _ i ih =>
    intro hi
    cases hq : listed.getD (π i) false with
    | true => rfl
    | false =>
      exfalso
      obtain ⟨d,hd⟩ : ∃ d,dl[i]? = some d := ⟨_,List.getElem?_eq_getElem hi⟩
      obtain ⟨o,ho,_⟩ := R.io i d hd
      have hmem : π i ∈ Region.ready .any ops listed := mem_ready.2 ⟨by
        have hlt : π i < listed.size := by have := R.plt i hi; omega
        simpa [Array.getD,hlt] using hq,o,ho,fun e he hb => by
        obtain ⟨hon,hb'⟩ := (R.edge i o d ho hd).1 e he hb
        have hlt := bit_lt (R.told.lt i d hd) hb'
        have := ih (σ e.on) hlt (R.plt' _ hon)
        rw [R.right] at this
        exact this⟩
      rw [h] at hmem
      cases hmem

theorem count_set : ∀ {l : List Bool} {i : Nat},l[i]? = some false → (l.set i true).countP (!·) + 1 = l.countP (!·)
  | [],i,h => by simp at h
  | b :: l,i,h => by
    cases i with
    | zero => simp at h; subst h; simp
    | succ i =>
      have := count_set (l := l) (i := i) (by simpa using h)
      simp only [List.set_cons_succ,List.countP_cons]
      omega
theorem count_zero : ∀ {l : List Bool},l.countP (!·) = 0 → ∀ (i : Nat),i < l.length → l[i]? = some true
  | [],_,i,h => by simp at h
  | b :: l,h,i,hi => by
    simp only [List.countP_cons] at h
    cases i with
    | zero => cases b <;> simp_all
    | succ i => simpa using count_zero (l := l) (by omega) i (by simpa using hi)

theorem any_ok (hcall : CallOK P call) (R : Rg P call nt ops π σ dl n0 Tf Hf V L) (hs : nt ≤ a0.tmps.size) {l : Option Nat} {n : Nat} {Q : Exit → Act → World → Prop}
    (hQ : ∀ a' ι' w',TR ι' (Tf dl.length) a'.tmps → a'.tmps.size = a0.tmps.size → a'.defers = a0.defers → Po P ι0 s0 w0 ι' (Hf dl.length) w' → Q .normal a' w') :
    ∀ (fuel : Nat) (listed : Array Bool) (a : Act) (w : World),listed.size = dl.length → listed.toList.countP (!·) ≤ fuel → (∃ ι TD S c,Inv P dl n0 Tf Hf V L ι0 s0 w0 a0 (fun i => listed.getD (π i) false = true) a w ι TD S c) →
    wpAnyIn (FW l) n P .any ops Q fuel listed a w := by
  have fin : ∀ (listed : Array Bool) (a : Act) (w : World),(∀ i,i < dl.length → listed.getD (π i) false = true) → (∃ ι TD S c,Inv P dl n0 Tf Hf V L ι0 s0 w0 a0 (fun i => listed.getD (π i) false = true) a w ι TD S c) → Q .normal a w := by
    rintro listed a w hall ⟨ι,TD,S,c,H⟩
    obtain ⟨h1,h2⟩ := H.all R hall
    exact hQ a ι w h1 H.size H.defers h2
  intro fuel
  induction fuel with
  | zero =>
    intro listed a w hsz hc hI
    have hall : ∀ i,i < dl.length → listed.getD (π i) false = true := fun i hi => by
      have := count_zero (Nat.le_zero.1 hc) (π i) (by have := R.plt i hi; simp; omega)
      simp only [Array.getElem?_toList] at this
      simp [this]
    refine ⟨?_,fin listed a w hall hI⟩
    cases hr : Region.ready .any ops listed with
    | nil => rfl
    | cons i r =>
      have hmem : i ∈ Region.ready .any ops listed := by rw [hr]; simp
      obtain ⟨h0,o,ho,_⟩ := mem_ready.1 hmem
      have hi : i < dl.length := by rw [R.len]; exact (Array.getElem?_eq_some_iff.1 ho).1
      have := hall (σ i) (R.plt' i hi)
      rw [R.right] at this
      have hlt : i < listed.size := by omega
      simp [Array.getD,hlt] at h0 this
      rw [h0] at this
      cases this
  | succ fuel ih =>
    intro listed a w hsz hc hI
    refine ⟨fun hr => fin listed a w (ready_nil R hsz hr) hI,fun i hmem => ?_⟩
    obtain ⟨ι,TD,S,c,H⟩ := hI
    obtain ⟨h0,o,ho,hall⟩ := mem_ready.1 hmem
    have hi : i < dl.length := by rw [R.len]; exact (Array.getElem?_eq_some_iff.1 ho).1
    obtain ⟨d,hd⟩ : ∃ d,dl[σ i]? = some d := ⟨_,List.getElem?_eq_getElem (R.plt' i hi)⟩
    have ho' : ops[π (σ i)]? = some o := by rw [R.right]; exact ho
    have hlt : i < listed.size := by omega
    have hq : listed[i]? = some false := by simp [Array.getD,hlt] at h0; simp [hlt,h0]
    have hnD : ¬ listed.getD (π (σ i)) false = true := by rw [R.right]; simp [hq]
    have hm : ∀ k,d.m.testBit k = true → listed.getD (π k) false = true := fun k hk => by
      obtain ⟨e,he,hb,h⟩ := (R.edge (σ i) o d ho' hd).2 k hk
      have := hall e he hb
      rcases h with rfl | ⟨d',hd',hk'⟩
      · rw [R.right]; exact this
      · exact H.closed (σ e.on) d' (by rw [R.right]; exact this) hd' k hk'
    have hstep := H.step hcall R hs hd hnD hm (l := l) (n := n) (Q := Q) (K := wpAnyIn (FW l) n P .any ops Q fuel (listed.setIfInBounds i true)) fun a' w' hI' => ih _ a' w' (by simpa using hsz) ?_ ?_
    · rw [R.right] at hstep; exact hstep
    · have := count_set (l := listed.toList) (i := i) (by simpa using hq)
      simp only [Array.toList_setIfInBounds]
      omega
    · have e : (fun j => (listed.setIfInBounds i true).getD (π j) false = true) = And1 (fun j => listed.getD (π j) false = true) (σ i) := by
        funext j
        apply propext
        by_cases hji : i = π j
        · have hj : j = σ i := by rw [hji,R.left]
          subst hj
          rw [R.right]
          simp [And1,hlt]
        · have hj : j ≠ σ i := fun e => hji (by rw [e,R.right])
          rw [getD_set_ne false hji]
          simp [And1,hj]
      rw [e]
      exact hI'

theorem compOps_ok {nt : Nat} {ops : Array Oper} : ∀ {rs : List Oper} {il : List Ins},compOps P nt ops rs = some il → il.length = rs.length ∧ ∀ (i : Nat) (io : Ins),il[i]? = some io → ∃ o,rs[i]? = some o ∧ compIO P nt ops o = some io
  | [],il,h => by simp only [compOps,Option.some.injEq] at h; subst h; exact ⟨rfl,fun i io h => by simp at h⟩
  | o :: rs,il,h => by
    simp only [compOps] at h
    split at h
    · cases h
    · rename_i io hio
      split at h
      · cases h
      · rename_i r hr
        cases h
        obtain ⟨q1,q2⟩ := compOps_ok hr
        refine ⟨by simp [q1],fun i io' hi => ?_⟩
        cases i with
        | zero => simp at hi; subst hi; exact ⟨o,by simp,hio⟩
        | succ i => simpa using q2 i io' (by simpa using hi)

theorem evDraw_k {β : Type} (call : Value → List Value → St → Option (Value × St)) (l : List DI) (T : Tm) (s : St) (k : Tm → St → Option β) : evDraw call l T s k = (evDraw call l T s pairT).bind fun p => k p.1 p.2 := by
  unfold evDraw
  split
  · rfl
  · split
    · rfl
    · split <;> rfl

theorem draw_ok (hm : P.follows .mixedOrders = true) (hcall : CallOK P call) {il : List Ins} (h1 : compOps P nt ops ops.toList = some il) (h2 : drawA (il.zip (CheckFast.beforeL ops.toList 0 [])) = some dl)
    {T T2 : Tm} {s s2 : St} {a : Act} {w : World} {ι : Io} (he : evDraw call dl T s pairT = some (T2,s2)) (hT : TR ι T a.tmps) (hs : nt ≤ a.tmps.size) (hW : WR P ι s w) {bid : Nat} {l : Option Nat} {n : Nat} {Q : Exit → Act → World → Prop}
    (hQ : ∀ a' ι' w',TR ι' T2 a'.tmps → a'.tmps.size = a.tmps.size → a'.defers = a.defers → Po P ι s w ι' s2 w' → Q .normal a' w') : (Code.region bid ops true).wpIn (FW l) n P Q a w := by
  unfold evDraw at he
  split at he
  · cases he
  · rename_i hlim
    have hlim := Nat.le_of_ble_eq_true hlim
    split at he
    · cases he
    · rename_i rs T2' s2' hev
      split at he
      · rename_i hre
        simp only [pairT,Option.some.injEq,Prod.mk.injEq] at he
        obtain ⟨rfl,rfl⟩ := he
        obtain ⟨π,σ,Y⟩ := drawA_ok h2
        obtain ⟨c1,c2⟩ := compOps_ok h1
        obtain ⟨b1,b2⟩ := before_ok (ops := ops) rfl
        obtain ⟨Tf,Hf,V,L,hrun,t0,hf0,tN,hN,hrl,hrs⟩ := evD_ok hev
        rw [lenD_ok] at hlim hf0
        have hzl : (il.zip (CheckFast.beforeL ops.toList 0 [])).length = ops.size := by rw [List.length_zip,c1,b1]; simp
        have hlen : dl.length = ops.size := Y.len.trans hzl
        have two : ∀ (i : Nat) (d : DI),dl[i]? = some d → ∃ m,il[π i]? = some d.io ∧ (CheckFast.beforeL ops.toList 0 [])[π i]? = some m ∧ m < 2 ^ ops.size ∧ ∀ k,d.m.testBit k = (decide (k < ops.size) && m.testBit (π k)) := fun i d hd => by
          obtain ⟨m,h1,h2,h3⟩ := Y.get i d hd
          rw [List.getElem?_zip_eq_some] at h1
          rw [hzl] at h2
          simp only [hzl] at h3
          exact ⟨m,h1.1,h1.2,h2,h3⟩
        have R : Rg P call nt ops π σ dl s.n Tf Hf V L := {
          told := Y.told
          len := hlen
          left := Y.left
          right := Y.right
          plt := fun i hi => by have := Y.lt i (by omega); omega
          plt' := fun i hi => by have := Y.lt' i (by omega); omega
          io := fun i d hd => by
            obtain ⟨m,h1,_⟩ := two i d hd
            obtain ⟨o,ho,hc⟩ := c2 (π i) d.io h1
            exact ⟨o,by rw [← Array.getElem?_toList]; exact ho,hc⟩
          edge := fun i o d ho hd => by
            obtain ⟨m,h1,h2,hm2,hbit⟩ := two i d hd
            obtain ⟨e1,e2⟩ := b2 (π i) o m ho h2
            constructor
            · intro e he hb
              have hbt := e1 e he hb
              have hon : e.on < ops.size := bit_lt hm2 hbt
              have hs' := Y.lt' e.on (by omega)
              refine ⟨by omega,?_⟩
              rw [hbit,Y.right,hbt]
              simp; omega
            · intro k hk
              rw [hbit] at hk
              simp only [Bool.and_eq_true,decide_eq_true_eq] at hk
              obtain ⟨hkn,hk⟩ := hk
              obtain ⟨e,he,hb,h⟩ := e2 (π k) hk
              refine ⟨e,he,hb,?_⟩
              rcases h with h | ⟨m',hm',hk'⟩
              · left; rw [h,Y.left]
              · right
                have hon : e.on < ops.size := by rw [← b1]; exact (List.getElem?_eq_some_iff.1 hm').1
                have hs' := Y.lt' e.on (by omega)
                have hlt : σ e.on < dl.length := by omega
                refine ⟨dl[σ e.on],List.getElem?_eq_getElem hlt,?_⟩
                obtain ⟨m2,_,g2,_,g4⟩ := two _ _ (List.getElem?_eq_getElem hlt)
                rw [Y.right,hm'] at g2
                cases g2
                rw [g4,hk']
                simp [hkn]
          run := hrun
          chk := fun i d o hd ho hw p hp hpl => by
            have hlt : i < rs.length := by rw [hrl]; exact (List.getElem?_eq_some_iff.1 hd).1
            have hri := List.getElem?_eq_getElem hlt
            obtain ⟨r1,r2,r3⟩ := hrs i _ hri
            have := recheck_ok hre i d _ o hd hri ho (by rw [r1]; exact hw) p hp
            rw [r1,r3] at this
            have hh := hAt_ok (h2 := s2'.h) (N := dl.length) (Hf := Hf) (by rw [hN]) (rs := rs) (k := 0) (by omega) (fun j r hj => by rw [Nat.zero_add]; exact (hrs j r hj).2.1) p (by omega)
            rw [Nat.zero_add] at hh
            rw [hh] at this
            exact this
          lim := hlim }
        refine wpIn_region_any hm ?_
        have h0 : (Array.replicate ops.size false).toList.countP (!·) ≤ ops.size := by
          refine Nat.le_trans List.countP_le_length ?_
          simp
        refine any_ok (a0 := a) (ι0 := ι) (s0 := s) (w0 := w) hcall R hs (fun a' ι' w' q1 q2 q3 q4 => ?_) ops.size _ a _ (by simp [hlen]) h0 ?_
        · rw [tN] at q1
          rw [hN] at q4
          exact hQ a' ι' w' q1 q2 q3 q4
        · have e : (fun i => (Array.replicate ops.size false).getD (π i) false = true) = fun _ => False := by
            funext i
            apply propext
            by_cases h : π i < ops.size <;> simp [Array.getD,h]
          rw [e]
          have none_ : ∀ j,ι (s.n + j) = none := fun j => by
            cases hq : ι (s.n + j) with
            | none => rfl
            | some r => have := hW.dom _ _ hq; omega
          have noneh : ∀ j,s.h.get (s.n + j) = none := fun j => by
            cases hq : s.h.get (s.n + j) with
            | none => rfl
            | some o =>
              obtain ⟨r,c,x,q1,_⟩ := hW.obj _ _ hq
              rw [none_] at q1
              cases q1
          have hp1 := Po.keep hW (n := s.n + dl.length) (Nat.le_add_right _ _) hlim
          have hp2 := hp1.trans (Po.draw hp1.wr (w.drawn + 1))
          refine ⟨ι,T,Hf 0,0,⟨fun i h => h.elim,fun i d h => h.elim,hT,rfl,rfl,fun i d t h => h.elim,fun t _ => by rw [t0],Nat.zero_le _,.inl rfl,fun k d h => h.elim,?_,rfl,rfl,rfl,fun j lo _ h => h.elim,fun b _ => rfl,fun j _ _ => none_ j,fun j _ _ => ?_,?_,Nat.le_refl _⟩⟩
          · rw [hf0]; exact hp2
          · rw [hf0]; exact noneh j
          · rw [hf0]; exact Nat.le_refl _
      · cases he
end
end Go.Sim
