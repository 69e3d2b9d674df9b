/- Part 27 of the proof: SimT6, SimQ, SimU, SimW. -/
import Derived.Test.YtadmcafbffjjbaaE26
namespace Go.Sim
set_option linter.all false
open Go
variable [Rho] [Asm] [SymOK]

section
variable {P : Program} {call : Value → List Value → St → Option (Value × St)} {nt : Nat} {ops : Array Oper} {π σ : Nat → Nat} {dl : List DI} {n0 : Nat} {Tf : Nat → Tm} {Hf : Nat → St} {V : Nat → Value} {L : Nat → Option LO}
  {ι0 : Io} {s0 : St} {w0 : World} {a0 : Act} {D : Nat → Prop} {a : Act} {w : World} {ι : Io} {TD : Tm} {S : St} {c i : Nat} {d : DI}

theorem Inv.all (R : Rg P call nt ops π σ dl n0 Tf Hf V L) (H : Inv P dl n0 Tf Hf V L ι0 s0 w0 a0 D a w ι TD S c) (hD : ∀ i,i < dl.length → D i) : TR ι (Tf dl.length) a.tmps ∧ Po P ι0 s0 w0 ι (Hf dl.length) w := by
  constructor
  · intro t
    have e : tget TD t = tget (Tf dl.length) t := by
      rcases R.tf t dl.length (Nat.le_refl _) with ⟨j,d,h1,h2,h3,h4⟩ | ⟨h1,h2⟩
      · rw [h4]; exact H.done j d t (hD j h1) h2 h3
      · rw [h2]; exact H.undone t fun j d hj hd => h1 j d (H.lt j hj) hd
    rw [← e]
    exact H.tr t
  · obtain ⟨b1,b2,b3,b4,b5⟩ := R.between dl.length H.cle (Nat.le_refl _) fun k d h1 h2 hd => by
      cases hq : isC d.io.op with
      | false => rfl
      | true => have := H.cmax k d (hD k h2) hd hq; omega
    refine H.po.like ⟨fun b => ?_,by rw [b1,H.n],by rw [b2,H.bs],by rw [b3,H.ws]⟩
    by_cases hx : ∃ j,c ≤ j ∧ D j ∧ L j ≠ none ∧ b = n0 + j
    · obtain ⟨j,h1,h2,h3,rfl⟩ := hx
      cases hq : L j with
      | none => exact absurd hq h3
      | some lo => rw [H.ext1 j lo h1 h2 hq,b4 j lo h1 (H.lt j h2) hq]
    · rw [H.ext2 b fun j h1 h2 h3 h4 => hx ⟨j,h1,h2,h3,h4⟩,b5 b fun j h1 h2 h3 h4 => hx ⟨j,h1,hD j h2,h3,h4⟩]

theorem bit_lt {m i k : Nat} (h : m < 2 ^ i) (hk : m.testBit k = true) : k < i := by
  refine Nat.lt_of_not_le fun hik => ?_
  rw [Nat.testBit_lt_two_pow (Nat.lt_of_lt_of_le h (Nat.pow_le_pow_right (by omega) hik))] at hk
  cases hk

theorem ready_nil (R : Rg P call nt ops π σ dl n0 Tf Hf V L) {listed : Array Bool} (hsz : listed.size = dl.length) (h : Region.ready .any ops listed = []) : ∀ i,i < dl.length → listed.getD (π i) false = true := by
  intro i
  induction i using Nat.strongRecOn with
  | _ i ih =>
    intro hi
    cases hq : listed.getD (π i) false with
    | true => rfl
    | false =>
      exfalso
      obtain ⟨d,hd⟩ : ∃ d,dl[i]? = some d := ⟨_,List.getElem?_eq_getElem hi⟩
      obtain ⟨o,ho,_⟩ := R.io i d hd
      have hmem : π i ∈ Region.ready .any ops listed := mem_ready.2 ⟨by
        have hlt : π i < listed.size := by have := R.plt i hi; omega
        simpa [Array.getD,hlt] using hq,o,ho,fun e he hb => by
        obtain ⟨hon,hb'⟩ := (R.edge i o d ho hd).1 e he hb
        have hlt := bit_lt (R.told.lt i d hd) hb'
        have := ih (σ e.on) hlt (R.plt' _ hon)
        rw [R.right] at this
        exact this⟩
      rw [h] at hmem
      cases hmem

theorem count_set : ∀ {l : List Bool} {i : Nat},l[i]? = some false → (l.set i true).countP (!·) + 1 = l.countP (!·)
  | [],i,h => by simp at h
  | b :: l,i,h => by
    cases i with
    | zero => simp at h; subst h; simp
    | succ i =>
      have := count_set (l := l) (i := i) (by simpa using h)
      simp only [List.set_cons_succ,List.countP_cons]
      omega
theorem count_zero : ∀ {l : List Bool},l.countP (!·) = 0 → ∀ (i : Nat),i < l.length → l[i]? = some true
  | [],_,i,h => by simp at h
  | b :: l,h,i,hi => by
    simp only [List.countP_cons] at h
    cases i with
    | zero => cases b <;> simp_all
    | succ i => simpa using count_zero (l := l) (by omega) i (by simpa using hi)

theorem any_ok (hcall : CallOK P call) (R : Rg P call nt ops π σ dl n0 Tf Hf V L) (hs : nt ≤ a0.tmps.size) {l : Option Nat} {n : Nat} {Q : Exit → Act → World → Prop}
    (hQ : ∀ a' ι' w',TR ι' (Tf dl.length) a'.tmps → a'.tmps.size = a0.tmps.size → a'.defers = a0.defers → Po P ι0 s0 w0 ι' (Hf dl.length) w' → Q .normal a' w') :
    ∀ (fuel : Nat) (listed : Array Bool) (a : Act) (w : World),listed.size = dl.length → listed.toList.countP (!·) ≤ fuel → (∃ ι TD S c,Inv P dl n0 Tf Hf V L ι0 s0 w0 a0 (fun i => listed.getD (π i) false = true) a w ι TD S c) →
    wpAnyIn (FW l) n P .any ops Q fuel listed a w := by
  have fin : ∀ (listed : Array Bool) (a : Act) (w : World),(∀ i,i < dl.length → listed.getD (π i) false = true) → (∃ ι TD S c,Inv P dl n0 Tf Hf V L ι0 s0 w0 a0 (fun i => listed.getD (π i) false = true) a w ι TD S c) → Q .normal a w := by
    rintro listed a w hall ⟨ι,TD,S,c,H⟩
    obtain ⟨h1,h2⟩ := H.all R hall
    exact hQ a ι w h1 H.size H.defers h2
  intro fuel
  induction fuel with
  | zero =>
    intro listed a w hsz hc hI
    have hall : ∀ i,i < dl.length → listed.getD (π i) false = true := fun i hi => by
      have := count_zero (Nat.le_zero.1 hc) (π i) (by have := R.plt i hi; simp; omega)
      simp only [Array.getElem?_toList] at this
      simp [this]
    refine ⟨?_,fin listed a w hall hI⟩
    cases hr : Region.ready .any ops listed with
    | nil => rfl
    | cons i r =>
      have hmem : i ∈ Region.ready .any ops listed := by rw [hr]; simp
      obtain ⟨h0,o,ho,_⟩ := mem_ready.1 hmem
      have hi : i < dl.length := by rw [R.len]; exact (Array.getElem?_eq_some_iff.1 ho).1
      have := hall (σ i) (R.plt' i hi)
      rw [R.right] at this
      have hlt : i < listed.size := by omega
      simp [Array.getD,hlt] at h0 this
      rw [h0] at this
      cases this
  | succ fuel ih =>
    intro listed a w hsz hc hI
    refine ⟨fun hr => fin listed a w (ready_nil R hsz hr) hI,fun i hmem => ?_⟩
    obtain ⟨ι,TD,S,c,H⟩ := hI
    obtain ⟨h0,o,ho,hall⟩ := mem_ready.1 hmem
    have hi : i < dl.length := by rw [R.len]; exact (Array.getElem?_eq_some_iff.1 ho).1
    obtain ⟨d,hd⟩ : ∃ d,dl[σ i]? = some d := ⟨_,List.getElem?_eq_getElem (R.plt' i hi)⟩
    have ho' : ops[π (σ i)]? = some o := by rw [R.right]; exact ho
    have hlt : i < listed.size := by omega
    have hq : listed[i]? = some false := by simp [Array.getD,hlt] at h0; simp [hlt,h0]
    have hnD : ¬ listed.getD (π (σ i)) false = true := by rw [R.right]; simp [hq]
    have hm : ∀ k,d.m.testBit k = true → listed.getD (π k) false = true := fun k hk => by
      obtain ⟨e,he,hb,h⟩ := (R.edge (σ i) o d ho' hd).2 k hk
      have := hall e he hb
      rcases h with rfl | ⟨d',hd',hk'⟩
      · rw [R.right]; exact this
      · exact H.closed (σ e.on) d' (by rw [R.right]; exact this) hd' k hk'
    have hstep := H.step hcall R hs hd hnD hm (l := l) (n := n) (Q := Q) (K := wpAnyIn (FW l) n P .any ops Q fuel (listed.setIfInBounds i true)) fun a' w' hI' => ih _ a' w' (by simpa using hsz) ?_ ?_
    · rw [R.right] at hstep; exact hstep
    · have := count_set (l := listed.toList) (i := i) (by simpa using hq)
      simp only [Array.toList_setIfInBounds]
      omega
    · have e : (fun j => (listed.setIfInBounds i true).getD (π j) false = true) = And1 (fun j => listed.getD (π j) false = true) (σ i) := by
        funext j
        apply propext
        by_cases hji : i = π j
        · have hj : j = σ i := by rw [hji,R.left]
          subst hj
          rw [R.right]
          simp [And1,hlt]
        · have hj : j ≠ σ i := fun e => hji (by rw [e,R.right])
          rw [getD_set_ne false hji]
          simp [And1,hj]
      rw [e]
      exact hI'

theorem compOps_ok {nt : Nat} {ops : Array Oper} : ∀ {rs : List Oper} {il : List Ins},compOps P nt ops rs = some il → il.length = rs.length ∧ ∀ (i : Nat) (io : Ins),il[i]? = some io → ∃ o,rs[i]? = some o ∧ compIO P nt ops o = some io
  | [],il,h => by simp only [compOps,Option.some.injEq] at h; subst h; exact ⟨rfl,fun i io h => by simp at h⟩
  | o :: rs,il,h => by
    simp only [compOps] at h
    split at h
    · cases h
    · rename_i io hio
      split at h
      · cases h
      · rename_i r hr
        cases h
        obtain ⟨q1,q2⟩ := compOps_ok hr
        refine ⟨by simp [q1],fun i io' hi => ?_⟩
        cases i with
        | zero => simp at hi; subst hi; exact ⟨o,by simp,hio⟩
        | succ i => simpa using q2 i io' (by simpa using hi)

theorem evDraw_k {β : Type} (call : Value → List Value → St → Option (Value × St)) (l : List DI) (T : Tm) (s : St) (k : Tm → St → Option β) : evDraw call l T s k = (evDraw call l T s pairT).bind fun p => k p.1 p.2 := by
  unfold evDraw
  split
  · rfl
  · split
    · rfl
    · split <;> rfl

theorem draw_ok (hm : P.follows .mixedOrders = true) (hcall : CallOK P call) {il : List Ins} (h1 : compOps P nt ops ops.toList = some il) (h2 : drawA (il.zip (CheckFast.beforeL ops.toList 0 [])) = some dl)
    {T T2 : Tm} {s s2 : St} {a : Act} {w : World} {ι : Io} (he : evDraw call dl T s pairT = some (T2,s2)) (hT : TR ι T a.tmps) (hs : nt ≤ a.tmps.size) (hW : WR P ι s w) {bid : Nat} {l : Option Nat} {n : Nat} {Q : Exit → Act → World → Prop}
    (hQ : ∀ a' ι' w',TR ι' T2 a'.tmps → a'.tmps.size = a.tmps.size → a'.defers = a.defers → Po P ι s w ι' s2 w' → Q .normal a' w') : (Code.region bid ops true).wpIn (FW l) n P Q a w := by
  unfold evDraw at he
  split at he
  · cases he
  · rename_i hlim
    have hlim := Nat.le_of_ble_eq_true hlim
    split at he
    · cases he
    · rename_i rs T2' s2' hev
      split at he
      · rename_i hre
        simp only [pairT,Option.some.injEq,Prod.mk.injEq] at he
        obtain ⟨rfl,rfl⟩ := he
        obtain ⟨π,σ,Y⟩ := drawA_ok h2
        obtain ⟨c1,c2⟩ := compOps_ok h1
        obtain ⟨b1,b2⟩ := before_ok (ops := ops) rfl
        obtain ⟨Tf,Hf,V,L,hrun,t0,hf0,tN,hN,hrl,hrs⟩ := evD_ok hev
        rw [lenD_ok] at hlim hf0
        have hzl : (il.zip (CheckFast.beforeL ops.toList 0 [])).length = ops.size := by rw [List.length_zip,c1,b1]; simp
        have hlen : dl.length = ops.size := Y.len.trans hzl
        have two : ∀ (i : Nat) (d : DI),dl[i]? = some d → ∃ m,il[π i]? = some d.io ∧ (CheckFast.beforeL ops.toList 0 [])[π i]? = some m ∧ m < 2 ^ ops.size ∧ ∀ k,d.m.testBit k = (decide (k < ops.size) && m.testBit (π k)) := fun i d hd => by
          obtain ⟨m,h1,h2,h3⟩ := Y.get i d hd
          rw [List.getElem?_zip_eq_some] at h1
          rw [hzl] at h2
          simp only [hzl] at h3
          exact ⟨m,h1.1,h1.2,h2,h3⟩
        have R : Rg P call nt ops π σ dl s.n Tf Hf V L := {
          told := Y.told
          len := hlen
          left := Y.left
          right := Y.right
          plt := fun i hi => by have := Y.lt i (by omega); omega
          plt' := fun i hi => by have := Y.lt' i (by omega); omega
          io := fun i d hd => by
            obtain ⟨m,h1,_⟩ := two i d hd
            obtain ⟨o,ho,hc⟩ := c2 (π i) d.io h1
            exact ⟨o,by rw [← Array.getElem?_toList]; exact ho,hc⟩
          edge := fun i o d ho hd => by
            obtain ⟨m,h1,h2,hm2,hbit⟩ := two i d hd
            obtain ⟨e1,e2⟩ := b2 (π i) o m ho h2
            constructor
            · intro e he hb
              have hbt := e1 e he hb
              have hon : e.on < ops.size := bit_lt hm2 hbt
              have hs' := Y.lt' e.on (by omega)
              refine ⟨by omega,?_⟩
              rw [hbit,Y.right,hbt]
              simp; omega
            · intro k hk
              rw [hbit] at hk
              simp only [Bool.and_eq_true,decide_eq_true_eq] at hk
              obtain ⟨hkn,hk⟩ := hk
              obtain ⟨e,he,hb,h⟩ := e2 (π k) hk
              refine ⟨e,he,hb,?_⟩
              rcases h with h | ⟨m',hm',hk'⟩
              · left; rw [h,Y.left]
              · right
                have hon : e.on < ops.size := by rw [← b1]; exact (List.getElem?_eq_some_iff.1 hm').1
                have hs' := Y.lt' e.on (by omega)
                have hlt : σ e.on < dl.length := by omega
                refine ⟨dl[σ e.on],List.getElem?_eq_getElem hlt,?_⟩
                obtain ⟨m2,_,g2,_,g4⟩ := two _ _ (List.getElem?_eq_getElem hlt)
                rw [Y.right,hm'] at g2
                cases g2
                rw [g4,hk']
                simp [hkn]
          run := hrun
          chk := fun i d o hd ho hw p hp hpl => by
            have hlt : i < rs.length := by rw [hrl]; exact (List.getElem?_eq_some_iff.1 hd).1
            have hri := List.getElem?_eq_getElem hlt
            obtain ⟨r1,r2,r3⟩ := hrs i _ hri
            have := recheck_ok hre i d _ o hd hri ho (by rw [r1]; exact hw) p hp
            rw [r1,r3] at this
            have hh := hAt_ok (h2 := s2'.h) (N := dl.length) (Hf := Hf) (by rw [hN]) (rs := rs) (k := 0) (by omega) (fun j r hj => by rw [Nat.zero_add]; exact (hrs j r hj).2.1) p (by omega)
            rw [Nat.zero_add] at hh
            rw [hh] at this
            exact this
          lim := hlim }
        refine wpIn_region_any hm ?_
        have h0 : (Array.replicate ops.size false).toList.countP (!·) ≤ ops.size := by
          refine Nat.le_trans List.countP_le_length ?_
          simp
        refine any_ok (a0 := a) (ι0 := ι) (s0 := s) (w0 := w) hcall R hs (fun a' ι' w' q1 q2 q3 q4 => ?_) ops.size _ a _ (by simp [hlen]) h0 ?_
        · rw [tN] at q1
          rw [hN] at q4
          exact hQ a' ι' w' q1 q2 q3 q4
        · have e : (fun i => (Array.replicate ops.size false).getD (π i) false = true) = fun _ => False := by
            funext i
            apply propext
            by_cases h : π i < ops.size <;> simp [Array.getD,h]
          rw [e]
          have none_ : ∀ j,ι (s.n + j) = none := fun j => by
            cases hq : ι (s.n + j) with
            | none => rfl
            | some r => have := hW.dom _ _ hq; omega
          have noneh : ∀ j,s.h.get (s.n + j) = none := fun j => by
            cases hq : s.h.get (s.n + j) with
            | none => rfl
            | some o =>
              obtain ⟨r,c,x,q1,_⟩ := hW.obj _ _ hq
              rw [none_] at q1
              cases q1
          have hp1 := Po.keep hW (n := s.n + dl.length) (Nat.le_add_right _ _) hlim
          have hp2 := hp1.trans (Po.draw hp1.wr (w.drawn + 1))
          refine ⟨ι,T,Hf 0,0,⟨fun i h => h.elim,fun i d h => h.elim,hT,rfl,rfl,fun i d t h => h.elim,fun t _ => by rw [t0],Nat.zero_le _,.inl rfl,fun k d h => h.elim,?_,rfl,rfl,rfl,fun j lo _ h => h.elim,fun b _ => rfl,fun j _ _ => none_ j,fun j _ _ => ?_,?_,Nat.le_refl _⟩⟩
          · rw [hf0]; exact hp2
          · rw [hf0]; exact noneh j
          · rw [hf0]; exact Nat.le_refl _
      · cases he
end
end Go.Sim
namespace Go.Sim
set_option linter.all false
open Go
variable [Rho] [Asm] [SymOK]

section
variable {P : Program}

theorem Post.then {P : Program} {ι ι' : Io} {s s' : St} {w w' : World} {a a' : Act} {cf : Cf} {Q : Exit → Act → World → Prop} (h : Post P ι s w a cf Q) (hp : Po P ι s w ι' s' w') (hs : a'.tmps.size = a.tmps.size) : Post P ι' s' w' a' cf Q :=
  fun a2 ι2 w2 h1 h2 h3 h4 => h a2 ι2 w2 h1 (h2.trans hs) (hp.trans h3) (by rw [← hp.bs]; exact h4)

theorem startL_ok {ι : Io} {s s2 : St} {w : World} {rnd l : Option Nat} {ds ds' : List Nat} {lb : Nat} {lo : LO} {fn : FuncId} {tmps : Array Value} {params : Array Tmp} {assign body : Code} {defers : List Deferred}
    (he : startL rnd ds s lo = some (ds',lb,s2)) (hn : Nat.succ s.n < limH) (hW : WR P ι s w) (hrd : RdOK ι rnd l) (hds : DsOK ι s.bs ds defers)
    (ho : ∀ (ι' : Io) (d : Nat),Ext ι ι' → OR P ι' 0 lo (.loop { state := .ready,pending := none,fn,tmps,params,assign,body,defers := d })) :
    ∃ r mark ι' w',(Instr.enterLoop fn tmps params assign body l).run P w = .ok (r,mark) w' ∧ Po P ι s w ι' s2 w' ∧ ι' lb = some (r,0) ∧ DsOK ι' s.bs ds' (mark ++ defers) := by
  unfold startL at he
  cases rnd with
  | none =>
    have hl : l = none := hrd
    subst hl
    simp only [St.newK_eq,Option.some.injEq,Prod.mk.injEq] at he
    obtain ⟨rfl,rfl,rfl⟩ := he
    obtain ⟨ι1,h1,hp1⟩ := Po.new hW (c := 0) (o := .defd true) (x := .deferred (some [])) (Nat.lt_of_succ_lt hn) (fun _ _ => rfl)
    obtain ⟨ι2,h2,hp2⟩ := Po.new hp1.wr (c := 0) (o := lo) (x := .loop { state := .ready,pending := none,fn,tmps,params,assign,body,defers := w.heap.size }) hn (fun ι' he => ho ι' _ (hp1.ext.trans he))
    refine ⟨_,[{ target := .collected w.heap.size,args := #[] }],ι2,_,?_,hp1.trans hp2,h2,.cons (hp2.ext _ _ h1) hW.bsn (hds.mono (hp1.trans hp2).ext)⟩
    simp [Instr.enterLoop]
    rfl
  | some b =>
    obtain ⟨r,c,hb,rfl⟩ := hrd
    simp only at he
    split at he
    · rename_i st pend T ps asg bd hget
      simp only [St.newK_eq,Option.some.injEq,Prod.mk.injEq] at he
      obtain ⟨rfl,rfl,rfl⟩ := he
      obtain ⟨r',c',x,e1,e2,lp,nt,rfl,e3⟩ := hW.obj _ _ hget
      rw [hb] at e1
      cases e1
      have hgo : (getObj r).run P w = .ok (.loop lp) w := getObj_run e2 (fun _ _ _ h => by cases h)
      obtain ⟨ι2,h2,hp2⟩ := Po.new hW (c := 0) (o := lo) (x := .loop { state := .ready,pending := none,fn,tmps,params,assign,body,defers := lp.defers }) (Nat.lt_of_succ_lt hn) (fun ι' he => ho ι' _ he)
      refine ⟨_,[],ι2,_,?_,hp2,h2,hds.mono hp2.ext⟩
      simp [Instr.enterLoop,Instr.getLoop,hgo]
    · cases he

theorem codeB_ok (hm : P.follows .mixedOrders = true) {call : Value → List Value → St → Option (Value × St)} (hcall : CallOK P call) {code : IC → Option Nat → List Nat → Tm → St → Option Cf} (hcode : CodeOK P code) : CodeOK P (codeB call code) := by
  intro nt c ic rnd ds T s cf hc he ι w a l n Q hT hnt hW hrd hds hQ
  cases c with
  | skip =>
    simp only [comp,Option.some.injEq] at hc
    subst hc
    simp only [codeB,Option.some.injEq] at he
    subst he
    exact ⟨wpIn_skip (hQ a ι w hT rfl (Po.refl hW) hds),fun c0 h => by cases h⟩
  | region id ops draw =>
    simp only [comp] at hc
    split at hc
    · cases hc
    · rename_i il hil
      cases draw with
      | true =>
        simp only [if_true] at hc
        cases hdi : drawA (il.zip (CheckFast.beforeL ops.toList 0 [])) with
        | none => rw [hdi] at hc; cases hc
        | some dl =>
          rw [hdi] at hc
          simp only [Option.map_some,Option.some.injEq] at hc
          subst hc
          simp only [codeB] at he
          rw [evDraw_k] at he
          cases h1 : evDraw call dl T s pairT with
          | none => rw [h1] at he; cases he
          | some p =>
            obtain ⟨T2,s2⟩ := p
            rw [h1] at he
            simp only [Option.bind_some,Option.some.injEq] at he
            subst he
            exact ⟨draw_ok hm hcall hil hdi h1 hT hnt hW fun a' ι' w' q1 q2 q3 q4 => hQ a' ι' w' q1 q2 q4 (by rw [q3]; exact hds.mono q4.ext),fun c0 h => by cases h⟩
      | false =>
        simp only [Bool.false_eq_true,if_false,Option.some.injEq] at hc
        subst hc
        simp only [codeB] at he
        rw [evOps_k] at he
        cases h1 : evOps call il T s pairT with
        | none => rw [h1] at he; cases he
        | some p =>
          obtain ⟨T2,s2⟩ := p
          rw [h1] at he
          simp only [Option.bind_some,Option.some.injEq] at he
          subst he
          refine ⟨wpIn_region ?_,fun c0 h => by cases h⟩
          rw [List.range_eq_range']
          exact evOps_ok hcall (by simp) hil h1 hT hnt hW Q fun a' ι' w' q1 q2 q3 q4 => hQ a' ι' w' q1 q2 q4 (by rw [q3]; exact hds.mono q4.ext)
  | seq x y =>
    simp only [comp] at hc
    split at hc
    · rename_i ix iy hx hy
      cases hc
      simp only [codeB] at he
      split at he
      · rename_i o T1 s1 ds1 h1
        refine ⟨wpIn_seq ?_,fun c0 h => by cases h⟩
        refine (hcode nt x ix rnd ds T s _ hx h1 ι w a l n _ hT hnt hW hrd hds ?_).1
        intro a' ι' w' q1 q2 q3 q4
        have q4' : DsOK ι' s1.bs ds1 a'.defers := by rw [q3.bs]; exact q4
        cases o with
        | norm => exact (hcode nt y iy rnd ds1 T1 s1 cf hy he ι' w' a' l n Q q1 (by omega) q3.wr (hrd.mono q3.ext) q4' (hQ.then q3 q2)).1
        | ret => cases he; exact hQ a' ι' w' q1 q2 q3 q4
        | exit id => cases he; exact hQ a' ι' w' q1 q2 q3 q4
        | goto t => cases he; exact hQ a' ι' w' q1 q2 q3 q4
      · cases he
    · cases hc
  | cond x y z =>
    simp only [comp] at hc
    split at hc
    · rename_i x' iy iz hx hy hz
      cases hc
      simp only [codeB] at he
      have h1 := compX_ok hx hT
      split at he
      · rename_i hb
        rw [hb] at h1
        exact ⟨wpIn_cond_true h1.boolI (hcode nt y iy rnd ds T s cf hy he ι w a l n Q hT hnt hW hrd hds hQ).1,fun c0 h => by cases h⟩
      · rename_i hb
        rw [hb] at h1
        exact ⟨wpIn_cond_false h1.boolI (hcode nt z iz rnd ds T s cf hz he ι w a l n Q hT hnt hW hrd hds hQ).1,fun c0 h => by cases h⟩
      · cases he
    · cases hc
  | block id x =>
    simp only [comp] at hc
    split at hc
    · rename_i ix hx
      cases hc
      simp only [codeB] at he
      split at he
      · rename_i o T1 s1 ds1 h1
        refine ⟨wpIn_block ?_,fun c0 h => by cases h⟩
        refine (hcode nt x ix rnd ds T s _ hx h1 ι w a l n _ hT hnt hW hrd hds ?_).1
        intro a' ι' w' q1 q2 q3 q4
        cases o with
        | norm => cases he; exact hQ a' ι' w' q1 q2 q3 q4
        | ret => cases he; exact hQ a' ι' w' q1 q2 q3 q4
        | goto t => cases he; exact hQ a' ι' w' q1 q2 q3 q4
        | exit m =>
          simp only at he
          simp only [outE,Exit.inBlock]
          split at he
          · rename_i hm
            cases he
            rw [if_pos (Nat.eq_of_beq_eq_true hm)]
            exact hQ a' ι' w' q1 q2 q3 q4
          · rename_i hm
            cases he
            rw [if_neg (Nat.ne_of_beq_eq_false hm)]
            exact hQ a' ι' w' q1 q2 q3 q4
      · cases he
    · cases hc
  | loop x =>
    have hc0 := hc
    simp only [comp] at hc
    split at hc
    · rename_i ix hx
      cases hc
      simp only [codeB] at he
      split at he
      · rename_i o T1 s1 ds1 h1
        have hL : LoopR (FW l) n P x Q a w := by
          refine loopR_step ?_
          refine (hcode nt x ix rnd ds T s _ hx h1 ι w a l n _ hT hnt hW hrd hds ?_).1
          intro a' ι' w' q1 q2 q3 q4
          have q4' : DsOK ι' s1.bs ds1 a'.defers := by rw [q3.bs]; exact q4
          cases o with
          | norm => exact (hcode nt (.loop x) (.loop ix) rnd ds1 T1 s1 cf hc0 he ι' w' a' l n Q q1 (by omega) q3.wr (hrd.mono q3.ext) q4' (hQ.then q3 q2)).2 x rfl
          | ret => cases he; exact hQ a' ι' w' q1 q2 q3 q4
          | exit id => cases he; exact hQ a' ι' w' q1 q2 q3 q4
          | goto t => cases he; exact hQ a' ι' w' q1 q2 q3 q4
        exact ⟨loopR_wp hL,fun c0 h => by cases h; exact hL⟩
      · cases he
    · cases hc
  | exit id =>
    simp only [comp,Option.some.injEq] at hc
    subst hc
    simp only [codeB,Option.some.injEq] at he
    subst he
    exact ⟨wpIn_exit (hQ a ι w hT rfl (Po.refl hW) hds),fun c0 h => by cases h⟩
  | goto t =>
    simp only [comp,Option.some.injEq] at hc
    subst hc
    simp only [codeB,Option.some.injEq] at he
    subst he
    exact ⟨wpIn_goto (hQ a ι w hT rfl (Po.refl hW) hds),fun c0 h => by cases h⟩
  | label t =>
    simp only [comp,Option.some.injEq] at hc
    subst hc
    simp only [codeB,Option.some.injEq] at he
    subst he
    exact ⟨wpIn_label (hQ a ι w hT rfl (Po.refl hW) hds),fun c0 h => by cases h⟩
  | ret =>
    simp only [comp,Option.some.injEq] at hc
    subst hc
    simp only [codeB,Option.some.injEq] at he
    subst he
    exact ⟨wpIn_ret (hQ a ι w hT rfl (Po.refl hW) hds),fun c0 h => by cases h⟩
  | refuse why =>
    simp only [comp,Option.some.injEq] at hc
    subst hc
    simp only [codeB,evOps,wanted] at he
    rw [bad_none rfl] at he
    cases he
  | scope x =>
    simp only [comp] at hc
    split at hc
    · rename_i ix hx
      cases hc
      simp only [codeB] at he
      cases rnd with
      | some _ => cases he
      | none =>
        simp only at he
        have hl : l = none := hrd
        subst hl
        split at he
        · rename_i o T1 s1 ds1 h1
          refine ⟨wpIn_scope ?_,fun c0 h => by cases h⟩
          refine (hcode nt x ix none ds T s _ hx h1 ι w a none n _ hT hnt hW hrd hds ?_).1
          intro a' ι' w' q1 q2 q3 q4
          cases o with
          | norm => cases he; exact hQ a' ι' w' q1 q2 q3 q4
          | ret => cases he; exact hQ a' ι' w' q1 q2 q3 q4
          | goto t => cases he
          | exit m => cases he; exact hQ a' ι' w' q1 q2 q3 q4
        · cases he
    · cases hc
  | rangeFunc f ps asg body =>
    simp only [comp] at hc
    split at hc
    · rename_i f' ia ib hf hasg hbody
      split at hc
      · rename_i hps
        cases hc
        simp only [codeB] at he
        split at he
        case h_2 => cases he
        · rename_i hlt hgof
          split at he
          · cases he
          · rename_i ds' lb s2 hst
            split at he
            · cases he
            · rename_i vv s3 hcl
              refine ⟨wpIn_rangeFunc fun fn _ => ?_,fun c0 h => by cases h⟩
              have hpsl : ∀ p ∈ ps.toList,p < nt := fun p hp => blt_true (List.all_eq_true.1 hps p hp)
              obtain ⟨r,mark,ι1,w1,hent,hp1,hlb,hds1⟩ := startL_ok (fn := fn) (tmps := a.tmps) (params := ps) (assign := asg) (body := body) hst (blt_true hlt) hW hrd hds
                (fun ι' d hext => ⟨_,nt,rfl,rfl,rfl,hT.mono hext,hnt,rfl,hpsl,hasg,hbody⟩)
              have hfv := compX_ok hf (hT.mono hp1.ext)
              rcases hcall _ _ _ _ _ hcl ι1 w1 (a.eval f) [.func (.yield r) #[] #[]] hfv (.cons (.yld hlb) .nil) hp1.wr with ⟨g,xs,ys,fn',hg,hfn,hb,hname,hcalls⟩ | ⟨r2,lp2,hg,_⟩
              · have hbn : fn'.body.isNone = false := by cases hbb : fn'.body <;> simp_all
                refine ⟨r,mark,w1,{ target := .fn (.func g) ⟨ys⟩,args := ⟨xs⟩ ++ #[.func (.yield r) #[] #[]] },w1,g,⟨xs ++ [.func (.yield r) #[] #[]] ++ ys⟩,w1,hent,?_,fun _ _ => trivial,?_,fun h => by simp [FW,Fence.wide] at h,?_⟩
                · have hmap : Array.map a.eval #[Operand.const (Value.func (Fn.yield r) #[] #[])] = #[Value.func (Fn.yield r) #[] #[]] := by simp [Act.eval]
                  simp only [resolve,Deferred.ofValue,hg,Sem.run_pure,hmap]
                · simp only [invoke,callFunc,Sem.run_bind,run_program,Result.andThen_ok,hfn,hname,hbn,Bool.false_eq_true,if_false,Sem.run_pure]
                  congr 2
                  simp
                · refine CallsIn.mono (hcalls _ : CallsIn (FW l) (n - 1) P g _ w1 _) ?_
                  rintro e w3 ⟨v',rfl,ι3,hv3,hp3⟩
                  have hp13 := hp1.trans hp3
                  split at he
                  · rename_i st pend T' ps' asg' body' hget
                    obtain ⟨r',c',x,e1,e2,lp,nt',rfl,e3,e4,e5⟩ := hp3.wr.obj _ _ hget
                    have e1' := hp3.ext _ _ hlb
                    rw [e1] at e1'
                    cases e1'
                    have hlt3 := hp3.wr.bound _ _ _ e1
                    have hgo : (getObj r).run P w3 = .ok (.loop lp) w3 := getObj_run e2 (fun _ _ _ h => by cases h)
                    have hso : ∀ x,(setObj r x).run P w3 = .ok () { w3 with heap := w3.heap.setIfInBounds r x } := fun x => setObj_run e2 (fun _ _ _ h => by cases h)
                    have hpo := Po.put hp3.wr (by rw [hget]; simp) e1 (o := .loop .exhausted pend T' ps' asg' body') (x := .loop { lp with state := .exhausted }) ⟨_,nt',rfl,rfl,e4,e5⟩ (upd_set hlt3)
                    have hne : (lp.state == LoopState.busy) = false ∧ endL pend T (s3.put lb (some (.loop .exhausted pend T' ps' asg' body'))) ds' = some cf := by
                      rw [e3]
                      split at he
                      · cases he
                      · rename_i hnb
                        rw [St.putK_eq] at he
                        refine ⟨?_,he⟩
                        cases st <;> first | rfl | exact absurd rfl hnb
                    obtain ⟨hne,he⟩ := hne
                    have hpf := hp13.trans hpo
                    have hend : (Instr.endLoop r).run P w3 = .ok pend { w3 with heap := w3.heap.setIfInBounds r (.loop { lp with state := .exhausted }) } := by
                      simp only [Instr.endLoop,Instr.getLoop,Sem.run_bind,hgo,Result.andThen_ok,hne,Bool.false_eq_true,if_false,hso,Sem.run_pure,e4]
                    have hfin : ∀ o,cf = ⟨o,T,s3.put lb (some (.loop .exhausted pend T' ps' asg' body')),ds'⟩ → Q (outE o) { a with defers := mark ++ a.defers } { w3 with heap := w3.heap.setIfInBounds r (.loop { lp with state := .exhausted }) } := by
                      intro o hcf
                      subst hcf
                      exact hQ { a with defers := mark ++ a.defers } ι3 _ (hT.mono hpf.ext) rfl hpf (hds1.mono (hp3.trans hpo).ext)
                    refine ⟨pend,_,hend,?_⟩
                    unfold endL at he
                    split at he
                    · cases he; exact hfin _ rfl
                    · cases he; exact wpIn_ret (hfin .ret rfl)
                    · cases he; exact wpIn_exit (hfin (.exit _) rfl)
                    · cases he
                  · cases he
              · exfalso
                rw [hg] at hfv
                generalize oev T f' = u at hfv hgof
                cases hfv with
                | func hny _ _ => exact hny _ rfl
                | yld _ => cases hgof
                | unk _ => cases hgof
                | opq _ _ => cases hgof
      · cases hc
    · cases hc

end
end Go.Sim
namespace Go.Sim
set_option linter.all false
open Go
variable [Rho] [Asm] [SymOK]

noncomputable def layT : List (Nat × FI) → Tr FI
  | [] => .e
  | p :: l => Tr.set DT (layT l) p.1 (some p.2)
inductive AllC (P : Program) : List (Nat × FI) → Prop
  | nil : AllC P []
  | cons {f : Nat} {fi : FI} {l : List (Nat × FI)} : compF P f = some fi → Nat.blt f limT = true → AllC P l → AllC P ((f,fi) :: l)
theorem AllC.get {P : Program} : ∀ {l : List (Nat × FI)},AllC P l → ∀ f fi,(layT l).get f = some fi → compF P f = some fi
  | _,.nil,f,fi,h => by rw [show layT [] = .e from rfl,Tr.get_e] at h; cases h
  | _,.cons (f := g) (fi := gi) (l := l) h1 h2 h3,f,fi,h => by
    have h2 := blt_true h2
    rw [show layT ((g,gi) :: l) = Tr.set DT (layT l) g (some gi) from rfl,Tr.get_set DT _ _ _ f (by unfold limT at h2; unfold DT; omega)] at h
    split at h
    · rename_i e; subst e; rw [h1]; exact h
    · exact h3.get f fi h
theorem tabOK {P : Program} {l : List (Nat × FI)} {tab : Tr FI} (h : AllC P l) (e : tab = layT l) : TabOK P tab := by
  subst e
  exact h.get
end Go.Sim
namespace Go.Sim.K
set_option linter.all false
open Go Go.Sim
variable [Rho] [Asm] [SymOK]
noncomputable section
variable {β : Type}
def d0 {A : Type} (_ : A) (e : β) : β := e
def d1 {X A : Type} (_ : X) (_ : A) (e : β) : β := e
def d2 {X Y A : Type} (_ : X) (_ : Y) (_ : A) (e : β) : β := e
def d3 {X Y Z A : Type} (_ : X) (_ : Y) (_ : Z) (_ : A) (e : β) : β := e
def d5 {X Y Z U W A : Type} (_ : X) (_ : Y) (_ : Z) (_ : U) (_ : W) (_ : A) (e : β) : β := e
def di {X Y : Type} {A : Type} (_ : X) (_ : Y) (_ : A → β → β) (_ : A) (e : β) : β := e
def u1 (_ : List Value) (_ : Unit) : Unit := ()
def u3 {A : Type} (_ : Value) (_ : List Value) (_ : A) (_ : Unit) : Unit := ()
def m_int (k : IntKind) (n : Int) (f : IntKind → Int → β) (_ : β) : β := f k n
def vInt (v : Value) : (IntKind → Int → β) → β → β :=
  Value.rec (motive_1 := fun _ => (IntKind → Int → β) → β → β) (motive_2 := fun _ => Unit) (motive_3 := fun _ => Unit) d1 m_int d2 d3 d1 d1 d3 d1 d1 d5 d0 di d0 d2 d2 u1 () u3 v
theorem vInt_eq (v : Value) (f : IntKind → Int → β) (e : β) : vInt v f e = match v with
    | .int k n => f k n
    | _ => e := by cases v <;> rfl
def m_bool (b : Bool) (f : Bool → β) (_ : β) : β := f b
def vBool (v : Value) : (Bool → β) → β → β :=
  Value.rec (motive_1 := fun _ => (Bool → β) → β → β) (motive_2 := fun _ => Unit) (motive_3 := fun _ => Unit) m_bool d2 d2 d3 d1 d1 d3 d1 d1 d5 d0 di d0 d2 d2 u1 () u3 v
theorem vBool_eq (v : Value) (f : Bool → β) (e : β) : vBool v f e = match v with
    | .bool b => f b
    | _ => e := by cases v <;> rfl
def m_addr (a : Option Addr) (f : Nat → Nat → β) (e : β) : β := Option.rec e (fun a => Addr.rec (fun b o s => Option.rec (f b o) (fun _ => e) s) a) a
def vPtr (v : Value) : (Nat → Nat → β) → β → β :=
  Value.rec (motive_1 := fun _ => (Nat → Nat → β) → β → β) (motive_2 := fun _ => Unit) (motive_3 := fun _ => Unit) d1 d2 d2 d3 d1 m_addr d3 d1 d1 d5 d0 di d0 d2 d2 u1 () u3 v
def m_sl (a : Option Addr) (n k : Nat) (f : Option Addr → Nat → Nat → β) (_ : β) : β := f a n k
def vSl (v : Value) : (Option Addr → Nat → Nat → β) → β → β :=
  Value.rec (motive_1 := fun _ => (Option Addr → Nat → Nat → β) → β → β) (motive_2 := fun _ => Unit) (motive_3 := fun _ => Unit) d1 d2 d2 d3 d1 d1 m_sl d1 d1 d5 d0 di d0 d2 d2 u1 () u3 v
theorem vSl_eq (v : Value) (f : Option Addr → Nat → Nat → β) (e : β) : vSl v f e = match v with
    | .slice a n k => f a n k
    | _ => e := by cases v <;> rfl
def m_agg {X : Type} (a : Array Value) (_ : X) (f : List Value → β) (_ : β) : β := Array.rec f a
def vAgg (v : Value) : (List Value → β) → β → β :=
  Value.rec (motive_1 := fun _ => (List Value → β) → β → β) (motive_2 := fun _ => Unit) (motive_3 := fun _ => Unit) d1 d2 d2 d3 d1 d1 d3 d1 d1 d5 d0 di d0 m_agg d2 u1 () u3 v
theorem vAgg_eq (v : Value) (f : List Value → β) (e : β) : vAgg v f e = match v with
    | .agg ⟨l⟩ => f l
    | _ => e := by cases v <;> rfl
def m_tup {X : Type} (a : Array Value) (_ : X) (f : List Value → β) (_ : β) : β := Array.rec f a
def vTup (v : Value) : (List Value → β) → β → β :=
  Value.rec (motive_1 := fun _ => (List Value → β) → β → β) (motive_2 := fun _ => Unit) (motive_3 := fun _ => Unit) d1 d2 d2 d3 d1 d1 d3 d1 d1 d5 d0 di d0 d2 m_tup u1 () u3 v
theorem vTup_eq (v : Value) (f : List Value → β) (e : β) : vTup v f e = match v with
    | .tuple ⟨l⟩ => f l
    | _ => e := by cases v <;> rfl

def forceN (m : Nat) (k : Nat → β) : β := Nat.rec (k 0) (fun p _ => k (Nat.succ p)) m
theorem forceN_eq (m : Nat) (k : Nat → β) : forceN m k = k m := by cases m <;> rfl
def f1 {X : Type} (_ : X) (v : Value) (k : Value → β) : β := k v
def f0 (v : Value) (k : Value → β) : β := k v
def f2 {X Y : Type} (_ : X) (_ : Y) (v : Value) (k : Value → β) : β := k v
def f3 {X Y Z : Type} (_ : X) (_ : Y) (_ : Z) (v : Value) (k : Value → β) : β := k v
def f5 {X Y Z U W : Type} (_ : X) (_ : Y) (_ : Z) (_ : U) (_ : W) (v : Value) (k : Value → β) : β := k v
def fi (kd : IntKind) (n : Int) (_ : Value) (k : Value → β) : β := Int.rec (fun m => forceN m fun m => k (.int kd (.ofNat m))) (fun m => forceN m fun m => k (.int kd (.negSucc m))) n
def fb (b : Bool) (_ : Value) (k : Value → β) : β := Bool.rec (k (.bool false)) (k (.bool true)) b
def fp (a : Option Addr) (v : Value) (k : Value → β) : β := Option.rec (k v) (fun a => Addr.rec (fun b o s => Option.rec (forceN b fun b => forceN o fun o => k (.pointer (some ⟨b,o,none⟩))) (fun _ => k v) s) a) a
def force (v : Value) (k : Value → β) : β :=
  Value.rec (motive_1 := fun _ => Value → (Value → β) → β) (motive_2 := fun _ => Unit) (motive_3 := fun _ => Unit) fb fi f2 f3 f1 fp f3 f1 f1 f5 f0 f3 f0 f2 f2 u1 () u3 v v k
theorem force_eq (v : Value) (k : Value → β) : force v k = k v := by
  cases v <;> try rfl
  · rename_i b; cases b <;> rfl
  · rename_i kd n
    cases n
    · exact forceN_eq _ fun m => k (.int kd (.ofNat m))
    · exact forceN_eq _ fun m => k (.int kd (.negSucc m))
  · rename_i a
    cases a with
    | none => rfl
    | some a =>
      obtain ⟨b,o,s⟩ := a
      cases s with
      | none =>
        show (forceN b fun b => forceN o fun o => k (.pointer (some ⟨b,o,none⟩))) = _
        rw [forceN_eq,forceN_eq]
      | some x => rfl

def nth (l : List Value) : Nat → Option Value := List.rec (fun _ => none) (fun v _ ih i => Nat.rec (some v) (fun i _ => ih i) i) l
theorem nth_eq : nth = Sim.nth := by
  funext l
  induction l with
  | nil => rfl
  | cons v l ih => funext i; cases i with
    | zero => rfl
    | succ i => exact congrFun ih i
def len (l : List Value) : Nat := List.rec 0 (fun _ _ ih => Nat.succ ih) l
theorem len_eqK : len = Sim.len := by
  funext l
  induction l with
  | nil => rfl
  | cons v l ih => exact congrArg Nat.succ ih
def m_false2 {X Y : Type} (_ : X) (_ : Y) : Bool := false
def m_true1 {X : Type} (_ : X) : Bool := true
def m_true2 {X Y : Type} (_ : X) (_ : Y) : Bool := true
def m_true3 {X Y Z : Type} (_ : X) (_ : Y) (_ : Z) : Bool := true
def m_true5 {X Y Z U W : Type} (_ : X) (_ : Y) (_ : Z) (_ : U) (_ : W) : Bool := true
def one (v : Value) : Bool := Value.rec (motive_1 := fun _ => Bool) (motive_2 := fun _ => Unit) (motive_3 := fun _ => Unit) m_true1 m_true2 m_true2 m_true3 m_true1 m_true1 m_true3 m_true1 m_true1 m_true5 true m_true3 true m_false2 m_false2 u1 () u3 v
theorem one_eq : one = Sim.one := by funext v; cases v <;> rfl
def ones (l : List Value) : Bool := List.rec true (fun v _ ih => Bool.rec false ih (one v)) l
theorem ones_eq : ones = Sim.ones := by
  funext l
  induction l with
  | nil => rfl
  | cons v l ih =>
    show (Bool.rec false (ones l) (one v) : Bool) = _
    rw [ih,one_eq]
    simp only [Sim.ones]
    cases Sim.one v <;> rfl
def cellsOf (v : Value) : List Value := vAgg v (fun l => l) (.cons v .nil)
theorem cellsOf_eq : cellsOf = Sim.cellsOf := by funext v; cases v <;> rfl
def take (n : Nat) : List Value → (List Value → Option β) → Option β :=
  Nat.rec (fun _ k => k .nil) (fun _ ih l k => List.rec none (fun v l _ => ih l fun r => k (.cons v r)) l) n
theorem take_eq : ∀ (n : Nat) (l : List Value) (k : List Value → Option β),take n l k = (Sim.sub l 0 n).bind k
  | 0,l,k => by cases l <;> rfl
  | n + 1,[],k => rfl
  | n + 1,v :: l,k => by
    show take n l (fun r => k (.cons v r)) = _
    rw [take_eq n l]
    have : Sim.sub (v :: l) 0 (n + 1) = match Sim.sub l 0 n with
      | some r => some (v :: r)
      | none => none := by rw [Sim.sub]; rfl
    rw [this]
    cases Sim.sub l 0 n <;> rfl
def sub (l : List Value) : Nat → Nat → (List Value → Option β) → Option β :=
  List.rec (fun off n k => Nat.rec (take n .nil k) (fun _ _ => none) off) (fun v l ih off n k => Nat.rec (take n (.cons v l) k) (fun off _ => ih off n k) off) l
theorem sub_eqK : ∀ (l : List Value) (off n : Nat) (k : List Value → Option β),sub l off n k = (Sim.sub l off n).bind k
  | [],0,n,k => take_eq n [] k
  | [],off + 1,n,k => rfl
  | v :: l,0,n,k => take_eq n (v :: l) k
  | v :: l,off + 1,n,k => by
    show sub l off n k = _
    rw [sub_eqK l off n k]
    rfl
def over0 (xs : List Value) : List Value → (List Value → Option β) → Option β :=
  List.rec (fun l k => k l) (fun x _ ih l k => List.rec none (fun _ l _ => ih l fun r => k (.cons x r)) l) xs
theorem over0_eq : ∀ (xs l : List Value) (k : List Value → Option β),over0 xs l k = (Sim.over l 0 xs).bind k
  | [],l,k => by cases l <;> rfl
  | x :: xs,[],k => rfl
  | x :: xs,v :: l,k => by
    show over0 xs l (fun r => k (.cons x r)) = _
    rw [over0_eq xs l]
    have : Sim.over (v :: l) 0 (x :: xs) = match Sim.over l 0 xs with
      | some r => some (x :: r)
      | none => none := by rw [Sim.over]; rfl
    rw [this]
    cases Sim.over l 0 xs <;> rfl
def over (l : List Value) : Nat → List Value → (List Value → Option β) → Option β :=
  List.rec (fun off xs k => Nat.rec (over0 xs .nil k) (fun _ _ => none) off) (fun v l ih off xs k => Nat.rec (over0 xs (.cons v l) k) (fun off _ => ih off xs fun r => k (.cons v r)) off) l
theorem over_eq : ∀ (l : List Value) (off : Nat) (xs : List Value) (k : List Value → Option β),over l off xs k = (Sim.over l off xs).bind k
  | [],0,xs,k => over0_eq xs [] k
  | [],off + 1,xs,k => rfl
  | v :: l,0,xs,k => over0_eq xs (v :: l) k
  | v :: l,off + 1,xs,k => by
    show over l off xs (fun r => k (.cons v r)) = _
    rw [over_eq l off xs]
    have : Sim.over (v :: l) (off + 1) xs = match Sim.over l off xs with
      | some r => some (v :: r)
      | none => none := by rw [Sim.over]; rfl
    rw [this]
    cases Sim.over l off xs <;> rfl
end
end Go.Sim.K
