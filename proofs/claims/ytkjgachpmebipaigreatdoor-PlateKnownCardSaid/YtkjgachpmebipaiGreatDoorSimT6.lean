import Derived.Test.YtkjgachpmebipaiGreatDoorSimT5
namespace Go.Sim
set_option linter.all false
open Go
variable [Rho] [Asm] [SymOK]

section
variable {P : Program} {call : Value → List Value → St → Option (Value × St)} {nt : Nat} {ops : Array Oper} {π σ : Nat → Nat} {dl : List DI} {n0 : Nat} {Tf : Nat → Tm} {Hf : Nat → St} {V : Nat → Value} {L : Nat → Option LO}
  {ι0 : Io} {s0 : St} {w0 : World} {a0 : Act} {D : Nat → Prop} {a : Act} {w : World} {ι : Io} {TD : Tm} {S : St} {c i : Nat} {d : DI}

theorem Inv.all (R : Rg P call nt ops π σ dl n0 Tf Hf V L) (H : Inv P dl n0 Tf Hf V L ι0 s0 w0 a0 D a w ι TD S c) (hD : ∀ i, i < dl.length → D i) : TR ι (Tf dl.length) a.tmps ∧ Po P ι0 s0 w0 ι (Hf dl.length) w := by
  constructor
  · intro t
    have e : tget TD t = tget (Tf dl.length) t := by
      rcases R.tf t dl.length (Nat.le_refl _) with ⟨j, d, h1, h2, h3, h4⟩ | ⟨h1, h2⟩
      · rw [h4]; exact H.done j d t (hD j h1) h2 h3
      · rw [h2]; exact H.undone t fun j d hj hd => h1 j d (H.lt j hj) hd
    rw [← e]
    exact H.tr t
  · obtain ⟨b1, b2, b3, b4, b5⟩ := R.between dl.length H.cle (Nat.le_refl _) fun k d h1 h2 hd => by
      cases hq : isC d.io.op with
      | false => rfl
      | true => have := H.cmax k d (hD k h2) hd hq; omega
    refine H.po.like ⟨fun b => ?_, by rw [b1, H.n], by rw [b2, H.bs], by rw [b3, H.ws]⟩
    by_cases hx : ∃ j, c ≤ j ∧ D j ∧ L j ≠ none ∧ b = n0 + j
    · obtain ⟨j, h1, h2, h3, rfl⟩ := hx
      cases hq : L j with
      | none => exact absurd hq h3
      | some lo => rw [H.ext1 j lo h1 h2 hq, b4 j lo h1 (H.lt j h2) hq]
    · rw [H.ext2 b fun j h1 h2 h3 h4 => hx ⟨j, h1, h2, h3, h4⟩, b5 b fun j h1 h2 h3 h4 => hx ⟨j, h1, hD j h2, h3, h4⟩]

theorem bit_lt {m i k : Nat} (h : m < 2 ^ i) (hk : m.testBit k = true) : k < i := by
  refine Nat.lt_of_not_le fun hik => ?_
  rw [Nat.testBit_lt_two_pow (Nat.lt_of_lt_of_le h (Nat.pow_le_pow_right (by omega) hik))] at hk
  cases hk

theorem ready_nil (R : Rg P call nt ops π σ dl n0 Tf Hf V L) {listed : Array Bool} (hsz : listed.size = dl.length) (h : Region.ready .any ops listed = []) : ∀ i, i < dl.length → listed.getD (π i) false = true := by
  intro i
  induction i using Nat.strongRecOn with
  | _ i ih =>
    intro hi
    cases hq : listed.getD (π i) false with
    | true => rfl
    | false =>
      exfalso
      obtain ⟨d, hd⟩ : ∃ d, dl[i]? = some d := ⟨_, List.getElem?_eq_getElem hi⟩
      obtain ⟨o, ho, _⟩ := R.io i d hd
      have hmem : π i ∈ Region.ready .any ops listed := mem_ready.2 ⟨by
        have hlt : π i < listed.size := by have := R.plt i hi; omega
        simpa [Array.getD, hlt] using hq, o, ho, fun e he hb => by
        obtain ⟨hon, hb'⟩ := (R.edge i o d ho hd).1 e he hb
        have hlt := bit_lt (R.told.lt i d hd) hb'
        have := ih (σ e.on) hlt (R.plt' _ hon)
        rw [R.right] at this
        exact this⟩
      rw [h] at hmem
      cases hmem

theorem count_set : ∀ {l : List Bool} {i : Nat}, l[i]? = some false → (l.set i true).countP (!·) + 1 = l.countP (!·)
  | [], i, h => by simp at h
  | b :: l, i, h => by
    cases i with
    | zero => simp at h; subst h; simp
    | succ i =>
      have := count_set (l := l) (i := i) (by simpa using h)
      simp only [List.set_cons_succ, List.countP_cons]
      omega
theorem count_zero : ∀ {l : List Bool}, l.countP (!·) = 0 → ∀ (i : Nat), i < l.length → l[i]? = some true
  | [], _, i, h => by simp at h
  | b :: l, h, i, hi => by
    simp only [List.countP_cons] at h
    cases i with
    | zero => cases b <;> simp_all
    | succ i => simpa using count_zero (l := l) (by omega) i (by simpa using hi)

theorem any_ok (hcall : CallOK P call) (R : Rg P call nt ops π σ dl n0 Tf Hf V L) (hs : nt ≤ a0.tmps.size) {l : Option Nat} {n : Nat} {Q : Exit → Act → World → Prop}
    (hQ : ∀ a' ι' w', TR ι' (Tf dl.length) a'.tmps → a'.tmps.size = a0.tmps.size → a'.defers = a0.defers → Po P ι0 s0 w0 ι' (Hf dl.length) w' → Q .normal a' w') :
    ∀ (fuel : Nat) (listed : Array Bool) (a : Act) (w : World), listed.size = dl.length → listed.toList.countP (!·) ≤ fuel → (∃ ι TD S c, Inv P dl n0 Tf Hf V L ι0 s0 w0 a0 (fun i => listed.getD (π i) false = true) a w ι TD S c) →
    wpAnyIn (FW l) n P .any ops Q fuel listed a w := by
  have fin : ∀ (listed : Array Bool) (a : Act) (w : World), (∀ i, i < dl.length → listed.getD (π i) false = true) → (∃ ι TD S c, Inv P dl n0 Tf Hf V L ι0 s0 w0 a0 (fun i => listed.getD (π i) false = true) a w ι TD S c) → Q .normal a w := by
    rintro listed a w hall ⟨ι, TD, S, c, H⟩
    obtain ⟨h1, h2⟩ := H.all R hall
    exact hQ a ι w h1 H.size H.defers h2
  intro fuel
  induction fuel with
  | zero =>
    intro listed a w hsz hc hI
    have hall : ∀ i, i < dl.length → listed.getD (π i) false = true := fun i hi => by
      have := count_zero (Nat.le_zero.1 hc) (π i) (by have := R.plt i hi; simp; omega)
      simp only [Array.getElem?_toList] at this
      simp [this]
    refine ⟨?_, fin listed a w hall hI⟩
    cases hr : Region.ready .any ops listed with
    | nil => rfl
    | cons i r =>
      have hmem : i ∈ Region.ready .any ops listed := by rw [hr]; simp
      obtain ⟨h0, o, ho, _⟩ := mem_ready.1 hmem
      have hi : i < dl.length := by rw [R.len]; exact (Array.getElem?_eq_some_iff.1 ho).1
      have := hall (σ i) (R.plt' i hi)
      rw [R.right] at this
      have hlt : i < listed.size := by omega
      simp [Array.getD, hlt] at h0 this
      rw [h0] at this
      cases this
  | succ fuel ih =>
    intro listed a w hsz hc hI
    refine ⟨fun hr => fin listed a w (ready_nil R hsz hr) hI, fun i hmem => ?_⟩
    obtain ⟨ι, TD, S, c, H⟩ := hI
    obtain ⟨h0, o, ho, hall⟩ := mem_ready.1 hmem
    have hi : i < dl.length := by rw [R.len]; exact (Array.getElem?_eq_some_iff.1 ho).1
    obtain ⟨d, hd⟩ : ∃ d, dl[σ i]? = some d := ⟨_, List.getElem?_eq_getElem (R.plt' i hi)⟩
    have ho' : ops[π (σ i)]? = some o := by rw [R.right]; exact ho
    have hlt : i < listed.size := by omega
    have hq : listed[i]? = some false := by simp [Array.getD, hlt] at h0; simp [hlt, h0]
    have hnD : ¬ listed.getD (π (σ i)) false = true := by rw [R.right]; simp [hq]
    have hm : ∀ k, d.m.testBit k = true → listed.getD (π k) false = true := fun k hk => by
      obtain ⟨e, he, hb, h⟩ := (R.edge (σ i) o d ho' hd).2 k hk
      have := hall e he hb
      rcases h with rfl | ⟨d', hd', hk'⟩
      · rw [R.right]; exact this
      · exact H.closed (σ e.on) d' (by rw [R.right]; exact this) hd' k hk'
    have hstep := H.step hcall R hs hd hnD hm (l := l) (n := n) (Q := Q) (K := wpAnyIn (FW l) n P .any ops Q fuel (listed.setIfInBounds i true)) fun a' w' hI' => ih _ a' w' (by simpa using hsz) ?_ ?_
    · rw [R.right] at hstep; exact hstep
    · have := count_set (l := listed.toList) (i := i) (by simpa using hq)
      simp only [Array.toList_setIfInBounds]
      omega
    · have e : (fun j => (listed.setIfInBounds i true).getD (π j) false = true) = And1 (fun j => listed.getD (π j) false = true) (σ i) := by
        funext j
        apply propext
        by_cases hji : i = π j
        · have hj : j = σ i := by rw [hji, R.left]
          subst hj
          rw [R.right]
          simp [And1, hlt]
        · have hj : j ≠ σ i := fun e => hji (by rw [e, R.right])
          rw [getD_set_ne false hji]
          simp [And1, hj]
      rw [e]
      exact hI'

theorem compOps_ok {nt : Nat} {ops : Array Oper} : ∀ {rs : List Oper} {il : List Ins}, compOps P nt ops rs = some il → il.length = rs.length ∧ ∀ (i : Nat) (io : Ins), il[i]? = some io → ∃ o, rs[i]? = some o ∧ compIO P nt ops o = some io
  | [], il, h => by simp only [compOps, Option.some.injEq] at h; subst h; exact ⟨rfl, fun i io h => by simp at h⟩
  | o :: rs, il, h => by
    simp only [compOps] at h
    split at h
    · cases h
    · rename_i io hio
      split at h
      · cases h
      · rename_i r hr
        cases h
        obtain ⟨q1, q2⟩ := compOps_ok hr
        refine ⟨by simp [q1], fun i io' hi => ?_⟩
        cases i with
        | zero => simp at hi; subst hi; exact ⟨o, by simp, hio⟩
        | succ i => simpa using q2 i io' (by simpa using hi)

theorem evDraw_k {β : Type} (call : Value → List Value → St → Option (Value × St)) (l : List DI) (T : Tm) (s : St) (k : Tm → St → Option β) : evDraw call l T s k = (evDraw call l T s pairT).bind fun p => k p.1 p.2 := by
  unfold evDraw
  split
  · rfl
  · split
    · rfl
    · split <;> rfl

theorem draw_ok (hm : P.follows .mixedOrders = true) (hcall : CallOK P call) {il : List Ins} (h1 : compOps P nt ops ops.toList = some il) (h2 : drawA (il.zip (CheckFast.beforeL ops.toList 0 [])) = some dl)
    {T T2 : Tm} {s s2 : St} {a : Act} {w : World} {ι : Io} (he : evDraw call dl T s pairT = some (T2, s2)) (hT : TR ι T a.tmps) (hs : nt ≤ a.tmps.size) (hW : WR P ι s w) {bid : Nat} {l : Option Nat} {n : Nat} {Q : Exit → Act → World → Prop}
    (hQ : ∀ a' ι' w', TR ι' T2 a'.tmps → a'.tmps.size = a.tmps.size → a'.defers = a.defers → Po P ι s w ι' s2 w' → Q .normal a' w') : (Code.region bid ops true).wpIn (FW l) n P Q a w := by
  unfold evDraw at he
  split at he
  · cases he
  · rename_i hlim
    have hlim := Nat.le_of_ble_eq_true hlim
    split at he
    · cases he
    · rename_i rs T2' s2' hev
      split at he
      · rename_i hre
        simp only [pairT, Option.some.injEq, Prod.mk.injEq] at he
        obtain ⟨rfl, rfl⟩ := he
        obtain ⟨π, σ, Y⟩ := drawA_ok h2
        obtain ⟨c1, c2⟩ := compOps_ok h1
        obtain ⟨b1, b2⟩ := before_ok (ops := ops) rfl
        obtain ⟨Tf, Hf, V, L, hrun, t0, hf0, tN, hN, hrl, hrs⟩ := evD_ok hev
        rw [lenD_ok] at hlim hf0
        have hzl : (il.zip (CheckFast.beforeL ops.toList 0 [])).length = ops.size := by rw [List.length_zip, c1, b1]; simp
        have hlen : dl.length = ops.size := Y.len.trans hzl
        have two : ∀ (i : Nat) (d : DI), dl[i]? = some d → ∃ m, il[π i]? = some d.io ∧ (CheckFast.beforeL ops.toList 0 [])[π i]? = some m ∧ m < 2 ^ ops.size ∧ ∀ k, d.m.testBit k = (decide (k < ops.size) && m.testBit (π k)) := fun i d hd => by
          obtain ⟨m, h1, h2, h3⟩ := Y.get i d hd
          rw [List.getElem?_zip_eq_some] at h1
          rw [hzl] at h2
          simp only [hzl] at h3
          exact ⟨m, h1.1, h1.2, h2, h3⟩
        have R : Rg P call nt ops π σ dl s.n Tf Hf V L := {
          told := Y.told
          len := hlen
          left := Y.left
          right := Y.right
          plt := fun i hi => by have := Y.lt i (by omega); omega
          plt' := fun i hi => by have := Y.lt' i (by omega); omega
          io := fun i d hd => by
            obtain ⟨m, h1, _⟩ := two i d hd
            obtain ⟨o, ho, hc⟩ := c2 (π i) d.io h1
            exact ⟨o, by rw [← Array.getElem?_toList]; exact ho, hc⟩
          edge := fun i o d ho hd => by
            obtain ⟨m, h1, h2, hm2, hbit⟩ := two i d hd
            obtain ⟨e1, e2⟩ := b2 (π i) o m ho h2
            constructor
            · intro e he hb
              have hbt := e1 e he hb
              have hon : e.on < ops.size := bit_lt hm2 hbt
              have hs' := Y.lt' e.on (by omega)
              refine ⟨by omega, ?_⟩
              rw [hbit, Y.right, hbt]
              simp; omega
            · intro k hk
              rw [hbit] at hk
              simp only [Bool.and_eq_true, decide_eq_true_eq] at hk
              obtain ⟨hkn, hk⟩ := hk
              obtain ⟨e, he, hb, h⟩ := e2 (π k) hk
              refine ⟨e, he, hb, ?_⟩
              rcases h with h | ⟨m', hm', hk'⟩
              · left; rw [h, Y.left]
              · right
                have hon : e.on < ops.size := by rw [← b1]; exact (List.getElem?_eq_some_iff.1 hm').1
                have hs' := Y.lt' e.on (by omega)
                have hlt : σ e.on < dl.length := by omega
                refine ⟨dl[σ e.on], List.getElem?_eq_getElem hlt, ?_⟩
                obtain ⟨m2, _, g2, _, g4⟩ := two _ _ (List.getElem?_eq_getElem hlt)
                rw [Y.right, hm'] at g2
                cases g2
                rw [g4, hk']
                simp [hkn]
          run := hrun
          chk := fun i d o hd ho hw p hp hpl => by
            have hlt : i < rs.length := by rw [hrl]; exact (List.getElem?_eq_some_iff.1 hd).1
            have hri := List.getElem?_eq_getElem hlt
            obtain ⟨r1, r2, r3⟩ := hrs i _ hri
            have := recheck_ok hre i d _ o hd hri ho (by rw [r1]; exact hw) p hp
            rw [r1, r3] at this
            have hh := hAt_ok (h2 := s2'.h) (N := dl.length) (Hf := Hf) (by rw [hN]) (rs := rs) (k := 0) (by omega) (fun j r hj => by rw [Nat.zero_add]; exact (hrs j r hj).2.1) p (by omega)
            rw [Nat.zero_add] at hh
            rw [hh] at this
            exact this
          lim := hlim }
        refine wpIn_region_any hm ?_
        have h0 : (Array.replicate ops.size false).toList.countP (!·) ≤ ops.size := by
          refine Nat.le_trans List.countP_le_length ?_
          simp
        refine any_ok (a0 := a) (ι0 := ι) (s0 := s) (w0 := w) hcall R hs (fun a' ι' w' q1 q2 q3 q4 => ?_) ops.size _ a _ (by simp [hlen]) h0 ?_
        · rw [tN] at q1
          rw [hN] at q4
          exact hQ a' ι' w' q1 q2 q3 q4
        · have e : (fun i => (Array.replicate ops.size false).getD (π i) false = true) = fun _ => False := by
            funext i
            apply propext
            by_cases h : π i < ops.size <;> simp [Array.getD, h]
          rw [e]
          have none_ : ∀ j, ι (s.n + j) = none := fun j => by
            cases hq : ι (s.n + j) with
            | none => rfl
            | some r => have := hW.dom _ _ hq; omega
          have noneh : ∀ j, s.h.get (s.n + j) = none := fun j => by
            cases hq : s.h.get (s.n + j) with
            | none => rfl
            | some o =>
              obtain ⟨r, c, x, q1, _⟩ := hW.obj _ _ hq
              rw [none_] at q1
              cases q1
          have hp1 := Po.keep hW (n := s.n + dl.length) (Nat.le_add_right _ _) hlim
          have hp2 := hp1.trans (Po.draw hp1.wr (w.drawn + 1))
          refine ⟨ι, T, Hf 0, 0, ⟨fun i h => h.elim, fun i d h => h.elim, hT, rfl, rfl, fun i d t h => h.elim, fun t _ => by rw [t0], Nat.zero_le _, .inl rfl, fun k d h => h.elim, ?_, rfl, rfl, rfl, fun j lo _ h => h.elim, fun b _ => rfl, fun j _ _ => none_ j, fun j _ _ => ?_, ?_, Nat.le_refl _⟩⟩
          · rw [hf0]; exact hp2
          · rw [hf0]; exact noneh j
          · rw [hf0]; exact Nat.le_refl _
      · cases he
end
end Go.Sim
