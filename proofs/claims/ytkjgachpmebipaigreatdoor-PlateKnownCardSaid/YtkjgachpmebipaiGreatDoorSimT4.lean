import Derived.Test.YtkjgachpmebipaiGreatDoorSimT3
namespace Go.Sim
set_option linter.all false
open Go
variable [Rho] [Asm] [SymOK]

/-- Some operations of the region are done. -/
structure Inv (P : Program) (dl : List DI) (n0 : Nat) (Tf : Nat → Tm) (Hf : Nat → St) (V : Nat → Value) (L : Nat → Option LO) (ι0 : Io) (s0 : St) (w0 : World) (a0 : Act) (D : Nat → Prop) (a : Act) (w : World) (ι : Io) (TD : Tm) (S : St) (c : Nat) : Prop where
  lt : ∀ i, D i → i < dl.length
  closed : ∀ (i : Nat) (d : DI), D i → dl[i]? = some d → ∀ k, d.m.testBit k = true → D k
  tr : TR ι TD a.tmps
  size : a.tmps.size = a0.tmps.size
  defers : a.defers = a0.defers
  done : ∀ (i : Nat) (d : DI) (t : Nat), D i → dl[i]? = some d → d.io.dst = some t → tget TD t = V i
  undone : ∀ t, (∀ (i : Nat) (d : DI), D i → dl[i]? = some d → d.io.dst ≠ some t) → tget TD t = tget (Tf 0) t
  cle : c ≤ dl.length
  cC : c = 0 ∨ ∃ (k : Nat) (d : DI), c = k + 1 ∧ dl[k]? = some d ∧ isC d.io.op = true ∧ D k
  cmax : ∀ (k : Nat) (d : DI), D k → dl[k]? = some d → isC d.io.op = true → k < c
  po : Po P ι0 s0 w0 ι S w
  n : S.n = (Hf c).n
  bs : S.bs = (Hf c).bs
  ws : S.ws = (Hf c).ws
  ext1 : ∀ j lo, c ≤ j → D j → L j = some lo → S.h.get (n0 + j) = some lo
  ext2 : ∀ b, (∀ j, c ≤ j → D j → L j ≠ none → b ≠ n0 + j) → S.h.get b = (Hf c).h.get b
  fresh : ∀ j, j < dl.length → ¬ D j → ι (n0 + j) = none
  hnone : ∀ j, c ≤ j → j < dl.length → (Hf c).h.get (n0 + j) = none
  nge : n0 + dl.length ≤ S.n
  n0le : s0.n ≤ n0

section
variable {P : Program} {call : Value → List Value → St → Option (Value × St)} {nt : Nat} {ops : Array Oper} {π σ : Nat → Nat} {dl : List DI} {n0 : Nat} {Tf : Nat → Tm} {Hf : Nat → St} {V : Nat → Value} {L : Nat → Option LO}
  {ι0 : Io} {s0 : St} {w0 : World} {a0 : Act} {D : Nat → Prop} {a : Act} {w : World} {ι : Io} {TD : Tm} {S : St} {c i : Nat} {d : DI}

def And1 (D : Nat → Prop) (i : Nat) : Nat → Prop := fun j => D j ∨ j = i

theorem Inv.agree (R : Rg P call nt ops π σ dl n0 Tf Hf V L) (H : Inv P dl n0 Tf Hf V L ι0 s0 w0 a0 D a w ι TD S c) (hd : dl[i]? = some d) (hi : ¬ D i) (hm : ∀ k, d.m.testBit k = true → D k) (t : Nat) (ht : looks d.io (some t) = true) : tget TD t = tget (Tf i) t := by
  have hil : i < dl.length := (List.getElem?_eq_some_iff.1 hd).1
  rcases R.tf t i (by omega) with ⟨j, e, h1, h2, h3, h4⟩ | ⟨h1, h2⟩
  · rw [h4]
    refine H.done j e t (hm j ?_) h2 h3
    exact ok2_bit (R.told.two j i e d h1 h2 hd) (.inl ⟨t, h3, ht⟩)
  · rw [h2]
    refine H.undone t fun j e hj he hdst => ?_
    rcases Nat.lt_trichotomy j i with hlt | rfl | hgt
    · exact h1 j e hlt he hdst
    · exact hi hj
    · have := ok2_bit (R.told.two i j d e hgt hd he) (.inr (.inl ⟨t, hdst, ht⟩))
      exact hi (H.closed j e hj he i this)

theorem agree_op {T T' : Tm} {o : Ins} (h : ∀ t, looks o (some t) = true → tget T t = tget T' t) : (∀ x ∈ iO o.op, oev T x = oev T' x) ∧ wanted T o.grd = wanted T' o.grd ∧ gOK T o.grd = gOK T' o.grd := by
  have look : ∀ t, looks o (some t) = false → (∀ x ∈ iO o.op, x ≠ .t t) ∧ ∀ t' b, o.grd = some (t', b) → t' ≠ t := fun t h => looks_ok h
  constructor
  · intro x hx
    cases x with
    | v x => rfl
    | t n =>
      simp only [oev]
      refine h n ?_
      cases hq : looks o (some n) with
      | true => rfl
      | false => exact absurd rfl ((look n hq).1 _ hx)
  · cases hg : o.grd with
    | none => exact ⟨rfl, rfl⟩
    | some p =>
      obtain ⟨t, b⟩ := p
      have e : tget T t = tget T' t := by
        refine h t ?_
        cases hq : looks o (some t) with
        | true => rfl
        | false => exact absurd rfl ((look t hq).2 _ _ hg)
      simp only [wanted, gOK, e]
      exact ⟨trivial, trivial⟩

/-- What is put down. -/
theorem Inv.put (R : Rg P call nt ops π σ dl n0 Tf Hf V L) (H : Inv P dl n0 Tf Hf V L ι0 s0 w0 a0 D a w ι TD S c) (hs : nt ≤ a0.tmps.size) (hd : dl[i]? = some d) (hi : ¬ D i) {ι' : Io} (he : Ext ι ι') {v' : Value} (hv : VR ι' (V i) v') :
    ∃ TD', TR ι' TD' (a.put d.io.dst v').tmps ∧ (a.put d.io.dst v').tmps.size = a0.tmps.size ∧ (a.put d.io.dst v').defers = a0.defers ∧
      (∀ (j : Nat) (e : DI) (t : Nat), And1 D i j → dl[j]? = some e → e.io.dst = some t → tget TD' t = V j) ∧ ∀ t, (∀ (j : Nat) (e : DI), And1 D i j → dl[j]? = some e → e.io.dst ≠ some t) → tget TD' t = tget (Tf 0) t := by
  have hdst := R.dst hd
  have ne : ∀ (j : Nat) (e : DI) (t : Nat), j ≠ i → dl[j]? = some e → e.io.dst = some t → d.io.dst ≠ some t := fun j e t hji hj ht hdt => by
    rcases Nat.lt_or_gt_of_ne hji with h | h
    · exact ok2_dst (R.told.two j i e d h hj hd) ht hdt
    · exact ok2_dst (R.told.two i j d e h hd hj) hdt ht
  obtain ⟨TD', e1, h1, h2, h3⟩ := put_ok (a := a) (T := TD) (k := fun T => T) hdst (by rw [H.size]; exact hs) (H.tr.mono he) hv
  have hg : ∀ t, tget TD' t = if d.io.dst = some t then V i else tget TD t := fun t => by
    cases hq : d.io.dst with
    | none => rw [hq] at e1; simp only [putD] at e1; rw [← e1]; simp
    | some t' =>
      rw [hq] at e1
      simp only [putD, Tr.setK_eq] at e1
      rw [← e1]
      show tget (tput TD t' (V i)) t = _
      rw [tget_put (R.dstT hd hq)]
      by_cases e : t = t'
      · subst e; simp
      · rw [if_neg e, if_neg (by simpa using Ne.symm e)]
  refine ⟨TD', h1, h2.trans H.size, h3.trans H.defers, fun j e t hj he' ht => ?_, fun t ht => ?_⟩
  · rw [hg]
    by_cases hji : j = i
    · subst hji
      rw [hd] at he'
      cases he'
      rw [if_pos ht]
    · rw [if_neg (ne j e t hji he' ht)]
      exact H.done j e t (hj.resolve_right hji) he' ht
  · rw [hg, if_neg (ht i d (.inr rfl) hd)]
    exact H.undone t fun j e hj he' => ht j e (.inl hj) he'

theorem Inv.cleC (R : Rg P call nt ops π σ dl n0 Tf Hf V L) (H : Inv P dl n0 Tf Hf V L ι0 s0 w0 a0 D a w ι TD S c) (hd : dl[i]? = some d) (hi : ¬ D i) (hk : isC d.io.op = true ∨ isA d.io.op = true) : c ≤ i := by
  rcases H.cC with rfl | ⟨k, e, rfl, h1, h2, h3⟩
  · exact Nat.zero_le _
  · rcases Nat.lt_trichotomy k i with h | rfl | h
    · exact h
    · exact absurd h3 hi
    · have := ok2_bit (R.told.two i k d e h hd h1) (.inr (.inr ⟨h2, hk⟩))
      exact absurd (H.closed k e h3 h1 i this) hi
theorem Inv.closed1 (H : Inv P dl n0 Tf Hf V L ι0 s0 w0 a0 D a w ι TD S c) (hd : dl[i]? = some d) (hm : ∀ k, d.m.testBit k = true → D k) : ∀ (j : Nat) (e : DI), And1 D i j → dl[j]? = some e → ∀ k, e.m.testBit k = true → And1 D i k := by
  intro j e hj he k hk
  rcases hj with hj | rfl
  · exact .inl (H.closed j e hj he k hk)
  · rw [hd] at he; cases he; exact .inl (hm k hk)
theorem Inv.lt1 (H : Inv P dl n0 Tf Hf V L ι0 s0 w0 a0 D a w ι TD S c) (hd : dl[i]? = some d) : ∀ j, And1 D i j → j < dl.length := fun j hj => by
  rcases hj with hj | rfl
  · exact H.lt j hj
  · exact (List.getElem?_eq_some_iff.1 hd).1

theorem Inv.still (R : Rg P call nt ops π σ dl n0 Tf Hf V L) (H : Inv P dl n0 Tf Hf V L ι0 s0 w0 a0 D a w ι TD S c) (hs : nt ≤ a0.tmps.size) (hd : dl[i]? = some d) (hi : ¬ D i) (hm : ∀ k, d.m.testBit k = true → D k)
    (hL : L i = none) (hC : isC d.io.op = false) {v' : Value} {ι' : Io} {w' : World} (hv : VR ι' (V i) v') (hp : Po P ι S w ι' S w') : ∃ ι' TD' S' c', Inv P dl n0 Tf Hf V L ι0 s0 w0 a0 (And1 D i) (a.put d.io.dst v') w' ι' TD' S' c' := by
  obtain ⟨TD', t1, t2, t3, t4, t5⟩ := H.put R hs hd hi hp.ext hv
  refine ⟨ι', TD', S, c, H.lt1 hd, H.closed1 hd hm, t1, t2, t3, t4, t5, H.cle, ?_, ?_, H.po.trans hp, H.n, H.bs, H.ws, ?_, ?_, ?_, H.hnone, H.nge, H.n0le⟩
  · rcases H.cC with h | ⟨k, e, h1, h2, h3, h4⟩
    · exact .inl h
    · exact .inr ⟨k, e, h1, h2, h3, .inl h4⟩
  · intro k e hk he hc
    rcases hk with hk | rfl
    · exact H.cmax k e hk he hc
    · rw [hd] at he; cases he; rw [hC] at hc; cases hc
  · intro j lo hj hD hl
    rcases hD with hD | rfl
    · exact H.ext1 j lo hj hD hl
    · rw [hL] at hl; cases hl
  · intro b hb
    exact H.ext2 b fun j h1 h2 h3 => hb j h1 (.inl h2) h3
  · intro j hj hD
    cases hq : ι' (n0 + j) with
    | none => rfl
    | some r =>
      have := hp.newid _ _ (H.fresh j hj fun h => hD (.inl h)) hq
      have := H.nge
      omega

theorem Inv.anew (R : Rg P call nt ops π σ dl n0 Tf Hf V L) (H : Inv P dl n0 Tf Hf V L ι0 s0 w0 a0 D a w ι TD S c) (hs : nt ≤ a0.tmps.size) (hd : dl[i]? = some d) (hi : ¬ D i) (hm : ∀ k, d.m.testBit k = true → D k)
    {lo : LO} {k : Nat} {x : Obj} {f g : Nat → Value} (hL : L i = some lo) (hV : V i = f (n0 + i)) (hor : ∀ ι', Ext ι ι' → OR P ι' k lo x) (hvr : ∀ (ι' : Io) b r, ι' b = some (r, k) → VR ι' (f b) (g r)) :
    ∃ ι' TD' S' c', Inv P dl n0 Tf Hf V L ι0 s0 w0 a0 (And1 D i) (a.put d.io.dst (g w.heap.size)) { w with heap := w.heap.push x } ι' TD' S' c' := by
  have hA := R.lo hd (by rw [hL]; simp)
  have hci := H.cleC R hd hi (.inr hA)
  have hil := H.lt1 hd i (.inr rfl)
  have hlim := R.lim
  have hnge := H.nge
  obtain ⟨ι', q1, q2, q3, q4⟩ := H.po.newAt (b := n0 + i) (by have := H.n0le; omega) (by omega) (H.fresh i hil hi) hor
  have hv := hvr ι' _ _ q1
  rw [← hV] at hv
  obtain ⟨TD', t1, t2, t3, t4, t5⟩ := H.put R hs hd hi q2 hv
  have hg : ∀ b, (Tr.set DH S.h (n0 + i) (some lo)).get b = if b = n0 + i then some lo else S.h.get b := fun b => Tr.get_set DH _ _ _ b (lim_le (by omega))
  refine ⟨ι', TD', _, c, H.lt1 hd, H.closed1 hd hm, t1, t2, t3, t4, t5, H.cle, ?_, ?_, q4, H.n, H.bs, H.ws, ?_, ?_, ?_, H.hnone, H.nge, H.n0le⟩
  · rcases H.cC with h | ⟨k, e, h1, h2, h3, h4⟩
    · exact .inl h
    · exact .inr ⟨k, e, h1, h2, h3, .inl h4⟩
  · intro k e hk he hc
    rcases hk with hk | rfl
    · exact H.cmax k e hk he hc
    · rw [hd] at he
      cases he
      exfalso
      cases hop : d.io.op <;> rw [hop] at hA hc <;> first | cases hA; done | cases hc; done
  · intro j lo' hj hD hl
    show (Tr.set DH S.h (n0 + i) (some lo)).get _ = _
    rw [hg]
    by_cases hji : j = i
    · subst hji; rw [if_pos rfl, ← hL, hl]
    · rw [if_neg (by omega)]; exact H.ext1 j lo' hj (hD.resolve_right hji) hl
  · intro b hb
    show (Tr.set DH S.h (n0 + i) (some lo)).get b = _
    rw [hg, if_neg (hb i hci (.inr rfl) (by rw [hL]; simp))]
    exact H.ext2 b fun j h1 h2 h3 => hb j h1 (.inl h2) h3
  · intro j hj hD
    rw [q3 _ (fun e => hD (.inr (by omega)))]
    exact H.fresh j hj fun h => hD (.inl h)

/-- The memory in which a call or a write is done. -/
theorem Inv.before (R : Rg P call nt ops π σ dl n0 Tf Hf V L) (H : Inv P dl n0 Tf Hf V L ι0 s0 w0 a0 D a w ι TD S c) (hd : dl[i]? = some d) (hi : ¬ D i) (hm : ∀ k, d.m.testBit k = true → D k) (hC : isC d.io.op = true) :
    c ≤ i ∧ S.n = (Hf i).n ∧ S.bs = (Hf i).bs ∧ S.ws = (Hf i).ws ∧ (∀ j, i ≤ j → j < dl.length → (Hf i).h.get (n0 + j) = none) ∧
    (∀ j lo, i < j → D j → L j = some lo → S.h.get (n0 + j) = some lo) ∧ ∀ b, (∀ j, i < j → D j → L j ≠ none → b ≠ n0 + j) → S.h.get b = (Hf i).h.get b := by
  have hci := H.cleC R hd hi (.inl hC)
  have hil := H.lt1 hd i (.inr rfl)
  have noC : ∀ (k : Nat) (e : DI), c ≤ k → k < i → dl[k]? = some e → isC e.io.op = false := fun k e h1 h2 he => by
    cases hq : isC e.io.op with
    | false => rfl
    | true =>
      have := ok2_bit (R.told.two k i e d h2 he hd) (.inr (.inr ⟨hC, .inl hq⟩))
      have := H.cmax k e (hm k this) he hq
      omega
  obtain ⟨b1, b2, b3, b4, b5⟩ := R.between i hci (by omega) noC
  have inD : ∀ j, c ≤ j → j < i → L j ≠ none → D j := fun j h1 h2 h3 => by
    obtain ⟨e, he⟩ : ∃ e, dl[j]? = some e := ⟨_, List.getElem?_eq_getElem (by omega)⟩
    exact hm j (ok2_bit (R.told.two j i e d h2 he hd) (.inr (.inr ⟨hC, .inr (R.lo he h3)⟩)))
  refine ⟨hci, H.n.trans b1.symm, H.bs.trans b2.symm, H.ws.trans b3.symm, fun j h1 h2 => ?_, fun j lo h1 h2 h3 => H.ext1 j lo (by omega) h2 h3, fun b hb => ?_⟩
  · rw [b5 _ fun k h3 h4 _ => by omega]
    exact H.hnone j (by omega) h2
  · by_cases hx : ∃ j, c ≤ j ∧ D j ∧ L j ≠ none ∧ b = n0 + j
    · obtain ⟨j, h1, h2, h3, rfl⟩ := hx
      cases hq : L j with
      | none => exact absurd hq h3
      | some lo =>
        rw [H.ext1 j lo h1 h2 hq]
        rcases Nat.lt_trichotomy j i with h | rfl | h
        · exact (b4 j lo h1 h hq).symm
        · exact absurd h2 hi
        · exact absurd rfl (hb j h h2 h3)
    · have hx' : ∀ j, c ≤ j → D j → L j ≠ none → b ≠ n0 + j := fun j h1 h2 h3 h4 => hx ⟨j, h1, h2, h3, h4⟩
      rw [H.ext2 b hx', b5 b fun j h1 h2 h3 => hx' j h1 (inD j h1 h2 h3) h3]

theorem Inv.cstep (R : Rg P call nt ops π σ dl n0 Tf Hf V L) (H : Inv P dl n0 Tf Hf V L ι0 s0 w0 a0 D a w ι TD S c) (hs : nt ≤ a0.tmps.size) (hd : dl[i]? = some d) (hi : ¬ D i) (hm : ∀ k, d.m.testBit k = true → D k)
    (hC : isC d.io.op = true) : WR P ι (Hf i) w ∧ ∀ (v' : Value) (ι' : Io) (w' : World), VR ι' (V i) v' → Po P ι (Hf i) w ι' (Hf (i + 1)) w' → ∃ ι' TD' S' c', Inv P dl n0 Tf Hf V L ι0 s0 w0 a0 (And1 D i) (a.put d.io.dst v') w' ι' TD' S' c' := by
  classical
  obtain ⟨hci, hn, hbs, hws, hnone, hx1, hx2⟩ := H.before R hd hi hm hC
  have hil := H.lt1 hd i (.inr rfl)
  have hlim := R.lim
  have hnge := H.nge
  let E : Nat → Option LO := fun b => if n0 ≤ b ∧ i < b - n0 ∧ D (b - n0) then L (b - n0) else none
  have hE : ∀ b, E b ≠ none → ∃ j, i < j ∧ D j ∧ L j ≠ none ∧ b = n0 + j := fun b hb => by
    have hb' : (if n0 ≤ b ∧ i < b - n0 ∧ D (b - n0) then L (b - n0) else none) ≠ none := hb
    split at hb'
    · rename_i hq; exact ⟨b - n0, hq.2.1, hq.2.2, hb', by omega⟩
    · exact absurd rfl hb'
  have hEj : ∀ j, i < j → D j → E (n0 + j) = L j := fun j h1 h2 => by
    show (if n0 ≤ n0 + j ∧ i < n0 + j - n0 ∧ D (n0 + j - n0) then L (n0 + j - n0) else none) = _
    rw [Nat.add_sub_cancel_left, if_pos ⟨by omega, h1, h2⟩]
  have hEn : ∀ b, (∀ j, i < j → D j → L j ≠ none → b ≠ n0 + j) → E b = none := fun b hb => by
    cases hq : E b with
    | none => rfl
    | some lo =>
      obtain ⟨j, h1, h2, h3, h4⟩ := hE b (by rw [hq]; simp)
      exact absurd h4 (hb j h1 h2 h3)
  have he : ∀ b, E b ≠ none → (Hf i).h.get b = none := fun b hb => by
    obtain ⟨j, h1, h2, _, rfl⟩ := hE b hb
    exact hnone j (by omega) (H.lt j h2)
  have hg : ∀ b, S.h.get b = (E b).or ((Hf i).h.get b) := fun b => by
    cases hq : E b with
    | some lo =>
      obtain ⟨j, h1, h2, h3, rfl⟩ := hE b (by rw [hq]; simp)
      rw [hEj j h1 h2] at hq
      exact hx1 j lo h1 h2 hq
    | none =>
      refine hx2 b fun j h1 h2 h3 h4 => ?_
      subst h4
      rw [hEj j h1 h2] at hq
      exact h3 hq
  have hW : WR P ι (Hf i) w := H.po.wr.less (fun b o hb => by
    rw [hg]
    cases hq : E b with
    | none => exact hb
    | some lo => rw [he b (by rw [hq]; simp)] at hb; cases hb) hn.symm hbs.symm hws.symm
  refine ⟨hW, fun v' ι' w' hv hp => ?_⟩
  obtain ⟨h', hh'⟩ := lay_blocks E n0 (Hf (i + 1)).h dl.length (fun b hb => by
    obtain ⟨j, h1, h2, _, rfl⟩ := hE b hb
    have := H.lt j h2
    omega) hlim
  have hp' := hp.more (S := S) (S' := ⟨h', (Hf (i + 1)).n, (Hf (i + 1)).bs, (Hf (i + 1)).ws⟩) E H.po.wr hg hh' he hn rfl hbs rfl hws rfl
  obtain ⟨TD', t1, t2, t3, t4, t5⟩ := H.put R hs hd hi hp.ext hv
  refine ⟨ι', TD', _, i + 1, H.lt1 hd, H.closed1 hd hm, t1, t2, t3, t4, t5, hil, .inr ⟨i, d, rfl, hd, hC, .inr rfl⟩, ?_, H.po.trans hp', rfl, rfl, rfl, ?_, ?_, ?_, ?_, ?_, H.n0le⟩
  · intro k e hk he' hc
    rcases hk with hk | rfl
    · have := H.cmax k e hk he' hc; omega
    · omega
  · intro j lo hj hD hl
    show h'.get _ = _
    have hD' : D j := hD.resolve_right (by omega)
    rw [hh', hEj j (by omega) hD', hl]
    rfl
  · intro b hb
    show h'.get b = _
    rw [hh', hEn b fun j h1 h2 h3 => hb j (by omega) (.inl h2) h3]
    rfl
  · intro j hj hD
    cases hq : ι' (n0 + j) with
    | none => rfl
    | some r =>
      have := hp'.newid _ _ (H.fresh j hj fun h => hD (.inl h)) hq
      omega
  · intro j h1 h2
    exact hp.dead _ (by rw [← hn]; omega) (hnone j (by omega) h2)
  · have := hp'.nle
    exact Nat.le_trans hnge this
end
end Go.Sim
