import Derived.Test.YtkjgachpmebipaiGreatDoorSimT4
import Derived.OrdersIn
namespace Go.Sim
set_option linter.all false
open Go
variable [Rho] [Asm] [SymOK]

theorem wpIn_of_value {P : Program} {l : Option Nat} {n : Nat} {o : Oper} {a : Act} {w w' : World} {v : Value} {K : Act → World → Prop} {Q : Exit → Act → World → Prop} (hd : ∀ c, o.op ≠ .defer c)
    (hr : (execOp a.eval o).run P w = .ok (.value v) w') (hK : K (a.put o.dst v) w') : o.wpIn (FW l) n P a w K Q := by
  refine ⟨fun _ _ => trivial, ?_⟩
  rw [Oper.semAt_eq _ _ _ hd, hr]
  exact hK

section
variable {P : Program} {call : Value → List Value → St → Option (Value × St)} {nt : Nat} {ops : Array Oper} {π σ : Nat → Nat} {dl : List DI} {n0 : Nat} {Tf : Nat → Tm} {Hf : Nat → St} {V : Nat → Value} {L : Nat → Option LO}
  {ι0 : Io} {s0 : St} {w0 : World} {a0 : Act} {D : Nat → Prop} {a : Act} {w : World} {ι : Io} {TD : Tm} {S : St} {c i : Nat} {d : DI}

/-- What is read comes out the same in the memory of those that are done. -/
theorem Inv.reads (R : Rg P call nt ops π σ dl n0 Tf Hf V L) (H : Inv P dl n0 Tf Hf V L ι0 s0 w0 a0 D a w ι TD S c) (hd : dl[i]? = some d) (hi : ¬ D i) (hm : ∀ k, d.m.testBit k = true → D k) {o : ROp} (ho : d.io.op = .r o) (hw : wanted (Tf i) d.io.grd = true) : evR (Tf i) S.h o = some (V i) := by
  have hmem : c ∈ d.cs := by
    rcases H.cC with rfl | ⟨k, e, rfl, h1, h2, h3⟩
    · rcases R.told.cs0 i d hd with h | ⟨k, e, h1, h2, h3⟩
      · exact h
      · have := H.cmax k e (hm k h3) h1 h2; omega
    · rcases R.told.csC i d k e hd h1 h2 with h | ⟨j, e', j1, j2, j3⟩
      · exact h
      · exfalso
        rcases j3 with ⟨j3, j4⟩ | ⟨j3, j4⟩
        · have := H.cmax j e' (hm j j4) j1 j2; omega
        · have hj : D j := by
            rcases Nat.lt_or_eq_of_le j3 with h | rfl
            · exact H.closed k e h3 h1 j (ok2_bit (R.told.two j k e' e h j1 h1) (.inr (.inr ⟨h2, .inl j2⟩)))
            · exact h3
          exact hi (H.closed j e' hj j1 i j4)
  refine evR_mono (fun b x hb => ?_) (R.chk i d o hd ho hw c hmem H.cle)
  rw [H.ext2 b fun j h1 h2 h3 h4 => ?_]
  · exact hb
  · subst h4
    rw [H.hnone j h1 (H.lt j h2)] at hb
    cases hb

theorem Inv.step (hcall : CallOK P call) (R : Rg P call nt ops π σ dl n0 Tf Hf V L) (H : Inv P dl n0 Tf Hf V L ι0 s0 w0 a0 D a w ι TD S c) (hs : nt ≤ a0.tmps.size) (hd : dl[i]? = some d) (hi : ¬ D i) (hm : ∀ k, d.m.testBit k = true → D k)
    {l : Option Nat} {n : Nat} {Q : Exit → Act → World → Prop} {K : Act → World → Prop} (hK : ∀ a' w', (∃ ι' TD' S' c', Inv P dl n0 Tf Hf V L ι0 s0 w0 a0 (And1 D i) a' w' ι' TD' S' c') → K a' w') : wpOpIn (FW l) n P ops Q (π i) K a w := by
  obtain ⟨o, ho, hio⟩ := R.io i d hd
  obtain ⟨h1, h2, hop, hgd⟩ := compIO_ok hio
  obtain ⟨ag, agw, agk⟩ := agree_op (H.agree R hd hi hm)
  have hst := R.run.step i d hd
  rw [Nat.zero_add] at hst
  unfold wpOpIn
  simp only [ho]
  unfold stepD at hst
  have hgk : wanted (Tf i) d.io.grd = true ∨ gOK (Tf i) d.io.grd = true := by
    cases hwt : wanted (Tf i) d.io.grd with
    | true => exact .inl rfl
    | false =>
      rw [hwt] at hst
      simp only at hst
      cases hgk : gOK (Tf i) d.io.grd with
      | true => exact .inr rfl
      | false => rw [hgk] at hst; cases hst
  rw [wanted_ok H.tr hgd (by rw [agw, agk]; exact hgk), agw]
  cases hwt : wanted (Tf i) d.io.grd with
  | false =>
    have hgk' : gOK (Tf i) d.io.grd = true := by
      rcases hgk with h | h
      · rw [hwt] at h; cases h
      · exact h
    rw [hwt] at hst
    simp only [hgk', Option.some.injEq, Prod.mk.injEq] at hst
    obtain ⟨e1, e2, e3⟩ := hst
    rw [if_neg (by simp)]
    refine ⟨fun _ _ => trivial, hK _ _ ?_⟩
    have hu : VR ι (V i) undef := by rw [← e1]; exact undef_ok ι
    rw [← h2]
    cases hC : isC d.io.op with
    | false => exact H.still R hs hd hi hm e3.symm hC hu (Po.refl H.po.wr)
    | true =>
      obtain ⟨hW, hgo⟩ := H.cstep R hs hd hi hm hC
      refine hgo _ ι w hu ?_
      rw [← e2]
      exact Po.refl hW
  | true =>
    rw [hwt] at hst
    rw [if_pos rfl]
    have uniform : ∀ {s1 : St}, WR P ι s1 w → evI call d.io TD s1 pairD = some (V i, Hf (i + 1), none) → ∃ s2, s2 = Hf (i + 1) ∧ ∀ l n, Goes P l n ι s1 w a o (V i) s2 := fun hW he => by
      obtain ⟨v, s2, hk, hgo⟩ := evI_ok hcall hop H.tr hW he
      simp only [pairD, Option.some.injEq, Prod.mk.injEq, and_true] at hk
      obtain ⟨k1, k2⟩ := hk
      subst k1
      exact ⟨s2, k2, hgo⟩
    cases hq : d.io.op with
    | p op =>
      rw [hq] at hst ag
      simp only at hst
      split at hst
      · rename_i v hv
        simp only [Option.some.injEq, Prod.mk.injEq] at hst
        obtain ⟨e1, e2, e3⟩ := hst
        have he : evI call d.io TD S pairV = some (V i, S) := by
          unfold evI
          rw [hq]
          simp only [i_p]
          rw [evP_cong ag, hv, e1]
          rfl
        obtain ⟨v1, s2, hk, hgo⟩ := evI_ok hcall hop H.tr H.po.wr he
        simp only [pairV, Option.some.injEq, Prod.mk.injEq] at hk
        obtain ⟨k1, k2⟩ := hk
        subst k1
        subst k2
        refine hgo l n _ _ fun v' ι' w' hv' hp => hK _ _ ?_
        rw [← h2]
        exact H.still R hs hd hi hm e3.symm (by rw [hq]; rfl) hv' hp
      · cases hst
    | r op =>
      rw [hq] at hst ag
      simp only at hst
      split at hst
      · rename_i v hv
        simp only [Option.some.injEq, Prod.mk.injEq] at hst
        obtain ⟨e1, e2, e3⟩ := hst
        have hrd := H.reads R hd hi hm hq hwt
        have he : evI call d.io TD S pairV = some (V i, S) := by
          unfold evI
          rw [hq]
          simp only [i_r]
          rw [evR_cong ag, hrd]
          rfl
        obtain ⟨v1, s2, hk, hgo⟩ := evI_ok hcall hop H.tr H.po.wr he
        simp only [pairV, Option.some.injEq, Prod.mk.injEq] at hk
        obtain ⟨k1, k2⟩ := hk
        subst k1
        subst k2
        refine hgo l n _ _ fun v' ι' w' hv' hp => hK _ _ ?_
        rw [← h2]
        exact H.still R hs hd hi hm e3.symm (by rw [hq]; rfl) hv' hp
      · cases hst
    | a op =>
      rw [hq] at hst ag hop
      simp only at hst
      split at hst
      · rename_i lo f hv
        rw [Tr.setK_eq] at hst
        simp only [Option.some.injEq, Prod.mk.injEq] at hst
        obtain ⟨e1, e2, e3⟩ := hst
        obtain ⟨k, x, g, hrun, hor, hvr⟩ := evA_ok (P := P) (ι := ι) (a := a) (compC1_a hop) H.tr (by rw [evA_cong ag]; exact hv)
        refine wpIn_of_value (notDefer (compC0_a hop)) (hrun w) (hK _ _ ?_)
        rw [← h2]
        exact H.anew R hs hd hi hm e3.symm e1.symm hor hvr
      · cases hst
    | w op =>
      obtain ⟨hW, hgo⟩ := H.cstep R hs hd hi hm (by rw [hq]; rfl)
      rw [hq] at hst ag
      simp only at hst
      have hlo : L i = none := by
        cases hl : L i with
        | none => rfl
        | some lo => have := R.lo hd (by rw [hl]; simp); rw [hq] at this; cases this
      obtain ⟨s2, rfl, hg2⟩ := uniform hW (by
        unfold evI
        rw [hq]
        simp only [i_w]
        rw [evW_cong ag, hst, hlo])
      refine hg2 l n _ _ fun v' ι' w' hv' hp => hK _ _ ?_
      rw [← h2]
      exact hgo v' ι' w' hv' hp
    | call f xs =>
      obtain ⟨hW, hgo⟩ := H.cstep R hs hd hi hm (by rw [hq]; rfl)
      rw [hq] at hst ag
      simp only at hst
      split at hst
      · rename_i v s1 hv
        simp only [Option.some.injEq, Prod.mk.injEq] at hst
        obtain ⟨e1, e2, e3⟩ := hst
        obtain ⟨s2, rfl, hg2⟩ := uniform hW (by
          unfold evI
          rw [hq]
          simp only [i_call]
          rw [ag f (by simp [iO]), oevs_cong fun x hx => ag x (by simp [iO, hx]), hv, e1, e2]
          rfl)
        refine hg2 l n _ _ fun v' ι' w' hv' hp => hK _ _ ?_
        rw [← h2]
        exact hgo v' ι' w' hv' hp
      · cases hst
end
end Go.Sim
