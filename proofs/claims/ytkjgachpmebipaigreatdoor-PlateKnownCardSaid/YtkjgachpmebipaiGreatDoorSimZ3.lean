import Derived.Test.YtkjgachpmebipaiGreatDoorSimZ2
/- All that is known, and the reckoner that uses it. -/
namespace Go.Sim
set_option linter.all false
open Go
variable [Rho] [Asm] [SymOK]
noncomputable section
/-! ### all that is known -/
structure Kb where
  w : Tr (List GenW)
  g : Tr (List Gen)
  c : Tr (List Chg)
def gOf (K : Kb) (f : Nat) : List Gen := match K.g.get f with
  | some l => l
  | none => []
def wOf (K : Kb) (f : Nat) : List GenW := match K.w.get f with
  | some l => l
  | none => []
def cOf (K : Kb) (f : Nat) : List Chg := match K.c.get f with
  | some l => l
  | none => []
def known (K : Kb) (call : Value → List Value → St → Option (Value × St)) (fv : Value) (args : List Value) (s : St) : Option (Value × St) := match fv with
  | .func (.func f) _ _ => chgs (gens (genws call (wOf K f)) (gOf K f)) (cOf K f) fv args s
  | _ => call fv args s
structure KbOK (P : Program) (K : Kb) : Prop where
  w : ∀ f l, K.w.get f = some l → GWL P l
  g : ∀ f l, K.g.get f = some l → GL P l
  c : ∀ f l, K.c.get f = some l → CL P l
theorem known_ok {P : Program} {K : Kb} (hK : KbOK P K) {call : Value → List Value → St → Option (Value × St)} (hc : CallOK P call) : CallOK P (known K call) := fun fv args s v s1 h => by
  unfold known at h
  split at h
  · rename_i f xs ys
    intro ι w fv' args' q1 q2 q3
    have hg : GL P (gOf K f) := by
      unfold gOf
      split
      · rename_i l hl; exact hK.g f l hl
      · exact .nil
    have hw : GWL P (wOf K f) := by
      unfold wOf
      split
      · rename_i l hl; exact hK.w f l hl
      · exact .nil
    have hcl : CL P (cOf K f) := by
      unfold cOf
      split
      · rename_i l hl; exact hK.c f l hl
      · exact .nil
    exact chgs_ok hcl h q1 q2 q3 fun h' => gens_ok (genws_ok hc hw) hg _ _ _ _ _ h' ι w fv' args' q1 q2 q3
  · exact hc fv args s v s1 h

def evCodeO (K : Kb) (tab : Tr FI) (n : Nat) : IC → Option Nat → List Nat → Tm → St → Option Cf :=
  Nat.rec (fun _ _ _ _ _ => none) (fun _ ih => Sim.K.codeF (known K (callB tab ih)) ih) n
/-- One call, itself gone through, whatever is known of it. -/
def evCall1 (K : Kb) (tab : Tr FI) (n : Nat) : Value → List Value → St → Option (Value × St) := callB tab (evCodeO K tab n)
section
variable {P : Program}
theorem evCodeO_ok (hm : P.follows .mixedOrders = true) {tab : Tr FI} (htab : TabOK P tab) {K : Kb} (hK : KbOK P K) : ∀ n, CodeOK P (evCodeO K tab n)
  | 0 => fun nt c ic rnd ds T s cf _ he => by cases he
  | n + 1 => by
    have ih := evCodeO_ok hm htab hK n
    have := codeB_ok hm (known_ok hK (callB_ok htab ih)) ih
    rw [← Sim.K.codeF_eq] at this
    exact this
theorem evCall1_ok (hm : P.follows .mixedOrders = true) {tab : Tr FI} (htab : TabOK P tab) {K : Kb} (hK : KbOK P K) (n : Nat) : CallOK P (evCall1 K tab n) := callB_ok htab (evCodeO_ok hm htab hK n)

/-- What a call comes to is as it was said. -/
def says (r : Option (Value × St)) (v : Value) (h : Tr LO) (n bs : Nat) (ws : List Nat) : Bool := match r with
  | none => false
  | some (v', s) => match veq 6 v' v, Nat.beq s.n n, Nat.beq s.bs bs with
    | true, true, true => match leq s.ws ws, tsub s.h h with
      | true, true => tsub h s.h
      | _, _ => false
    | _, _, _ => false
theorem says_ok {r : Option (Value × St)} {v : Value} {h : Tr LO} {n bs : Nat} {ws : List Nat} (e : says r v h n bs ws = true) : ∃ s, r = some (v, s) ∧ Like s ⟨h, n, bs, ws⟩ := by
  unfold says at e
  split at e
  · cases e
  · rename_i v' s
    split at e
    · rename_i h1 h2 h3
      split at e
      · rename_i h4 h5
        refine ⟨s, by rw [veq_ok _ _ _ h1], fun b => ?_, (beqN h2).symm, (beqN h3).symm, (leq_ok h4).symm⟩
        show h.get b = s.h.get b
        cases hq : s.h.get b with
        | some o => exact tsub_ok h5 _ o hq
        | none =>
          cases hr : h.get b with
          | none => rfl
          | some o =>
            have : s.h.get b = some o := tsub_ok e _ o hr
            rw [hq] at this
            cases this
      · cases e
    · cases e
/-- A call that was gone through is known, in that memory. -/
theorem cfact (hm : P.follows .mixedOrders = true) {tab : Tr FI} (htab : TabOK P tab) {K : Kb} (hK : KbOK P K) {k : Chg} {n : Nat} (hu : okU k k.upd = true) (h : says (evCall1 K tab n k.fv k.args k.s) k.v (applyU k.upd k.s.h) k.n1 k.s.bs k.ws1 = true) : CFact P k := by
  obtain ⟨s, hs, hl⟩ := says_ok h
  refine ⟨hu, fun ι w fv' args' h1 h2 h3 => CallR.mono (evCall1_ok hm htab hK n _ _ _ _ _ hs ι w fv' args' h1 h2 h3) ?_⟩
  rintro v' w' ⟨ι', hv, hp⟩
  exact ⟨ι', hv, hp.like hl⟩
/-- .. and under whatever numbers. -/
theorem gfact (hm : P.follows .mixedOrders = true) {tab : Tr FI} (htab : TabOK P tab) {K : Kb} (hK : KbOK P K) {k : Gen} {n : Nat} (hn : (Nat.ble P.globals.size k.n && (Nat.ble (k.n + k.bl.length) limH && flat 0 4 k.v)) = true)
    (h : says (evCall1 K tab n (.func (.func k.f) ⟨[]⟩ ⟨[]⟩) k.args k.st) k.v k.st.h k.st.n k.st.bs k.st.ws = true) : GFact P k := by
  simp only [Bool.and_eq_true] at hn
  obtain ⟨hn1, hn2, hf⟩ := hn
  obtain ⟨s, hs, hl⟩ := says_ok h
  refine ⟨⟨Nat.le_of_ble_eq_true hn1, Nat.le_of_ble_eq_true hn2⟩, fun ι w fv' args' h1 h2 h3 => CallR.mono (evCall1_ok hm htab hK n _ _ _ _ _ hs ι w fv' args' h1 h2 h3) ?_⟩
  rintro v' w' ⟨ι', hv, hp⟩
  exact ⟨fun ι => VR.backFlat (m := 0) (fun b r hb => by omega) 4 _ _ hf hv, (hp.like hl).whole rfl rfl⟩
/-- A call that was gone through, and that changed one block of what it was handed. -/
theorem gwfact (hm : P.follows .mixedOrders = true) {tab : Tr FI} (htab : TabOK P tab) {K : Kb} (hK : KbOK P K) {k : GenW} {n : Nat}
    (hn : (Nat.ble P.globals.size k.g.n && (Nat.ble (k.g.n + k.g.bl.length) limH && (flat 0 4 k.g.v && (flatO 0 k.out && Nat.blt k.i k.g.bl.length)))) = true)
    (h : says (evCall1 K tab n (.func (.func k.g.f) ⟨[]⟩ ⟨[]⟩) k.g.args k.g.st) k.g.v k.st1.h k.st1.n k.st1.bs k.st1.ws = true) : GWFact P k := by
  simp only [Bool.and_eq_true] at hn
  obtain ⟨hn1, hn2, hf, hfo, hi⟩ := hn
  have hi := blt_true hi
  have hn2' := Nat.le_of_ble_eq_true hn2
  obtain ⟨s, hs, hl⟩ := says_ok h
  refine ⟨⟨Nat.le_of_ble_eq_true hn1, hn2'⟩, fun ι w fv' args' h1 h2 h3 => CallR.mono (evCall1_ok hm htab hK n _ _ _ _ _ hs ι w fv' args' h1 h2 h3) ?_⟩
  rintro v' w' ⟨ι', hv, hp⟩
  have hp := hp.like hl
  refine ⟨fun ι => VR.backFlat (m := 0) (fun b r hb => by omega) 4 _ _ hf hv, ?_⟩
  have hget : (⟨k.st1.h, k.st1.n, k.st1.bs, k.st1.ws⟩ : St).h.get (k.g.n + k.i) = some k.out := by
    show (layB (setLO k.g.bl k.i k.out) k.g.n k.g.h0).get _ = _
    rw [setLO_eq, layB_get (by simpa using hn2') (k.g.n + k.i), if_pos (by simp; omega)]
    simp [hi]
  obtain ⟨r, c, x, e1, e2, e3⟩ := hp.wr.obj _ _ hget
  have hold : k.g.st.h.get (k.g.n + k.i) = some (k.g.bl[k.i]) := by
    show (layB k.g.bl k.g.n k.g.h0).get _ = _
    rw [layB_get hn2' (k.g.n + k.i), if_pos (by omega)]
    simp [hi]
  obtain ⟨r0, c0, x0, f1, f2, f3⟩ := h3.obj _ _ hold
  have := hp.ext _ _ f1
  rw [e1] at this
  cases this
  refine ⟨r, c, x, f1, fun ι => flatO_ok (m := 0) (fun b r hb => by omega) hfo e3, e2, hp.os, hp.tape, hp.output, hp.size, fun j hj hjr => hp.frame j hj fun b c hb => ?_⟩
  by_cases hb' : b = k.g.n + k.i
  · subst hb'
    rw [f1] at hb
    cases hb
    exact absurd rfl hjr
  · right
    refine ⟨?_, ?_⟩
    · have := h3.dom _ _ hb
      exact this
    · show b ∉ [k.g.n + k.i]
      simpa using hb'
/-- What a call comes to, in any world that holds the program's variables. -/
theorem open_any {f n0 : Nat} {as as' : List Value} {h0 : Tr LO} {v : Value} {n1 : Nat} {ws1 : List Nat} {upd : List (Nat × Option LO)} (h : CFact P ⟨.func (.func f) ⟨[]⟩ ⟨[]⟩, as, S1 h0 n0, v, n1, ws1, upd⟩) (has : LR (I1 P) as as') (hw1 : ws1 = []) (hn : P.globals.size = n0) (hl : Nat.ble n0 limH = true) (w : World) (hw : n0 ≤ w.heap.size) (ht : Laid1 P h0 w) (he : Rho.B ≤ w.heap.size ∧ ∀ k, P.globals.size ≤ k → k < Rho.B → w.heap[k]? = Rho.W0 k) :
    Calls P f ⟨as'⟩ w fun e w' => ∃ v' ι', e = .returned v' ∧ VR ι' v v' ∧ Kept w w' := by
  have hw0 := WR.first (h := h0) hn (Nat.le_of_ble_eq_true hl) hw ht he
  rcases h.2 (I1 P) w (.func (.func f) #[] #[]) as' (.func (fun _ e => by cases e) .nil .nil) has hw0 with ⟨g, xs, ys, fn, hf, hfn, hb, hname, hcall⟩ | ⟨r, lp, hf, _⟩
  · cases hf
    have hcall := hcall 0
    simp only [List.nil_append, List.append_nil] at hcall
    refine callsIn_wide.1 (CallsIn.mono hcall ?_)
    rintro e w' ⟨v', rfl, ι', hv, hp⟩
    refine ⟨v', ι', rfl, hv, ⟨hp.os, hp.tape, hp.output, hp.size, fun k hk => hp.frame k hk fun b c hb => .inr ⟨?_, ?_⟩⟩⟩
    · show b < n0
      have := gsize_lt (I1_inv hb).2
      omega
    · show b ∉ ws1
      rw [hw1]
      intro hm; cases hm
  · cases hf
theorem closed_any {f n0 : Nat} {h0 : Tr LO} {v : Value} {n1 : Nat} {ws1 : List Nat} {upd : List (Nat × Option LO)} (h : CFact P ⟨.func (.func f) ⟨[]⟩ ⟨[]⟩, [], S1 h0 n0, v, n1, ws1, upd⟩) (hw1 : ws1 = []) (hn : P.globals.size = n0) (hl : Nat.ble n0 limH = true) (w : World) (hw : n0 ≤ w.heap.size) (ht : Laid1 P h0 w) (he : Rho.B ≤ w.heap.size ∧ ∀ k, P.globals.size ≤ k → k < Rho.B → w.heap[k]? = Rho.W0 k) :
    Calls P f #[] w fun e w' => ∃ v' ι', e = .returned v' ∧ VR ι' v v' ∧ Kept w w' := open_any h .nil hw1 hn hl w hw ht he
end
end
end Go.Sim
