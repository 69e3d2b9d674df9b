import Derived.Test.YtkjgachpmebipaiGreatDoorSimX
/- Calls that are known are not gone through again. -/
namespace Go.Sim
set_option linter.all false
open Go
variable [Rho] [Asm] [SymOK]
noncomputable section

def leq : List Nat → List Nat → Bool
  | [], [] => true
  | a :: l, b :: m => match Nat.beq a b with
    | true => leq l m
    | false => false
  | _, _ => false
theorem leq_ok : ∀ {l m : List Nat}, leq l m = true → l = m
  | [], [], _ => rfl
  | [], _ :: _, h => by simp [leq] at h
  | _ :: _, [], h => by simp [leq] at h
  | a :: l, b :: m, h => by
    simp only [leq] at h
    split at h
    · rename_i h1; rw [beqN h1, leq_ok h]
    · cases h
def meq : List (Value × Value) → List (Value × Value) → Bool
  | [], [] => true
  | (a, b) :: l, (c, d) :: m => match veq 6 a c, veq 6 b d with
    | true, true => meq l m
    | _, _ => false
  | _, _ => false
theorem meq_ok : ∀ {l m : List (Value × Value)}, meq l m = true → l = m
  | [], [], _ => rfl
  | [], _ :: _, h => by simp [meq] at h
  | _ :: _, [], h => by simp [meq] at h
  | (a, b) :: l, (c, d) :: m, h => by
    simp only [meq] at h
    split at h
    · rename_i h1 h2; rw [veq_ok _ _ _ h1, veq_ok _ _ _ h2, meq_ok h]
    · cases h
def loeq : LO → LO → Bool
  | .cells l, .cells m => veq.veqL (veq 6) l m
  | .map n ag es, .map n' ag' es' => match Nat.beq n n', sameB ag ag' with
    | true, true => meq es es'
    | _, _ => false
  | .defd a, .defd b => sameB a b
  | .ro a, .ro b => veq.veqL (veq 6) a b
  | _, _ => false
theorem loeq_ok {a b : LO} (h : loeq a b = true) : a = b := by
  unfold loeq at h
  split at h
  · rw [veqL_ok (veq_ok 6) h]
  · split at h
    · rename_i h1 h2; rw [beqN h1, sameB_ok h2, meq_ok h]
    · cases h
  · rw [sameB_ok h]
  · rw [veqL_ok (veq_ok 6) h]
  · cases h
def oeq : Option LO → Option LO → Bool
  | none, none => true
  | some a, some b => loeq a b
  | _, _ => false
theorem oeq_ok {a b : Option LO} (h : oeq a b = true) : a = b := by
  unfold oeq at h
  split at h
  · rfl
  · rw [loeq_ok h]
  · cases h
/-- What the first holds, the second holds too. -/
def tsub : Tr LO → Tr LO → Bool
  | .e, _ => true
  | .n l v r, .n l' v' r' => match (match v with
      | none => true
      | some _ => oeq v v'), tsub l l' with
    | true, true => tsub r r'
    | _, _ => false
  | _, _ => false
theorem getP_n (l : Tr LO) (v : Option LO) (r : Tr LO) (p : Path) : Tr.getP p (.n l v r) = match p with
    | .e => v
    | .l p => Tr.getP p l
    | .r p => Tr.getP p r := by cases p <;> rfl
theorem tsub_ok : ∀ {a b : Tr LO}, tsub a b = true → ∀ p x, Tr.getP p a = some x → Tr.getP p b = some x
  | .e, _, _, p, x, h => by rw [Tr.getP_e] at h; cases h
  | .n _ _ _, .e, h, _, _, _ => by simp [tsub] at h
  | .n l v r, .n l' v' r', h, p, x, hx => by
    simp only [tsub] at h
    split at h
    · rename_i h1 h2
      rw [getP_n] at hx ⊢
      cases p with
      | e =>
        simp only at hx ⊢
        rw [hx] at h1
        rw [← oeq_ok h1]
      | l p => exact tsub_ok h2 p x hx
      | r p => exact tsub_ok h p x hx
    · cases h
/-- Worlds in which all that was there before is as it was. -/
theorem Po.kept {P : Program} {ι : Io} {s : St} {w w' : World} (hW : WR P ι s w) (hk : Kept w w') : Po P ι s w ι s w' where
  wr0 := hW
  ext := .refl _
  wr := {
    obj := fun b o hb => by
      obtain ⟨r, c, x, h1, h2, h3⟩ := hW.obj b o hb
      exact ⟨r, c, x, h1, by rw [hk.heap r (hW.bound _ _ _ h1)]; exact h2, h3⟩
    inj := hW.inj
    bound := fun b r c h => Nat.lt_of_lt_of_le (hW.bound b r c h) hk.size
    dom := hW.dom
    lim := hW.lim
    bsn := hW.bsn
    wsb := hW.wsb
    pin := hW.pin
    env := hW.env.mono (fun b r c h => .inl ⟨b, c, h⟩) hk.size fun k h _ => hk.heap k h }
  os := hk.os
  tape := hk.tape
  output := hk.output
  size := hk.size
  frame := fun k h _ => hk.heap k h
  newold := fun b r c h1 h2 => by rw [h1] at h2; cases h2
  newid := fun b r h1 h2 => by rw [h1] at h2; cases h2
  inv := fun _ _ _ => rfl
  dead := fun _ _ h => h
  bs := rfl
  nle := Nat.le_refl _
  wsm := fun _ h => h
/-- A call that has changed nothing of what is tracked, all of it being the caller's, has changed nothing. -/
theorem Po.whole {P : Program} {ι ι' : Io} {s : St} {w w' : World} (hp : Po P ι s w ι' s w') (h : s.bs = s.n) (hw : s.ws = []) : Kept w w' :=
  ⟨hp.os, hp.tape, hp.output, hp.size, fun k hk => hp.frame k hk fun b c hb => .inr ⟨by
    have := hp.wr0.dom b _ hb
    omega, by rw [hw]; intro h; cases h⟩⟩

section
variable {P : Program}
theorem CallR.mono {fv : Value} {args : List Value} {w : World} {R R' : Value → World → Prop} (h : CallR P fv args w R) (hR : ∀ v w, R v w → R' v w) : CallR P fv args w R' := by
  rcases h with ⟨g, xs, ys, fn, h1, h2, h3, h4, h5⟩ | ⟨r, lp, h1, h2, h3, h4⟩
  · refine .inl ⟨g, xs, ys, fn, h1, h2, h3, h4, fun n => CallsIn.mono (h5 n) ?_⟩
    rintro e w' ⟨v', rfl, hv⟩
    exact ⟨v', rfl, hR _ _ hv⟩
  · refine .inr ⟨r, lp, h1, h2, h3, fun n => RoundIn.mono (h4 n) ?_⟩
    rintro e w' ⟨v', rfl, hv⟩
    exact ⟨v', rfl, hR _ _ hv⟩

/-! ### calls that are known: in one memory -/
structure Chg where
  fv : Value
  args : List Value
  s : St
  v : Value
  n1 : Nat
  ws1 : List Nat
  upd : List (Nat × Option LO)
def applyU : List (Nat × Option LO) → Tr LO → Tr LO
  | [], h => h
  | (b, o) :: u, h => applyU u (Tr.set DH h b o)
def lookU (b : Nat) : List (Nat × Option LO) → Option (Option LO)
  | [] => none
  | (c, o) :: u => match lookU b u with
    | some o' => some o'
    | none => match Nat.beq b c with
      | true => some o
      | false => none
def Chg.s1 (k : Chg) : St := ⟨applyU k.upd k.s.h, k.n1, k.s.bs, k.ws1⟩
def okU (k : Chg) : List (Nat × Option LO) → Bool
  | [] => true
  | (b, _) :: u => match Nat.blt b limH, (match Nat.blt b k.s.n with
      | true => (match k.s.h.get b with
        | some _ => true
        | none => false)
      | false => true) with
    | true, true => okU k u
    | _, _ => false
theorem applyU_get : ∀ {u : List (Nat × Option LO)} {h : Tr LO} {k : Chg}, okU k u = true → ∀ j, (applyU u h).get j = match lookU j u with
    | some o => o
    | none => h.get j
  | [], h, k, _, j => rfl
  | (b, o) :: u, h, k, hk, j => by
    simp only [okU] at hk
    split at hk
    · rename_i h1 h2
      simp only [applyU, lookU]
      rw [applyU_get hk j]
      cases hl : lookU j u with
      | some o' => rfl
      | none =>
        simp only
        rw [Tr.get_set DH h b o j (lim_ok (blt_true h1))]
        cases hb : Nat.beq j b with
        | true => rw [if_pos (beqN hb)]
        | false => rw [if_neg (Nat.ne_of_beq_eq_false hb)]
    · cases hk
theorem okU_mem {k : Chg} : ∀ {u : List (Nat × Option LO)}, okU k u = true → ∀ j o, lookU j u = some o → k.s.n ≤ j ∨ k.s.h.get j ≠ none
  | [], _, j, o, h => by cases h
  | (b, o') :: u, hk, j, o, h => by
    simp only [okU] at hk
    split at hk
    · rename_i h1 h2
      simp only [lookU] at h
      split at h
      · rename_i hl
        exact okU_mem hk j _ hl
      · split at h
        · rename_i hb
          rw [beqN hb]
          split at h2
          · split at h2
            · rename_i hg; right; rw [hg]; simp
            · cases h2
          · rename_i hb; left; exact blt_false hb
        · cases h
    · cases hk
def chit (k : Chg) (fv : Value) (args : List Value) (s : St) : Bool := match veq 6 fv k.fv with
  | false => false
  | true => match veq.veqL (veq 6) args k.args, Nat.beq s.n k.s.n, Nat.beq s.bs k.s.bs with
      | true, true, true => match leq s.ws k.s.ws with
        | true => tsub k.s.h s.h
        | false => false
      | _, _, _ => false
theorem chit_ok {k : Chg} {fv : Value} {args : List Value} {s : St} (h : chit k fv args s = true) : fv = k.fv ∧ args = k.args ∧ s.n = k.s.n ∧ s.bs = k.s.bs ∧ s.ws = k.s.ws ∧ ∀ b o, k.s.h.get b = some o → s.h.get b = some o := by
  unfold chit at h
  split at h
  · cases h
  · rename_i h0
    split at h
    · rename_i h1 h2 h3
      split at h
      · rename_i h4
        exact ⟨veq_ok _ _ _ h0, veqL_ok (veq_ok 6) h1, beqN h2, beqN h3, leq_ok h4, fun b o hb => tsub_ok h _ o hb⟩
      · cases h
    · cases h
def CFact (P : Program) (k : Chg) : Prop := okU k k.upd = true ∧ ∀ (ι : Io) (w : World) (fv' : Value) (args' : List Value), VR ι k.fv fv' → LR ι k.args args' → WR P ι k.s w → CallR P fv' args' w fun v' w' => ∃ ι', VR ι' k.v v' ∧ Po P ι k.s w ι' k.s1 w'
inductive CL (P : Program) : List Chg → Prop
  | nil : CL P []
  | cons {k : Chg} {ks : List Chg} : CFact P k → CL P ks → CL P (k :: ks)
def chgs (call : Value → List Value → St → Option (Value × St)) : List Chg → Value → List Value → St → Option (Value × St)
  | [], fv, args, s => call fv args s
  | k :: ks, fv, args, s => match chit k fv args s with
    | true => some (k.v, ⟨applyU k.upd s.h, k.n1, s.bs, k.ws1⟩)
    | false => chgs call ks fv args s
theorem chgs_ok {call : Value → List Value → St → Option (Value × St)} {ks : List Chg} (hks : CL P ks) {fv : Value} {args : List Value} {s s1 : St} {v : Value} (h : chgs call ks fv args s = some (v, s1))
    {ι : Io} {w : World} {fv' : Value} {args' : List Value} (q1 : VR ι fv fv') (q2 : LR ι args args') (q3 : WR P ι s w) (hc : call fv args s = some (v, s1) → CallR P fv' args' w fun v' w' => ∃ ι', VR ι' v v' ∧ Po P ι s w ι' s1 w') :
    CallR P fv' args' w fun v' w' => ∃ ι', VR ι' v v' ∧ Po P ι s w ι' s1 w' := by
  induction hks with
  | nil => exact hc h
  | @cons k ks hf hs ih =>
    simp only [chgs] at h
    split at h
    · rename_i hh
      cases h
      obtain ⟨rfl, rfl, h1, h2, h3, h4⟩ := chit_ok hh
      obtain ⟨hu, hf⟩ := hf
      have hless := q3.less h4 h1.symm h2.symm h3.symm
      refine CallR.mono (hf ι w fv' args' q1 q2 hless) ?_
      rintro v' w' ⟨ι', hv, hp⟩
      refine ⟨ι', hv, hp.more (fun b => if k.s.h.get b = none then s.h.get b else none) q3 (fun b => ?_) (fun b => ?_) (fun b hb => ?_) h1 rfl h2 h2 h3 rfl⟩
      · cases hq : k.s.h.get b with
        | none => simp
        | some o => simp [h4 b o hq]
      · show (applyU k.upd s.h).get b = (if k.s.h.get b = none then s.h.get b else none).or ((applyU k.upd k.s.h).get b)
        rw [applyU_get hu b, applyU_get hu b]
        cases hl : lookU b k.upd with
        | none =>
          cases hq : k.s.h.get b with
          | none => simp
          | some o => simp [h4 b o hq]
        | some o =>
          simp only
          rcases okU_mem hu b o hl with hb | hb
          · have hs0 : s.h.get b = none := by
              cases hq : s.h.get b with
              | none => rfl
              | some x =>
                obtain ⟨r, c, y, e1, _⟩ := q3.obj b x hq
                have := q3.dom _ _ e1
                omega
            rw [hs0]
            split <;> rfl
          · rw [if_neg hb]; rfl
      · cases hq : k.s.h.get b with
        | none => rfl
        | some o => simp [hq] at hb
    · exact ih h

/-! ### calls that are known: whatever else lies about, and under whatever numbers -/
structure Gen where
  f : Nat
  args : List Value
  tb : Option (Nat × List Value)
  n : Nat
  bl : List LO
  v : Value
def nthN : List Nat → Nat → Option Nat
  | [], _ => none
  | b :: l, i => match i with
    | 0 => some b
    | i + 1 => nthN l i
def lenN : List Nat → Nat
  | [] => 0
  | _ :: l => Nat.succ (lenN l)
def apN : List Nat → Nat → List Nat
  | [], b => [b]
  | c :: l, b => c :: apN l b
/-- The actual block of a pattern's. -/
def mblk (n c b : Nat) (bs : List Nat) : Option (List Nat) := match Nat.blt c n with
  | true => match Nat.beq c b with
    | true => some bs
    | false => none
  | false => match nthN bs (Nat.sub c n) with
    | some b' => match Nat.beq b b' with
      | true => some bs
      | false => none
    | none => match Nat.beq (Nat.sub c n) (lenN bs), mem b bs, Nat.ble n b with
      | true, false, true => some (apN bs b)
      | _, _, _ => none
mutual
def mv (n : Nat) : Nat → Value → Value → List Nat → Option (List Nat)
  | 0, _, _, _ => none
  | d + 1, v, w, bs => match v, w with
    | .int k a, .int l b => match kindB k l, eqI a b with
      | true, true => some bs
      | _, _ => none
    | .bool a, .bool b => match sameB a b with
      | true => some bs
      | false => none
    | .string ⟨⟨a⟩⟩, .string ⟨⟨b⟩⟩ => match eqU a b with
      | true => some bs
      | false => none
    | .slice none x k, .slice none x' k' => match Nat.beq x x', Nat.beq k k', Nat.blt k 18446744073709551616 with
      | true, true, true => some bs
      | _, _, _ => none
    | .slice (some ⟨b, o, none⟩) x k, .slice (some ⟨b', o', none⟩) x' k' => match Nat.beq o o', Nat.beq x x', Nat.beq k k' with
      | true, true, true => mblk n b b' bs
      | _, _, _ => none
    | .pointer (some ⟨b, o, none⟩), .pointer (some ⟨b', o', none⟩) => match Nat.beq o o' with
      | true => mblk n b b' bs
      | false => none
    | .func (.yield t) ⟨a :: l⟩ ⟨[]⟩, w => match seq 60 (nd t a l) w with
      | true => some bs
      | false => none
    | .agg ⟨xs⟩, .agg ⟨ys⟩ => mvL n d xs ys bs
    | .tuple ⟨xs⟩, .tuple ⟨ys⟩ => mvL n d xs ys bs
    | _, _ => none
def mvL (n : Nat) : Nat → List Value → List Value → List Nat → Option (List Nat)
  | 0, _, _, _ => none
  | d + 1, l, m, bs => match l, m with
    | [], [] => some bs
    | x :: xs, y :: ys => match mv n d x y bs with
      | some bs' => mvL n d xs ys bs'
      | none => none
    | _, _ => none
end
end
end
end Go.Sim
