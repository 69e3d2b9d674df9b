import Derived.Test.YtkjgachpmebipaiGreatDoorSimY
/- Calls that are known under whatever numbers: they hold. -/
namespace Go.Sim
set_option linter.all false
open Go
variable [Rho] [Asm] [SymOK]
noncomputable section

def ιc (n : Nat) (bs : List Nat) (ι : Io) : Io := fun x => match Nat.blt x n with
  | true => ι x
  | false => match nthN bs (Nat.sub x n) with
    | some b => ι b
    | none => none
theorem nthN_lt : ∀ {bs : List Nat} {i b : Nat}, nthN bs i = some b → i < bs.length ∧ bs[i]? = some b
  | [], i, b, h => by cases h
  | c :: l, i, b, h => by
    cases i with
    | zero => cases h; simp
    | succ i => have := nthN_lt (bs := l) (i := i) h; simp; exact this
theorem nthN_eq : ∀ (bs : List Nat) (i : Nat), nthN bs i = bs[i]?
  | [], i => by simp [nthN]
  | c :: l, i => by
    cases i with
    | zero => simp [nthN]
    | succ i => simp [nthN, nthN_eq l i]
theorem lenN_eq : ∀ (l : List Nat), lenN l = l.length
  | [] => rfl
  | _ :: l => by simp [lenN, lenN_eq l]
theorem apN_eq : ∀ (l : List Nat) (b : Nat), apN l b = l ++ [b]
  | [], _ => rfl
  | c :: l, b => by simp [apN, apN_eq l b]
theorem mem_iff {b : Nat} : ∀ {l : List Nat}, mem b l = false → b ∉ l
  | [], _ => by simp
  | c :: l, h => by
    simp only [mem] at h
    split at h
    · cases h
    · rename_i hb
      have := Nat.ne_of_beq_eq_false hb
      simp only [List.mem_cons, not_or]
      exact ⟨this, mem_iff h⟩
structure OkB (n : Nat) (bs : List Nat) : Prop where
  nd : bs.Nodup
  ge : ∀ x ∈ bs, n ≤ x
theorem ιc_mono {n : Nat} {bs t : List Nat} {ι : Io} : Ext (ιc n bs ι) (ιc n (bs ++ t) ι) := fun x r h => by
  unfold ιc at h ⊢
  split at h
  · exact h
  · rename_i hb
    split at h
    · rename_i b hn
      have : nthN (bs ++ t) (Nat.sub x n) = some b := by
        rw [nthN_eq] at hn ⊢
        exact List.getElem?_append_left (List.getElem?_eq_some_iff.1 hn).1 ▸ hn
      simp only [this]
      exact h
    · cases h
theorem mblk_ok {n c b : Nat} {bs bs' : List Nat} (h : mblk n c b bs = some bs') (hk : OkB n bs) : OkB n bs' ∧ (∃ t, bs' = bs ++ t) ∧ ∀ (ι : Io) r, ι b = some r → ιc n bs' ι c = some r := by
  unfold mblk at h
  split at h
  · rename_i hb
    split at h
    · rename_i he
      cases h
      refine ⟨hk, ⟨[], by simp⟩, fun ι r hr => ?_⟩
      unfold ιc
      rw [hb, beqN he]
      exact hr
    · cases h
  · rename_i hb
    split at h
    · rename_i b' hn
      split at h
      · rename_i he
        cases h
        refine ⟨hk, ⟨[], by simp⟩, fun ι r hr => ?_⟩
        unfold ιc
        simp only [hb, hn, ← beqN he]
        exact hr
      · cases h
    · split at h
      · rename_i hc hm hn
        cases h
        rw [apN_eq]
        refine ⟨⟨?_, ?_⟩, ⟨[b], rfl⟩, fun ι r hr => ?_⟩
        · rw [List.nodup_append]
          refine ⟨hk.nd, by simp, ?_⟩
          intro x hx y hy
          simp at hy
          subst hy
          rintro rfl
          exact mem_iff hm hx
        · intro x hx
          rcases List.mem_append.1 hx with h | h
          · exact hk.ge x h
          · simp at h; subst h; exact Nat.le_of_ble_eq_true hn
        · unfold ιc
          have hcl := beqN hc
          rw [lenN_eq] at hcl
          have : nthN (bs ++ [b]) (Nat.sub c n) = some b := by
            rw [nthN_eq, hcl]; simp
          simp only [hb, this]
          exact hr
      · cases h
def MV (n : Nat) (u v : Value) (bs bs' : List Nat) : Prop := OkB n bs → OkB n bs' ∧ (∃ t, bs' = bs ++ t) ∧ ∀ (ι : Io) v', VR ι v v' → VR (ιc n bs' ι) u v'
def MVL (n : Nat) (l m : List Value) (bs bs' : List Nat) : Prop := OkB n bs → OkB n bs' ∧ (∃ t, bs' = bs ++ t) ∧ ∀ (ι : Io) m', LR ι m m' → LR (ιc n bs' ι) l m'
theorem mv_ok {n : Nat} : ∀ d, (∀ u v bs bs', mv n d u v bs = some bs' → MV n u v bs bs') ∧ ∀ l m bs bs', mvL n d l m bs = some bs' → MVL n l m bs bs' := by
  intro d
  induction d with
  | zero => exact ⟨fun u v bs bs' h => by simp [mv] at h, fun l m bs bs' h => by simp [mvL] at h⟩
  | succ d ih =>
    obtain ⟨ih1, ih2⟩ := ih
    constructor
    · intro u v bs bs' h
      unfold mv at h
      split at h
      · split at h
        · rename_i h1 h2
          cases h
          intro hk
          refine ⟨hk, ⟨[], by simp⟩, fun ι v' hv => ?_⟩
          rw [kindB_ok h1, eqI_ok h2]
          cases hv
          exact .int _ _
        · cases h
      · split at h
        · rename_i h1
          cases h
          intro hk
          refine ⟨hk, ⟨[], by simp⟩, fun ι v' hv => ?_⟩
          rw [sameB_ok h1]
          cases hv
          exact .bool _
        · cases h
      · split at h
        · rename_i h1
          cases h
          intro hk
          refine ⟨hk, ⟨[], by simp⟩, fun ι v' hv => ?_⟩
          rw [eqU_eq] at h1
          simp only [beq_iff_eq] at h1
          rw [h1]
          cases hv
          exact .str _
        · cases h
      · split at h
        · rename_i h1 h2 h3
          cases h
          intro hk
          refine ⟨hk, ⟨[], by simp⟩, fun ι v' hv => ?_⟩
          rw [← beqN h1, ← beqN h2] at hv
          have h3' := blt_true h3
          rw [hv.sl0I (by simpa using h3')]
          exact .sl0 _ _ (by simpa using h3')
        · cases h
      · split at h
        · rename_i h1 h2 h3
          intro hk
          obtain ⟨q1, q2, q3⟩ := mblk_ok h hk
          refine ⟨q1, q2, fun ι v' hv => ?_⟩
          rw [← beqN h1, ← beqN h2, ← beqN h3] at hv
          cases hv with
          | sl hb hk => exact .sl (q3 ι _ hb) hk
          | slU hb g1 g2 g3 g4 => exact .slU (q3 ι _ hb) g1 g2 g3 g4
        · cases h
      · split at h
        · rename_i h1
          intro hk
          obtain ⟨q1, q2, q3⟩ := mblk_ok h hk
          refine ⟨q1, q2, fun ι v' hv => ?_⟩
          rw [← beqN h1] at hv
          obtain ⟨r, c, rfl, hb⟩ := hv.ptrI
          exact .ptr (q3 ι _ hb)
        · cases h
      · split at h
        · rename_i h1
          cases h
          intro hk
          refine ⟨hk, ⟨[], by simp⟩, fun ι v' hv => ?_⟩
          rw [← seq_ok _ _ _ h1] at hv
          cases hv with
          | func hn => exact absurd rfl (hn _)
          | sym hd => exact .sym hd
          | symB hd => exact .symB hd
          | unk hs => exact .unk hs
          | opq e hs => exact .opq e hs
        · cases h
      · intro hk
        obtain ⟨q1, q2, q3⟩ := ih2 _ _ _ _ h hk
        refine ⟨q1, q2, fun ι v' hv => ?_⟩
        obtain ⟨l', rfl, hl⟩ := hv.aggI
        exact .agg (q3 ι _ hl)
      · intro hk
        obtain ⟨q1, q2, q3⟩ := ih2 _ _ _ _ h hk
        refine ⟨q1, q2, fun ι v' hv => ?_⟩
        obtain ⟨l', rfl, hl⟩ := hv.tupI
        exact .tup (q3 ι _ hl)
      · cases h
    · intro l m bs bs' h
      unfold mvL at h
      split at h
      · cases h
        intro hk
        refine ⟨hk, ⟨[], by simp⟩, fun ι m' hm => ?_⟩
        cases hm
        exact .nil
      · split at h
        · rename_i b1 hx
          intro hk
          obtain ⟨q1, ⟨t, q2⟩, q3⟩ := ih1 _ _ _ _ hx hk
          obtain ⟨r1, ⟨t', r2⟩, r3⟩ := ih2 _ _ _ _ h q1
          refine ⟨r1, ⟨t ++ t', by rw [r2, q2, List.append_assoc]⟩, fun ι m' hm => ?_⟩
          cases hm with
          | cons hv hl =>
            refine .cons (VR.mono ?_ (q3 ι _ hv)) (r3 ι _ hl)
            rw [r2]
            exact ιc_mono
        · cases h
      · cases h

/-! ### the memory that a known call asks for -/
def layB : List LO → Nat → Tr LO → Tr LO
  | [], _, h => h
  | o :: r, i, h => layB r (Nat.succ i) (Tr.set DH h i (some o))
theorem layB_get : ∀ {bl : List LO} {i : Nat} {h : Tr LO}, i + bl.length ≤ limH → ∀ b, (layB bl i h).get b = if i ≤ b ∧ b < i + bl.length then bl[b - i]? else h.get b
  | [], i, h, _, b => by simp only [layB, List.length_nil]; rw [if_neg (by omega)]
  | o :: r, i, h, hl, b => by
    simp only [List.length_cons] at hl
    simp only [layB]
    rw [layB_get (by show i + 1 + r.length ≤ limH; omega) b]
    have hg := Tr.get_set DH h i (some o) b (lim_le (by omega))
    by_cases h1 : i.succ ≤ b ∧ b < i.succ + r.length
    · rw [if_pos h1, if_pos (by simp; omega)]
      have : b - i = (b - i.succ) + 1 := by omega
      rw [this, List.getElem?_cons_succ]
    · rw [if_neg h1, hg]
      by_cases h2 : b = i
      · subst h2; rw [if_pos rfl, if_pos (by simp)]; simp
      · rw [if_neg h2, if_neg (by simp; omega)]
def Gen.h0 (k : Gen) : Tr LO := match k.tb with
  | none => .e
  | some (g, l) => Tr.set DH .e g (some (.ro l))
def Gen.st (k : Gen) : St := ⟨layB k.bl k.n k.h0, k.n + k.bl.length, k.n + k.bl.length, []⟩
def bchk (s : St) (n : Nat) : List LO → List Nat → Bool
  | [], [] => true
  | lo :: l, b :: bs => match s.h.get b with
    | some lo' => match loeq lo lo', flatO n lo with
      | true, true => bchk s n l bs
      | _, _ => false
    | none => false
  | _, _ => false
def tchk (s : St) (n : Nat) : Option (Nat × List Value) → Bool
  | none => true
  | some (g, l) => match Nat.blt g n, s.h.get g with
    | true, some lo => loeq (.ro l) lo
    | _, _ => false
def ghit (k : Gen) (fv : Value) (args : List Value) (s : St) : Bool := match fv with
  | .func (.func g) ⟨[]⟩ ⟨[]⟩ => match Nat.beq g k.f with
    | false => false
    | true => match mvL k.n 40 k.args args [] with
      | none => false
      | some bs => match tchk s k.n k.tb with
        | true => bchk s k.n k.bl bs
        | false => false
  | _ => false
theorem bchk_ok {s : St} {n : Nat} : ∀ {bl : List LO} {bs : List Nat}, bchk s n bl bs = true → bs.length = bl.length ∧ ∀ (i : Nat) (lo : LO), bl[i]? = some lo → ∃ b, bs[i]? = some b ∧ s.h.get b = some lo ∧ flatO n lo = true
  | [], [], _ => ⟨rfl, fun i lo h => by simp at h⟩
  | [], _ :: _, h => by simp [bchk] at h
  | _ :: _, [], h => by simp [bchk] at h
  | lo :: l, b :: bs, h => by
    simp only [bchk] at h
    split at h
    · rename_i lo' hb
      split at h
      · rename_i h1 h2
        obtain ⟨q1, q2⟩ := bchk_ok h
        refine ⟨by simp [q1], fun i x hx => ?_⟩
        cases i with
        | zero =>
          simp at hx
          subst hx
          exact ⟨b, by simp, by rw [hb, loeq_ok h1], h2⟩
        | succ i => simpa using q2 i x (by simpa using hx)
      · cases h
    · cases h
theorem WR.canon {P : Program} {ι : Io} {s : St} {w : World} {k : Gen} {bs : List Nat} (hW : WR P ι s w) (hok : OkB k.n bs) (ht : tchk s k.n k.tb = true) (hb : bchk s k.n k.bl bs = true) (hn : P.globals.size ≤ k.n) (hl : k.n + k.bl.length ≤ limH) :
    WR P (ιc k.n bs ι) k.st w := by
  obtain ⟨b1, b2⟩ := bchk_ok hb
  -- what a canonical block stands for
  have low : ∀ x, x < k.n → ιc k.n bs ι x = ι x := fun x hx => by
    unfold ιc
    have : Nat.blt x k.n = true := by simpa [Nat.blt_eq] using hx
    rw [this]
  have high : ∀ x, k.n ≤ x → ∀ r, ιc k.n bs ι x = some r → ∃ b, bs[x - k.n]? = some b ∧ ι b = some r := fun x hx r h => by
    unfold ιc at h
    have hb : Nat.blt x k.n = false := by
      cases hq : Nat.blt x k.n with
      | false => rfl
      | true => have := blt_true hq; omega
    rw [hb] at h
    simp only at h
    split at h
    · rename_i b hnb
      rw [nthN_eq] at hnb
      exact ⟨b, hnb, h⟩
    · cases h
  have high' : ∀ x b, k.n ≤ x → bs[x - k.n]? = some b → ιc k.n bs ι x = ι b := fun x b hx h => by
    unfold ιc
    have hb : Nat.blt x k.n = false := by
      cases hq : Nat.blt x k.n with
      | false => rfl
      | true => have := blt_true hq; omega
    rw [hb]
    simp only
    rw [show nthN bs (Nat.sub x k.n) = some b from by rw [nthN_eq]; exact h]
  have h0 : ∀ x o, k.h0.get x = some o → x < k.n ∧ s.h.get x = some o ∧ flatO k.n o = true := fun x o hx => by
    unfold Gen.h0 at hx
    cases htb : k.tb with
    | none => rw [htb] at hx; simp only at hx; rw [Tr.get_e] at hx; cases hx
    | some p =>
      obtain ⟨g, l⟩ := p
      rw [htb] at hx ht
      simp only [tchk] at ht
      split at ht
      · rename_i hg hlo
        have hg := blt_true hg
        simp only at hx
        rw [Tr.get_set DH _ _ _ _ (lim_le (by omega))] at hx
        split at hx
        · rename_i e
          subst e
          cases hx
          exact ⟨hg, by rw [hlo, ← loeq_ok ht], rfl⟩
        · rw [Tr.get_e] at hx; cases hx
      · cases ht
  have got : ∀ x o, k.st.h.get x = some o → (x < k.n ∧ s.h.get x = some o ∧ flatO k.n o = true) ∨ (k.n ≤ x ∧ ∃ b, bs[x - k.n]? = some b ∧ s.h.get b = some o ∧ flatO k.n o = true) := fun x o hx => by
    have hx' : (layB k.bl k.n k.h0).get x = some o := hx
    rw [layB_get hl] at hx'
    split at hx'
    · rename_i h
      exact .inr ⟨h.1, b2 _ _ hx'⟩
    · exact .inl (h0 x o hx')
  have backι : ∀ (b : Nat) (r : Nat × Nat), b < k.n → ι b = some r → ιc k.n bs ι b = some r := fun b r hb h => by rw [low b hb]; exact h
  refine ⟨?_, ?_, ?_, ?_, hl, Nat.le_refl _, fun b h => (by cases h), fun g c hg => ?_, ?_⟩
  · intro x o hx
    rcases got x o hx with ⟨h1, h2, h3⟩ | ⟨h1, b, h2, h3, h4⟩
    · obtain ⟨r, c, y, e1, e2, e3⟩ := hW.obj x o h2
      exact ⟨r, c, y, by rw [low x h1]; exact e1, e2, flatO_ok backι h3 e3⟩
    · obtain ⟨r, c, y, e1, e2, e3⟩ := hW.obj b o h3
      exact ⟨r, c, y, by rw [high' x b h1 h2]; exact e1, e2, flatO_ok backι h4 e3⟩
  · intro x y r c c' hx hy h1 h2
    have lift : ∀ z r c, k.st.h.get z ≠ none → ιc k.n bs ι z = some (r, c) → ∃ b, s.h.get b ≠ none ∧ ι b = some (r, c) ∧ ((z < k.n ∧ b = z) ∨ (k.n ≤ z ∧ bs[z - k.n]? = some b)) := fun z r c hz hι => by
      cases hq : k.st.h.get z with
      | none => exact absurd hq hz
      | some o =>
        rcases got z o hq with ⟨h1, h2, h3⟩ | ⟨h1, b, h2, h3, h4⟩
        · exact ⟨z, by rw [h2]; simp, by rw [low z h1] at hι; exact hι, .inl ⟨h1, rfl⟩⟩
        · exact ⟨b, by rw [h3]; simp, by rw [high' z b h1 h2] at hι; exact hι, .inr ⟨h1, h2⟩⟩
    obtain ⟨b, p1, p2, p3⟩ := lift x r c hx h1
    obtain ⟨b', q1, q2, q3⟩ := lift y r c' hy h2
    have e := hW.inj b b' r c c' p1 q1 p2 q2
    subst e
    rcases p3 with ⟨u1, u2⟩ | ⟨u1, u2⟩ <;> rcases q3 with ⟨v1, v2⟩ | ⟨v1, v2⟩
    · omega
    · have := hok.ge b (List.mem_of_getElem? v2); omega
    · have := hok.ge b (List.mem_of_getElem? u2); omega
    · obtain ⟨l1, l2⟩ := List.getElem?_eq_some_iff.1 u2
      obtain ⟨m1, m2⟩ := List.getElem?_eq_some_iff.1 v2
      have := (List.getElem_inj hok.nd (h₀ := l1) (h₁ := m1)).1 (by rw [l2, m2])
      omega
  · intro x r c h
    by_cases hx : x < k.n
    · rw [low x hx] at h; exact hW.bound _ _ _ h
    · obtain ⟨b, _, hb⟩ := high x (by omega) _ h
      exact hW.bound _ _ _ hb
  · intro x r h
    show x < k.n + k.bl.length
    by_cases hx : x < k.n
    · omega
    · obtain ⟨b, hb, _⟩ := high x (by omega) _ h
      have := (List.getElem?_eq_some_iff.1 hb).1
      omega
  · rw [low g (Nat.lt_of_lt_of_le (gsize_lt hg) hn)]
    exact hW.pin g c hg
  · refine hW.env.mono (fun x r c h => ?_) (Nat.le_refl _) fun _ _ _ => rfl
    by_cases hx : x < k.n
    · rw [low x hx] at h; exact .inl ⟨x, c, h⟩
    · obtain ⟨b, _, hb⟩ := high x (by omega) _ h
      exact .inl ⟨b, c, hb⟩

def GFact (P : Program) (k : Gen) : Prop := (P.globals.size ≤ k.n ∧ k.n + k.bl.length ≤ limH) ∧ ∀ (ι : Io) (w : World) (fv' : Value) (args' : List Value), VR ι (.func (.func k.f) ⟨[]⟩ ⟨[]⟩) fv' → LR ι k.args args' → WR P ι k.st w → CallR P fv' args' w fun v' w' => (∀ ι, VR ι k.v v') ∧ Kept w w'
inductive GL (P : Program) : List Gen → Prop
  | nil : GL P []
  | cons {k : Gen} {ks : List Gen} : GFact P k → GL P ks → GL P (k :: ks)
def gens (call : Value → List Value → St → Option (Value × St)) : List Gen → Value → List Value → St → Option (Value × St)
  | [], fv, args, s => call fv args s
  | k :: ks, fv, args, s => match ghit k fv args s with
    | true => some (k.v, s)
    | false => gens call ks fv args s
theorem gens_ok {P : Program} {call : Value → List Value → St → Option (Value × St)} (hc : CallOK P call) : ∀ {ks : List Gen}, GL P ks → CallOK P (gens call ks)
  | _, .nil => fun fv args s v s1 h => hc fv args s v s1 h
  | _, .cons (k := k) (ks := ks) hf hs => fun fv args s v s1 h => by
    simp only [gens] at h
    split at h
    · rename_i hh
      cases h
      intro ι w fv' args' q1 q2 q3
      unfold ghit at hh
      split at hh
      · split at hh
        · cases hh
        · rename_i hg
          split at hh
          · cases hh
          · rename_i bs hbs
            split at hh
            · rename_i ht
              obtain ⟨⟨hn, hl⟩, hf⟩ := hf
              obtain ⟨m1, _, m3⟩ := (mv_ok 40).2 _ _ _ _ hbs ⟨List.nodup_nil, fun x hx => by cases hx⟩
              have hcan := q3.canon m1 ht hh hn hl
              rw [beqN hg] at q1
              have q1' : VR (ιc k.n bs ι) (.func (.func k.f) ⟨[]⟩ ⟨[]⟩) fv' := by
                cases q1 with
                | func a b c =>
                  cases b
                  cases c
                  exact .func a .nil .nil
              refine CallR.mono (hf _ w fv' args' q1' (m3 ι _ q2) hcan) ?_
              rintro v' w' ⟨hv, hk⟩
              exact ⟨ι, hv ι, Po.kept q3 hk⟩
            · cases hh
      · cases hh
    · exact gens_ok hc hs fv args s v s1 h

end
end Go.Sim
