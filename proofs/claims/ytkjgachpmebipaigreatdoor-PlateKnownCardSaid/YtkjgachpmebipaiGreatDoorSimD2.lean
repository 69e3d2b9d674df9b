import Derived.Test.YtkjgachpmebipaiGreatDoorSimD
/- Numbers that are not known: they stand for what the machine has. -/
namespace Go.Sim
set_option linter.all false
open Go
variable [Rho] [Asm]

theorem kindB_eq {k l : IntKind} (h : kindB k l = true) : k = l := by cases k <;> cases l <;> first | rfl | (simp [kindB] at h)
theorem eqI_same {x y : Int} (h : eqI x y = true) : x = y := by
  unfold eqI at h
  cases x <;> cases y <;> simp_all [Nat.beq_eq]
theorem symK_ok {ι : Io} {v v' : Value} {k : IntKind} (h : symK v = some k) (hv : VR ι v v') : ∃ n, v' = .int k n ∧ Den v k n := by
  unfold symK at h
  split at h
  · cases h; cases hv; exact ⟨_, rfl, .lit _ _⟩
  · split at h
    · rename_i ht
      cases h
      cases hv with
      | func hn => exact absurd rfl (hn _)
      | sym hd =>
        have hk := hd
        cases hd <;> exact ⟨_, rfl, hk⟩
      | symB hd => cases hd <;> cases ht
    · cases h
  · cases h
theorem symBv_ok {ι : Io} {v v' : Value} (h : symBv v = true) (hv : VR ι v v') : ∃ b, v' = .bool b ∧ DenB v b := by
  unfold symBv at h
  split at h
  · cases hv; exact ⟨_, rfl, .lit _⟩
  · split at h
    · rename_i h20
      cases hv with
      | func hn => exact absurd rfl (hn _)
      | sym hd => cases hd <;> cases h20
      | symB hd => exact ⟨_, rfl, hd⟩
      | unk _ => cases h
      | opq _ _ => cases h
    · cases h
  · cases h
theorem seq_ok : ∀ (n : Nat) (v w : Value), seq n v w = true → v = w := by
  intro n
  induction n with
  | zero => intro v w h; simp [seq] at h
  | succ n ih =>
    intro v w h
    unfold seq at h
    split at h
    · split at h
      · rename_i hk; rw [kindB_eq hk, eqI_same h]
      · cases h
    · rfl
    · rfl
    · rfl
    · split at h
      · rename_i h1 h2
        have e1 := Nat.eq_of_beq_eq_true h1
        have e2 := ih _ _ h2
        subst e1 e2
        split at h
        · rfl
        · rw [ih _ _ h]
        · split at h
          · rename_i h3; rw [ih _ _ h3, ih _ _ h]
          · cases h
        · cases h
      · cases h
    · cases h
theorem lookA_ok {v : Value} : ∀ {l : List (Value × Bool)} {b : Bool}, lookA v l = some b → (v, b) ∈ l
  | [], b, h => by cases h
  | (u, c) :: l, b, h => by
    simp only [lookA] at h
    split at h
    · rename_i hs
      cases h
      rw [seq_ok _ _ _ hs]
      exact List.mem_cons_self
    · exact List.mem_cons_of_mem _ (lookA_ok h)
variable [SymOK]
theorem dec_ok {ι : Io} {t : Nat} {a : Value} {l : List Value} {b : Bool} (h : DenB (nd t a l) b) : VR ι (dec (nd t a l)) (.bool b) := by
  unfold dec
  split
  · rename_i c hc
    rw [SymOK.ok _ (lookA_ok hc) b h]
    exact .bool _
  · exact .symB h
theorem decNot_ok {ι : Io} {t : Nat} {a : Value} {l : List Value} {b : Bool} (h : DenB (nd t a l) b) : VR ι (notV (dec (nd t a l))) (.bool (!b)) := by
  unfold dec
  split
  · rename_i c hc
    rw [SymOK.ok _ (lookA_ok hc) b h]
    exact .bool _
  · exact .symB (.not h)
theorem symL_real {ι : Io} : ∀ {l m l' m' : List Value} {b : Bool}, symL l m = some b → LR ι l l' → LR ι m m' → sameL l' m' = some b
  | [], [], _, _, b, h, .nil, .nil => h
  | [], _ :: _, _, _, _, h, _, _ => by simp [symL] at h
  | _ :: _, [], _, _, _, h, _, _ => by simp [symL] at h
  | x :: l, y :: m, _, _, b, h, .cons (v' := x') hx hl, .cons (v' := y') hy hm => by
    simp only [symL] at h
    split at h
    · rename_i k k' hk hk'
      obtain ⟨p, rfl, dp⟩ := symK_ok hk hx
      obtain ⟨q, rfl, dq⟩ := symK_ok hk' hy
      have key : kindB k k' = true → ∀ c, (match same1 x y with
          | some b => Value.bool b
          | none => dec (nd 20 x [y])) = .bool c → same1 (.int k p) (.int k' q) = some c := fun hkk c hc => by
        have hkk' := kindB_eq hkk
        subst hkk'
        simp only [same1, hkk]
        have hden : DenB (nd 20 x [y]) (p == q) := .eq dp dq
        split at hc
        · rename_i b0 h0
          cases hc
          unfold same1 at h0
          split at h0
          · cases dp; cases dq; simpa [hkk] using h0
          · cases h0
        · have := dec_ok (ι := ι) hden
          rw [hc] at this
          cases this
          congr 1
          unfold eqI
          cases p <;> cases q <;> rw [Bool.eq_iff_iff] <;> simp [Nat.beq_eq] <;> omega
      split at h
      · rename_i h1 h2
        simp only [sameL, key h1 _ h2]
        exact symL_real h hl hm
      · rename_i h1 h2
        simp only [sameL, key h1 _ h2]
        exact h
      · cases h
    · cases h
end Go.Sim
