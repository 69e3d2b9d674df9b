import Derived.Test.YtkjgachpmebipaiGreatDoorSimP
/- What an operation looks at. -/
namespace Go.Sim
set_option linter.all false
open Go
variable [Rho] [Asm] [SymOK]

section
variable {T T' : Tm}
theorem oevs_cong {xs : List Opd} (h : ∀ x ∈ xs, oev T x = oev T' x) : oevs T xs = oevs T' xs := by
  induction xs with
  | nil => rfl
  | cons x xs ih =>
    simp only [oevs]
    rw [h x (by simp), ih fun y hy => h y (by simp [hy])]
theorem lay_cong {ps : List (Nat × Nat × Opd)} (h : ∀ x ∈ psO ps, oev T x = oev T' x) (z : List Value) : lay T z ps = lay T' z ps := by
  induction ps generalizing z with
  | nil => rfl
  | cons p ps ih =>
    obtain ⟨off, n, x⟩ := p
    simp only [lay]
    rw [h x (by simp [psO])]
    have ih' := ih (fun y hy => h y (by simp [psO, hy]))
    simp only [ih']
theorem cut_cong {lo hi : Option Opd} (h : ∀ x ∈ optO lo ++ optO hi, oev T x = oev T' x) (l top : Nat) : cut T l top lo hi = cut T' l top lo hi := by
  have h1 : cutHi T l top hi = cutHi T' l top hi := by
    cases hi with
    | none => rfl
    | some x => simp only [cutHi]; rw [h x (by simp [optO])]
  have h2 : ∀ m, cutLo T m lo = cutLo T' m lo := fun m => by
    cases lo with
    | none => rfl
    | some x => simp only [cutLo]; rw [h x (by simp [optO])]
  simp only [cut, h1, h2]
theorem evP_cong {o : POp} (h : ∀ x ∈ pO o, oev T x = oev T' x) : evP T o = evP T' o := by
  cases o
  case build z ps => simp only [evP, evPd, p_build]; rw [lay_cong h]
  case mkf fn xs ys =>
    simp only [evP, evPd, p_mkf]
    rw [oevs_cong (xs := xs) fun x hx => h x (by simp [pO, hx]), oevs_cong (xs := ys) fun x hx => h x (by simp [pO, hx])]
  case max xs => simp only [evP, evPd, p_max]; rw [oevs_cong (xs := xs) h]
  case min xs => simp only [evP, evPd, p_min]; rw [oevs_cong (xs := xs) h]
  case slcS size x lo hi =>
    simp only [evP, evPd, p_slcS]
    have hc := fun l top => cut_cong (T := T) (T' := T') (lo := lo) (hi := hi) (fun y hy => h y (by simp only [pO, List.mem_cons]; exact .inr hy)) l top
    simp only [hc]
    rw [h x (by simp [pO])]
  case slcT x lo hi =>
    simp only [evP, evPd, p_slcT]
    have hc := fun l top => cut_cong (T := T) (T' := T') (lo := lo) (hi := hi) (fun y hy => h y (by simp only [pO, List.mem_cons]; exact .inr hy)) l top
    simp only [hc]
    rw [h x (by simp [pO])]
  case slcA n size x lo hi =>
    simp only [evP, evPd, p_slcA]
    have hc := fun l top => cut_cong (T := T) (T' := T') (lo := lo) (hi := hi) (fun y hy => h y (by simp only [pO, List.mem_cons]; exact .inr hy)) l top
    simp only [hc]
    rw [h x (by simp [pO])]
  all_goals simp only [pO, List.mem_cons, List.not_mem_nil, or_false, forall_eq_or_imp, forall_eq] at h
  all_goals first
    | rfl
    | (simp only [evP, evPd, p_mov, p_pick, p_bin, p_eqB, p_eqG, p_isNil, p_neg, p_not, p_conv, p_mki, p_fld, p_idxA, p_idxS, p_shf, p_ext, p_fad, p_iadS, p_iadA, p_lenS, p_lenT, p_nilc, h]; done)
    | (simp only [evP, evPd, p_mov, p_pick, p_bin, p_eqB, p_eqG, p_isNil, p_neg, p_not, p_conv, p_mki, p_fld, p_idxA, p_idxS, p_shf, p_ext, p_fad, p_iadS, p_iadA, p_lenS, p_lenT, p_nilc, h.1, h.2]; done)
    | (simp only [evP, evPd, p_mov, p_pick, p_bin, p_eqB, p_eqG, p_isNil, p_neg, p_not, p_conv, p_mki, p_fld, p_idxA, p_idxS, p_shf, p_ext, p_fad, p_iadS, p_iadA, p_lenS, p_lenT, p_nilc, h.1, h.2.1, h.2.2]; done)
theorem evR_cong {o : ROp} (h : ∀ x ∈ rO o, oev T x = oev T' x) (t : Tr LO) : evR T t o = evR T' t o := by
  cases o <;> simp only [rO, List.mem_cons, List.not_mem_nil, or_false, forall_eq_or_imp, forall_eq] at h
  · simp only [evR, evRd, r_ld1, h]
  · simp only [evR, evRd, r_ldn, h]
  · simp only [evR, evRd, r_lkp, h.1, h.2]
  · simp only [evR, evRd, r_lenM, h]
theorem evA_cong {o : AOp} (h : ∀ x ∈ aO o, oev T x = oev T' x) : evA T o = evA T' o := by
  cases o
  · rfl
  · simp only [aO, List.mem_cons, List.not_mem_nil, or_false, forall_eq] at h
    simp only [evA, evAd, a_box, h]
  · simp only [evA, evAd, a_bsl]; rw [lay_cong h]
  · simp only [aO, List.mem_cons, List.not_mem_nil, or_false, forall_eq_or_imp, forall_eq] at h
    simp only [evA, evAd, a_mks, h.1, h.2]
  · rfl
  · simp only [aO, List.mem_cons, List.not_mem_nil, or_false, forall_eq] at h
    simp only [evA, evAd, a_rgs, h]
theorem evW_cong {β : Type} {o : WOp} (h : ∀ x ∈ wO o, oev T x = oev T' x) (s : St) (k : Value → St → Option β) : evW T s o k = evW T' s o k := by
  cases o <;> simp only [wO, List.mem_cons, List.not_mem_nil, or_false, forall_eq_or_imp, forall_eq] at h
  · simp only [evW, evWd, w_st, h.1, h.2]
  · simp only [evW, evWd, w_mup, h.1, h.2.1, h.2.2]
  · simp only [evW, evWd, w_app, h.1, h.2]
  · simp only [evW, evWd, w_cpy, h.1, h.2]
  · simp only [evW, evWd, w_clr, h]
  · simp only [evW, evWd, w_nxt, h]
/-- More blocks do not turn what is read. -/
theorem mapOf_mono {h h' : Tr LO} (hh : ∀ b o, h.get b = some o → h'.get b = some o) {n : Nat} {ag : Bool} {v : Value} {es : List (Value × Value)} (he : mapOf h n ag v = some es) : mapOf h' n ag v = some es := by
  unfold mapOf at he ⊢
  split at he
  · exact he
  · split at he
    · rename_i hg
      simp only [hh _ _ hg]
      exact he
    · cases he
  · cases he
theorem evR_mono {h h' : Tr LO} (hh : ∀ b o, h.get b = some o → h'.get b = some o) {o : ROp} {v : Value} (he : evR T h o = some v) : evR T h' o = some v := by
  cases o
  · simp only [evR, evRd, r_ld1] at he ⊢
    split at he
    · rename_i hp
      split at he
      · rename_i hg
        simp only [hh _ _ hg]
        exact he
      · cases he
    · cases he
  · simp only [evR, evRd, r_ldn] at he ⊢
    split at he
    · rename_i hp
      split at he
      · rename_i hg
        simp only [hh _ _ hg]
        exact he
      · cases he
    · cases he
  · simp only [evR, evRd, r_lkp] at he ⊢
    split at he
    · rename_i hk hm
      simp only [hk, mapOf_mono hh hm]
      exact he
    · cases he
  · simp only [evR, evRd, r_lenM] at he ⊢
    split at he
    · exact he
    · split at he
      · rename_i hg
        simp only [hh _ _ hg]
        exact he
      · cases he
    · cases he
end
end Go.Sim
