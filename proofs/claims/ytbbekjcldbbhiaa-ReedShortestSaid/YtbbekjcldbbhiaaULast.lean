/- ReedShortest: Shortest is what the reference finds, on the job given and on two made of numbers, and the same again, and it leaves its argument alone; the arguments read as they did. -/
import Derived.Test.YtbbekjcldbbhiaaRows
import Derived.ProofKit
import Derived.ChangeSlices
import Derived.Carry
import Derived.Test.YtbbekjcldbbhiaaU21
import Derived.Test.YtbbekjcldbbhiaaU24
import Derived.Test.YtbbekjcldbbhiaaU18
import Derived.Test.YtbbekjcldbbhiaaU25
import Derived.Test.YtbbekjcldbbhiaaU26
import Derived.Test.YtbbekjcldbbhiaaU36
import Derived.Test.YtbbekjcldbbhiaaU37
namespace Go.Proofs.Ytbbekjcldbbhiaa
set_option linter.all false
open Go Go.ChangeShapes Go.WideShapes Go.ChangeAt Go.RowKit

theorem job_JB : JobOKn 1 1 := by
  intro b w hp
  obtain ⟨t, s, hb⟩ := hp
  refine (Sim.JB.jobOf_any hb).mono ?_
  rintro e w' ⟨n, hn, a, c, rfl, hrg, hpt, hk⟩
  refine ⟨Sim.JB.jobJ s n, a, n, c, rfl, ?_, hrg, Sim.JB.job_check s n, ⟨hk.os, hk.tape, hk.output, hk.size, hk.heap⟩, hpt⟩
  show n = ((Sim.JB.jobS s).take n).length
  have : (Sim.JB.jobS s).length = 3 := rfl
  rw [List.length_take]
  omega
theorem job_JC : JobOKn 3 2 := by
  intro b w hp
  obtain ⟨t, s, hb⟩ := hp
  refine (Sim.JC.jobOf_any hb).mono ?_
  rintro e w' ⟨n, hn, a, c, rfl, hrg, hpt, hk⟩
  refine ⟨Sim.JC.jobJ s n, a, n, c, rfl, ?_, hrg, Sim.JC.job_check s n, ⟨hk.os, hk.tape, hk.output, hk.size, hk.heap⟩, hpt⟩
  show n = ((Sim.JC.jobS s).take n).length
  have : (Sim.JC.jobS s).length = 3 := rfl
  rw [List.length_take]
  omega
theorem tuned_any : TunOK := by
  intro w
  refine (@Sim.closed_any Sim.Rho.zero Sim.Asm.none (@Sim.SymOK.none Sim.Rho.zero) Try.prog 5 0 .e _ _ _ _ (@Sim.root_ok Sim.Rho.zero Sim.Asm.none (@Sim.SymOK.none Sim.Rho.zero)) rfl (by kernel_rfl) (by kernel_rfl) w (Nat.zero_le _) (fun b o hb => by rw [Sim.Tr.get_e] at hb; cases hb) ⟨Nat.zero_le _, fun k _ h => absurd h (Nat.not_lt_zero _)⟩).mono ?_
  rintro e w' ⟨v', ι', rfl, hv, hk⟩
  cases hv
  exact ⟨rfl, hk.os, hk.tape, hk.output, hk.size, hk.heap⟩
/-! ### the first list of strokes -/
theorem tri_lt : ∀ n, n < 7 → ∀ m, m < n → ∀ r, r < m + 1 → m * (m + 1) / 2 + r < n * (n + 1) / 2 := by decide
theorem tri_28 : ∀ n, n < 7 → ∀ r, r < n + 1 → n * (n + 1) / 2 + r < 28 := by decide
theorem fK_eq (J : Jb) (n r : Nat) (hn : n ≤ 6) (hr : r ≤ n) : Sim.fK J (n * (n + 1) / 2 + r) = Sim.fAR J (n - r) r := by
  rcases (by omega : n = 0 ∨ n = 1 ∨ n = 2 ∨ n = 3 ∨ n = 4 ∨ n = 5 ∨ n = 6) with rfl | rfl | rfl | rfl | rfl | rfl | rfl
  · rcases (by omega : r = 0) with rfl
    rfl
  · rcases (by omega : r = 0 ∨ r = 1) with rfl | rfl <;> rfl
  · rcases (by omega : r = 0 ∨ r = 1 ∨ r = 2) with rfl | rfl | rfl <;> rfl
  · rcases (by omega : r = 0 ∨ r = 1 ∨ r = 2 ∨ r = 3) with rfl | rfl | rfl | rfl <;> rfl
  · rcases (by omega : r = 0 ∨ r = 1 ∨ r = 2 ∨ r = 3 ∨ r = 4) with rfl | rfl | rfl | rfl | rfl <;> rfl
  · rcases (by omega : r = 0 ∨ r = 1 ∨ r = 2 ∨ r = 3 ∨ r = 4 ∨ r = 5) with rfl | rfl | rfl | rfl | rfl | rfl <;> rfl
  · rcases (by omega : r = 0 ∨ r = 1 ∨ r = 2 ∨ r = 3 ∨ r = 4 ∨ r = 5 ∨ r = 6) with rfl | rfl | rfl | rfl | rfl | rfl | rfl <;> rfl
theorem count_12 : ∀ (l : List Int), (∀ x ∈ l, x = 1 ∨ x = 2) → l.count 1 + l.count 2 = l.length
  | [], _ => rfl
  | x :: l, h => by
    have ih := count_12 l fun y hy => h y (List.mem_cons_of_mem _ hy)
    rcases h x List.mem_cons_self with rfl | rfl
    · have e1 : (1 :: l).count (1 : Int) = l.count 1 + 1 := by simp
      have e2 : (1 :: l).count (2 : Int) = l.count 2 := by simp
      rw [e1, e2, List.length_cons]
      omega
    · have e1 : (2 :: l).count (1 : Int) = l.count 1 := by simp
      have e2 : (2 :: l).count (2 : Int) = l.count 2 + 1 := by simp
      rw [e1, e2, List.length_cons]
      omega
theorem fineS_eq (J : Jb) (n : Nat) (hn : n ≤ 6) (l : List Int) (h : l ∈ plansL n) : l.count 2 ≤ n ∧ fineS J l = Sim.fK J (n * (n + 1) / 2 + l.count 2) := by
  have h12 := plans_12 n l h
  have hc := count_12 l h12
  rw [plansL_each n l h] at hc
  have h2 : l.count 2 ≤ n := by omega
  refine ⟨h2, ?_⟩
  rw [fK_eq J n _ hn h2]
  have e := Sim.after_AR J l h12 0 0
  rw [Sim.tgAR_0] at e
  unfold fineS Sim.fAR
  rw [e, show 0 + l.count 1 = n - l.count 2 from by omega, show 0 + l.count 2 = l.count 2 from by omega]
  rfl
def pfChk : Bool := (List.range 7).all fun n => (List.range (n + 1)).all fun r => (List.range 64).any fun i => ((plansL n)[i]? == some (Sim.lstK n r)) && (List.range i).all fun j => match (plansL n)[j]? with
  | some l => decide (l.count 2 < r)
  | none => true
theorem pfChk_ok : pfChk = true := by decide +kernel
theorem plan_first (n : Nat) (hn : n ≤ 6) (r : Nat) (hr : r ≤ n) : ∃ i : Nat, (plansL n)[i]? = some (Sim.lstK n r) ∧ ∀ j : Nat, j < i → ∀ l : List Int, (plansL n)[j]? = some l → l.count 2 < r := by
  have h := pfChk_ok
  unfold pfChk at h
  rw [List.all_eq_true] at h
  have h1 := h n (List.mem_range.2 (by omega))
  rw [List.all_eq_true] at h1
  have h2 := h1 r (List.mem_range.2 (by omega))
  rw [List.any_eq_true] at h2
  obtain ⟨i, _, h3⟩ := h2
  rw [Bool.and_eq_true] at h3
  refine ⟨i, by simpa using h3.1, fun j hj l hl => ?_⟩
  have h4 := h3.2
  rw [List.all_eq_true] at h4
  have h5 := h4 j (List.mem_range.2 hj)
  rw [hl] at h5
  simpa using h5
theorem short_conv {J : Jb} {w w' : World} {e : Ending} (h : Sim.ShortEnd J w e w') : ShortQ J w e w' := by
  obtain ⟨h, hb⟩ := h
  refine ⟨?_, hb⟩
  rcases h with ⟨n, r, hn, hr, h0, h1, a, c, rfl, his⟩ | ⟨h0, rfl⟩
  · obtain ⟨i, hi, hf⟩ := plan_first n hn r hr
    have hcr : (Sim.lstK n r).count 2 = r := by
      unfold Sim.lstK
      rw [List.count_append, List.count_replicate, List.count_replicate]
      simp
    refine .inl ⟨n, i, Sim.lstK n r, a, c, ⟨hn, hi, ?_, fun n' hn' l' hl' => ?_, fun i' hi' l' hl' => ?_⟩, rfl, his⟩
    · rw [(fineS_eq J n hn _ (List.mem_of_getElem? hi)).2, hcr]
      exact h1
    · obtain ⟨q1, q2⟩ := fineS_eq J n' (by omega) l' hl'
      rw [q2]
      have := tri_lt n (by omega) n' hn' (l'.count 2) (by omega)
      exact h0 _ (by omega)
    · obtain ⟨q1, q2⟩ := fineS_eq J n hn l' (List.mem_of_getElem? hl')
      rw [q2]
      have := hf i' hi' l' hl'
      exact h0 _ (by omega)
  · refine .inr ⟨fun n hn l hl => ?_, rfl⟩
    obtain ⟨q1, q2⟩ := fineS_eq J n hn l hl
    rw [q2]
    exact h0 _ (tri_28 n (by omega) _ (by omega))
theorem short_ok : ShortOK := fun J a n c w hc hn hm h => (Sim.shortest_any hc (check_ok hc).inn hn hm h).mono fun e w' q => short_conv q
theorem own : ownKnob Try.prog.godebug = none := by kernel_rfl
theorem laidOut : laidOutB Try.prog = true := by kernel_rfl
theorem cells3 : Try.prog.cellsOf 3 = 1 := by kernel_rfl

set_option maxRecDepth 100000 in
theorem lifted (os : Os) (started : os.Started) (H : Type) (enc : TypeId × Value → H) :
    ReturnsInHanded {} Try.checked os 3 .any (Rows.reedShortestSpec.pre6 enc Try.prog Try.f3 Rows.reedShortestRow.domain false) (Rows.reedShortestSpec.post enc Try.prog Try.f3 false true false false) := by
  refine returnsInHanded_of_change (C := Try.checked) own started (by kernel_rfl) Try.func3
    (ChangeSpec.witness6 (enc := enc) (C := Try.checked) false ⟨#[], #[.agg (jobC zeroJ (.slice none 0 0)), .slice none 0 0], []⟩ 8 (by kernel_rfl) (by kernel_rfl) (by kernel_rfl) (by kernel_rfl)) ?_
  intro W base args ds gs before hval0 hW _ _
  have hval : ∀ (j : Nat) t v, Try.f3.params[j]? = some t → args[j]? = some v → Value.okWide Try.prog W .any base t v := hval0
  have hW' := hW
  obtain ⟨p, q, hA0, hV, rfl, hfz, hnd⟩ := hW
  have hA : DataW.TrodAll enc Try.prog W 0 (fun _ => true) true Try.f3.params.toList args.toList ds p := hA0
  rw [Try.params3] at hA hval
  obtain ⟨v0, v1, d0, d1, p0, p1, rfl, rfl, rfl, h0, h1⟩ := trodAll_two hA
  obtain ⟨rfl, rfl⟩ := trodVars_none hV
  have h0k := h0
  have h1k := h1
  obtain ⟨J, ja, jn, jc, rfl, hjn, hjm, hrg⟩ := job_open (hval 0 _ _ rfl rfl) h0
  obtain ⟨a0, len, cap, rfl⟩ := okWide_slice Try.underlying31 (hval 1 31 v1 rfl rfl)
  obtain ⟨fuel, hf⟩ := h1
  clear hA0 hval0
  simp only [List.append_nil] at hW'
  have hlt : ∀ x ∈ p0 ++ p1, x.block < W.heap.size := fun x hx => by simpa using hW'.lt x hx
  have key : ∃ l : List Int, len = l.length ∧ len ≤ 9223372036854775807 ∧ Is W W.heap.size a0 l := by
    rcases open_ints Try.underlying31 Try.underlying3 cells3 hf with ⟨hcs, hx⟩ | ⟨a, len', cap', zs, hcs, _, hl, hm, hz, hx, hcell, hwz⟩
    · simp [Value.cells] at hcs
      obtain ⟨rfl, rfl, rfl⟩ := hcs
      exact ⟨[], rfl, Nat.zero_le _, Is.nil _ _ _⟩
    · simp [Value.cells] at hcs
      obtain ⟨rfl, rfl, rfl⟩ := hcs
      simp only [if_true] at hz
      refine ⟨zs.take len, by rw [List.length_take]; omega, by unfold maxLen at hm; omega, fun k x hk => ?_⟩
      have hk1 : k < (zs.take len).length := (List.getElem?_eq_some_iff.1 hk).1
      rw [List.length_take] at hk1
      have hk2 : zs[k]? = some x := by rw [List.getElem?_take_of_lt (by omega)] at hk; exact hk
      have hc := hcell k (by omega)
      have hd : zs.getD k 0 = x := by rw [List.getD, hk2]; rfl
      rw [hd] at hc
      have h0 := hcell 0 (by omega)
      obtain ⟨ab, ao, asp⟩ := a
      have e0 : (⟨ab, ao, asp⟩ : Addr).add 0 = ⟨ab, ao, asp⟩ := rfl
      rw [e0] at h0
      have hs : asp = none ∧ ab < W.heap.size := by
        unfold World.cell? at h0
        cases hq : W.heap[ab]? with
        | none => simp only [hq] at h0; cases h0
        | some o =>
          refine ⟨?_, (Array.getElem?_eq_some_iff.1 hq).1⟩
          simp only [hq] at h0
          cases o with
          | cells cs t f =>
            cases asp with
            | none => rfl
            | some z => simp at h0
          | _ => simp at h0
      obtain ⟨rfl, hb⟩ := hs
      refine ⟨ab, ao, rfl, hb, ?_⟩
      have ek : (⟨ab, ao, none⟩ : Addr).add k = ⟨ab, ao + k, none⟩ := by
        unfold Addr.add
        split
        · rename_i hk0; subst hk0; rfl
        · rfl
      rw [ek] at hc
      exact hc
  obtain ⟨l, hl, hm, his⟩ := key
  refine (shortest_law_any job_JB job_JC ⟨tuned_any, short_ok⟩ J ja jn jc a0 len cap l W hjn hjm hrg ⟨hl, hm⟩ his).mono fun e W' ⟨he, hw⟩ => ?_
  subst he
  have b0 := Below.trod laidOut (by kernel_rfl) (of_decide_eq_true (by kernel_rfl)) h0k hw (fun x hx => hlt x (by simp [hx]))
  have b1 := Below.trod laidOut (by kernel_rfl) (of_decide_eq_true (by kernel_rfl)) h1k hw (fun x hx => hlt x (by simp [hx]))
  refine ⟨_, rfl, _, _, _, [], p0 ++ p1, [], hW', ?_, ?_, ?_, hw.frame _, fun h => by cases h⟩
  · exact trodAll_mk1 (shut_bool Try.underlying4 true)
  · exact trodAll_cons_mk b0 (trodAll_mk1 b1)
  · rfl

theorem reedShortest_holds : Rows.ReedShortestSaid :=
  OpenClaim.holds_of_wide 3 Try.f3 rfl rfl rfl rfl rfl rfl rfl ⟨rfl, rfl, rfl, rfl, rfl⟩ rfl rfl rfl rfl rfl (by kernel_rfl) Try.func3 (by kernel_rfl)
    (of_decide_eq_true (by kernel_rfl)) (by unfold Func.isWrapper; first | (rw [if_pos (by decide +kernel)]; kernel_rfl) | (rw [if_neg (by decide +kernel)]; exact ⟨rfl, rfl⟩))
    (fun os started H enc _ => lifted os started H enc)
#print axioms reedShortest_holds
end Go.Proofs.Ytbbekjcldbbhiaa
