/- ReedStrokes: After, Worst, Spoiled and Fine answer as the reference does, for any job of at most 20 shifts and any strokes, at most 20, and for jobs and strokes made of numbers; the arguments read as they did. -/
import Derived.Test.YtdficjnnlaicpaaRows
import Derived.ProofKit
import Derived.ChangeSlices
import Derived.Carry
import Derived.Test.YtdficjnnlaicpaaT38
import Derived.Test.YtdficjnnlaicpaaT39
import Derived.Test.YtdficjnnlaicpaaT40
import Derived.Test.YtdficjnnlaicpaaT34
import Derived.Test.YtdficjnnlaicpaaT35
namespace Go.Proofs.Ytdficjnnlaicpaa
set_option linter.all false
open Go Go.ChangeShapes Go.WideShapes Go.ChangeAt Go.RowKit

theorem job_post : JobOK := by
  intro b w hp
  obtain ⟨t, s, hb⟩ := hp
  refine (Sim.jobOf_any hb).mono ?_
  rintro e w' ⟨n, hn, a, c, rfl, hrg, hpt, hk⟩
  refine ⟨Sim.jobJ s n, a, n, c, rfl, ?_, hrg, Sim.job_check s n, ⟨hk.os, hk.tape, hk.output, hk.size, hk.heap⟩, hpt⟩
  show n = ((Sim.jobS s).take n).length
  have : (Sim.jobS s).length = 3 := rfl
  rw [List.length_take]
  omega
theorem tuned_any : TunOK := by
  intro w
  refine (@Sim.closed_any Sim.Rho.zero Sim.Asm.none (@Sim.SymOK.none Sim.Rho.zero) Try.prog 5 0 .e _ _ _ _ (@Sim.root_ok Sim.Rho.zero Sim.Asm.none (@Sim.SymOK.none Sim.Rho.zero)) rfl (by kernel_rfl) (by kernel_rfl) w (Nat.zero_le _) (fun b o hb => by rw [Sim.Tr.get_e] at hb; cases hb) ⟨Nat.zero_le _, fun k _ h => absurd h (Nat.not_lt_zero _)⟩).mono ?_
  rintro e w' ⟨v', ι', rfl, hv, hk⟩
  cases hv
  exact ⟨rfl, hk.os, hk.tape, hk.output, hk.size, hk.heap⟩
theorem fine_ok : FineOK := fun J a n c w hJ hn h => Sim.fine_any' hJ hn h
theorem own : ownKnob Try.prog.godebug = none := by kernel_rfl
theorem laidOut : laidOutB Try.prog = true := by kernel_rfl
theorem cells3 : Try.prog.cellsOf 3 = 1 := by kernel_rfl
section
variable {H : Type} {enc : TypeId × Value → H}
theorem trodAll_five {P : Program} {w : World} {base : Nat} {spare : Nat → Bool} {held : Bool} {t t' t2 t3 t4 : TypeId} {args : Array Value} {ds : List (DataW H)} {ps : List MemPlace} (h : DataW.TrodAll enc P w base spare held [t, t', t2, t3, t4] args.toList ds ps) :
    ∃ v v' v2 v3 v4 d d' d2 d3 d4 p p' p2 p3 p4, args = #[v, v', v2, v3, v4] ∧ ds = [d, d', d2, d3, d4] ∧ ps = p ++ p' ++ p2 ++ p3 ++ p4 ∧ DataW.Trod enc P w base spare held t v d p ∧ DataW.Trod enc P w base spare held t' v' d' p' ∧ DataW.Trod enc P w base spare held t2 v2 d2 p2 ∧ DataW.Trod enc P w base spare held t3 v3 d3 p3 ∧ DataW.Trod enc P w base spare held t4 v4 d4 p4 := by
  obtain ⟨v, vs, d, ds', p, q, hargs, rfl, rfl, hd, hrest⟩ := trodAll_cons h
  obtain ⟨v', vs', d', e2, p', q', rfl, rfl, rfl, hd', hr1⟩ := trodAll_cons hrest
  obtain ⟨v2, vs2, d2, e3, p2, q2, rfl, rfl, rfl, hd2, hr2⟩ := trodAll_cons hr1
  obtain ⟨v3, vs3, d3, ds3, p3, q3, rfl, rfl, rfl, hd3, hrest3⟩ := trodAll_cons hr2
  obtain ⟨v4, vs4, d4, ds4, p4, q4, rfl, rfl, rfl, hd4, hrest4⟩ := trodAll_cons hrest3
  obtain ⟨rfl, rfl, rfl⟩ := trodAll_nil hrest4
  exact ⟨v, v', v2, v3, v4, d, d', d2, d3, d4, p, p', p2, p3, p4, by cases args; simp_all, rfl, by simp, hd, hd', hd2, hd3, hd4⟩
theorem ints_key {W : World} {fuel len cap : Nat} {a0 : Option Addr} {z : DataW H × List MemPlace} (hf : DataW.trod enc Try.prog W 0 (fun _ => true) true fuel 31 (Value.slice a0 len cap).cells.toList = some z) : ∃ l : List Int, len = l.length ∧ len ≤ 9223372036854775807 ∧ Is W W.heap.size a0 l := by
  rcases open_ints Try.underlying31 Try.underlying3 cells3 hf with ⟨hcs, hx⟩ | ⟨a, len', cap', zs, hcs, _, hl, hm, hz, hx, hcell, hwz⟩
  · simp [Value.cells] at hcs
    obtain ⟨rfl, rfl, rfl⟩ := hcs
    exact ⟨[], rfl, Nat.zero_le _, Is.nil _ _ _⟩
  · simp [Value.cells] at hcs
    obtain ⟨rfl, rfl, rfl⟩ := hcs
    simp only [if_true] at hz
    refine ⟨zs.take len, by rw [List.length_take]; omega, by unfold maxLen at hm; omega, fun k x hk => ?_⟩
    have hk1 : k < (zs.take len).length := (List.getElem?_eq_some_iff.1 hk).1
    rw [List.length_take] at hk1
    have hk2 : zs[k]? = some x := by rw [List.getElem?_take_of_lt (by omega)] at hk; exact hk
    have hc := hcell k (by omega)
    have hd : zs.getD k 0 = x := by rw [List.getD, hk2]; rfl
    rw [hd] at hc
    have h0 := hcell 0 (by omega)
    obtain ⟨ab, ao, asp⟩ := a
    have e0 : (⟨ab, ao, asp⟩ : Addr).add 0 = ⟨ab, ao, asp⟩ := rfl
    rw [e0] at h0
    have hs : asp = none ∧ ab < W.heap.size := by
      unfold World.cell? at h0
      cases hq : W.heap[ab]? with
      | none => simp only [hq] at h0; cases h0
      | some o =>
        refine ⟨?_, (Array.getElem?_eq_some_iff.1 hq).1⟩
        simp only [hq] at h0
        cases o with
        | cells cs t f =>
          cases asp with
          | none => rfl
          | some z => simp at h0
        | _ => simp at h0
    obtain ⟨rfl, hb⟩ := hs
    refine ⟨ab, ao, rfl, hb, ?_⟩
    have ek : (⟨ab, ao, none⟩ : Addr).add k = ⟨ab, ao + k, none⟩ := by
      unfold Addr.add
      split
      · rename_i hk0; subst hk0; rfl
      · rfl
    rw [ek] at hc
    exact hc
end
set_option maxRecDepth 100000 in
theorem lifted (os : Os) (started : os.Started) (H : Type) (enc : TypeId × Value → H) :
    ReturnsInHanded {} Try.checked os 4 .any (Rows.reedStrokesSpec.pre6 enc Try.prog Try.f4 Rows.reedStrokesRow.domain false) (Rows.reedStrokesSpec.post enc Try.prog Try.f4 false true false false) := by
  refine returnsInHanded_of_change (C := Try.checked) own started (by kernel_rfl) Try.func4
    (ChangeSpec.witness6 (enc := enc) (C := Try.checked) false ⟨#[], #[.agg (jobC zeroJ (.slice none 0 0)), .slice none 0 0, .int .i64 0, .int .i64 0, .slice none 0 0], []⟩ 8 (by kernel_rfl) (by kernel_rfl) (by kernel_rfl) (by kernel_rfl)) ?_
  intro W base args ds gs before hval0 hW _ _
  have hval : ∀ (j : Nat) t v, Try.f4.params[j]? = some t → args[j]? = some v → Value.okWide Try.prog W .any base t v := hval0
  have hW' := hW
  obtain ⟨p, q, hA0, hV, rfl, hfz, hnd⟩ := hW
  have hA : DataW.TrodAll enc Try.prog W 0 (fun _ => true) true Try.f4.params.toList args.toList ds p := hA0
  rw [Try.params4] at hA hval
  obtain ⟨v0, v1, v2, v3, v4, d0, d1, d2, d3, d4, p0, p1, p2, p3, p4, rfl, rfl, rfl, h0, h1, h2, h3, h4⟩ := trodAll_five hA
  obtain ⟨rfl, rfl⟩ := trodVars_none hV
  have h0k := h0
  have h1k := h1
  have h2k := h2
  have h3k := h3
  have h4k := h4
  obtain ⟨J, ja, jn, jc, rfl, hjn, hjm, hrg⟩ := job_open (hval 0 _ _ rfl rfl) h0
  obtain ⟨sa, sn, sc, rfl⟩ := okWide_slice Try.underlying31 (hval 1 31 v1 rfl rfl)
  obtain ⟨fuel1, hf1⟩ := h1
  obtain ⟨sl, hsl, hsm, hss⟩ := ints_key hf1
  have hint : ∃ r, v2 = .int .i64 r ∧ (-9223372036854775808 ≤ r ∧ r ≤ 9223372036854775807) := by
    obtain ⟨r, rfl, _, _, hw⟩ := open_int Try.underlying3 (hval 2 _ _ rfl rfl) h2
    refine ⟨r, rfl, ?_⟩
    simp [Lit.wf, IntKind.min, IntKind.max, IntKind.bits, IntKind.signed] at hw
    exact hw
  obtain ⟨atv, rfl, hat⟩ := hint
  obtain ⟨byv, rfl, _, _, _⟩ := open_int Try.underlying3 (hval 3 _ _ rfl rfl) h3
  obtain ⟨na, nn, nc, rfl⟩ := okWide_slice Try.underlying31 (hval 4 31 v4 rfl rfl)
  obtain ⟨fuel4, hf4⟩ := h4
  obtain ⟨nl, hnl, hnm, hns⟩ := ints_key hf4
  clear hA0 hval0
  simp only [List.append_nil] at hW'
  have hlt : ∀ x ∈ p0 ++ p1 ++ p2 ++ p3 ++ p4, x.block < W.heap.size := fun x hx => by simpa using hW'.lt x hx
  refine (strokes_law_any job_post ⟨tuned_any, fine_ok⟩ J ja jn jc sa sn sc sl atv byv na nn nc nl W hjn hjm hrg ⟨hsl, hsm⟩ hss hat ⟨hnl, hnm⟩ hns).mono fun e W' ⟨he, hw⟩ => ?_
  subst he
  have b0 := Below.trod laidOut (by kernel_rfl) (of_decide_eq_true (by kernel_rfl)) h0k hw (fun x hx => hlt x (by simp [hx]))
  have b1 := Below.trod laidOut (by kernel_rfl) (of_decide_eq_true (by kernel_rfl)) h1k hw (fun x hx => hlt x (by simp [hx]))
  have b2 := Below.trod laidOut (by kernel_rfl) (of_decide_eq_true (by kernel_rfl)) h2k hw (fun x hx => hlt x (by simp [hx]))
  have b3 := Below.trod laidOut (by kernel_rfl) (of_decide_eq_true (by kernel_rfl)) h3k hw (fun x hx => hlt x (by simp [hx]))
  have b4 := Below.trod laidOut (by kernel_rfl) (of_decide_eq_true (by kernel_rfl)) h4k hw (fun x hx => hlt x (by simp [hx]))
  refine ⟨_, rfl, _, _, _, [], p0 ++ p1 ++ p2 ++ p3 ++ p4, [], hW', ?_, ?_, ?_, hw.frame _, fun h => by cases h⟩
  · exact trodAll_mk1 (shut_bool Try.underlying4 true)
  · have := trodAll_cons_mk b0 (trodAll_cons_mk b1 (trodAll_cons_mk b2 (trodAll_cons_mk b3 (trodAll_mk1 b4))))
    have e : p0 ++ p1 ++ p2 ++ p3 ++ p4 = p0 ++ (p1 ++ (p2 ++ (p3 ++ p4))) := by simp only [List.append_assoc]
    rw [e]
    exact this
  · rfl

theorem reedStrokes_holds : Rows.ReedStrokesSaid :=
  OpenClaim.holds_of_wide 4 Try.f4 rfl rfl rfl rfl rfl rfl rfl ⟨rfl, rfl, rfl, rfl, rfl⟩ rfl rfl rfl rfl rfl (by kernel_rfl) Try.func4 (by kernel_rfl)
    (of_decide_eq_true (by kernel_rfl)) (by unfold Func.isWrapper; first | (rw [if_pos (by decide +kernel)]; kernel_rfl) | (rw [if_neg (by decide +kernel)]; exact ⟨rfl, rfl⟩))
    (fun os started H enc _ => lifted os started H enc)
#print axioms reedStrokes_holds
end Go.Proofs.Ytdficjnnlaicpaa
