/- The chapter's examples of package plate (PlateKnown) have the results given there: called in any world, the law returns true and changes nothing. Condition: the three tables of the library that the row lists are as the program lays them (the card ties them to the program's text). -/
import Derived.Test.YtkjgachpmebipaiGreatDoorCards
import Derived.Test.YtkjgachpmebipaiGreatDoorTie
import Derived.ProofKit
import Derived.LaidMore
import Derived.OpenShut
import Derived.Stop.Joined
import Derived.Stop.LaidErr
import Derived.SevenTiedAt
import Derived.Test.YtkjgachpmebipaiGreatDoorFactR
namespace Go.Proofs.YtkjgachpmebipaiGreatDoor
open Go Go.ChangeShapes Go.WideShapes Go.ChangeAt Go.RowKit

theorem own : ownKnob Tryz.prog.godebug = none := by kernel_rfl
theorem door_met (os : Os) (args : Array Value) : laidMetH Tryz.prog Rows.plateKnownRow.laid ((World.doorLaid Tryz.prog 400 os).forCall (fun _ _ => 0) ⟨#[], args, []⟩).memory := by
  rw [MakeChecks.laidMetH_plain _ _ _ (by kernel_rfl)]
  exact laidMet_of_run' 8 (by kernel_rfl) (by kernel_rfl)

theorem var_lt {w : World} {name : String} {g : Nat} {cs : Array Value} (hg : Tryz.prog.globalNamed name = some g) (h : w.var? Tryz.prog name = some cs) : g < w.heap.size := by
  unfold World.var? at h
  rw [hg] at h
  simp only [Option.bind_some] at h
  cases hq : w.heap[g]? with
  | none => rw [hq] at h; cases h
  | some o => exact (Array.getElem?_eq_some_iff.1 hq).1

/-- The name of the library's table of powers of ten. -/
def tabName : String := match Rows.plateKnownRow.named with
  | n :: _ => n
  | [] => default
theorem tab_laid : Rows.plateKnownRow.laid.drop 2 = [(tabName, Lib.tabData .u64 Lib.pow10Tab)] := by kernel_rfl
theorem tab_at : Tryz.prog.globalNamed tabName = some 0 := by kernel_rfl
theorem last_at {x : String × DataW Unit} {r : List (String × DataW Unit)} (h : Rows.plateKnownRow.laid.drop 1 = x :: r) : Tryz.prog.globalNamed x.1 = some 3 := by
  have e : (Rows.plateKnownRow.laid.drop 1).head?.map (fun x => Tryz.prog.globalNamed x.1) = some (some 3) := by kernel_rfl
  rw [h] at e
  exact Option.some.inj e
theorem drop_met {l : List (String × DataW Unit)} {w : World} (h : laidMet Tryz.prog l w) : ∀ n, laidMet Tryz.prog (l.drop n) w
  | 0 => h
  | n + 1 => by
    have h' := drop_met h n
    rw [show l.drop (n + 1) = (l.drop n).drop 1 by rw [List.drop_drop]]
    cases hq : l.drop n with
    | nil => rw [hq] at h'; exact h'
    | cons x r => rw [hq] at h'; exact laidMet.tail h'

/-- What the row's condition gives: the library's table, and room for the variables. -/
theorem of_laid {W : World} (h : laidMetH Tryz.prog Rows.plateKnownRow.laid W) : Sim.Laid1 Tryz.prog Sim.h0 W ∧ 4 ≤ W.heap.size := by
  rw [MakeChecks.laidMetH_plain _ _ _ (by kernel_rfl)] at h
  have h3 := drop_met h 2
  rw [tab_laid] at h3
  have ht : Lib.TabIs Tryz.prog W tabName .u64 Lib.pow10Tab :=
    Lib.tabIs_of_head (P := Tryz.prog) (g := 0) (t := 186) (e := 169) (n := 20) tab_at (by kernel_rfl) (by kernel_rfl) (by kernel_rfl) (by kernel_rfl) (by kernel_rfl) h3
  have hlt : 3 < W.heap.size := by
    have h2 := drop_met h 1
    have hlen : (Rows.plateKnownRow.laid.drop 1).length = 2 := by kernel_rfl
    cases hq : Rows.plateKnownRow.laid.drop 1 with
    | nil => rw [hq] at hlen; cases hlen
    | cons x r =>
      rw [hq] at h2
      obtain ⟨n, d⟩ := x
      obtain ⟨ps, ⟨g1, t1, cs1, f1, p1, q1, hg1, ht1, hv1, _⟩, _⟩ := h2
      exact var_lt (last_at hq) hv1
  refine ⟨fun b o hb => ?_, hlt⟩
  have htab : Sim.h0 = Sim.Tr.set Sim.DH .e 0 (some (.ro Sim.pow10)) := by kernel_rfl
  rw [htab, Sim.Tr.get_set Sim.DH _ _ _ _ (by decide)] at hb
  split at hb
  · rename_i e
    subst e
    cases hb
    unfold Lib.TabIs World.var? at ht
    rw [tab_at] at ht
    simp only [Option.bind_some] at ht
    cases hq : W.heap[0]? with
    | none => rw [hq] at ht; cases ht
    | some x =>
      rw [hq] at ht
      cases x <;> first | (cases ht; done) | skip
      rename_i cs t f
      simp only [Option.some.injEq] at ht
      refine ⟨20, Sim.pow10, cs, t, f, by kernel_rfl, rfl, rfl, ?_⟩
      rw [ht]
      kernel_rfl
  · rw [Sim.Tr.get_e] at hb; cases hb

/-- The call, in any world that meets the row's condition. -/
theorem walk {W : World} (h : laidMetH Tryz.prog Rows.plateKnownRow.laid W) : Calls Tryz.prog 3 #[] W fun e W' => e = .returned (.bool true) ∧ Below W.heap.size W W' := by
  obtain ⟨h1, h2⟩ := of_laid h
  refine (@Sim.closed_any Sim.Rho.zero Sim.Asm.none (@Sim.SymOK.none Sim.Rho.zero) Tryz.prog 3 4 Sim.h0 _ _ _ _ (@Sim.root_ok Sim.Rho.zero Sim.Asm.none (@Sim.SymOK.none Sim.Rho.zero)) rfl (by kernel_rfl) (by kernel_rfl) W h2 h1 ⟨Nat.zero_le _, fun k _ hk => absurd hk (Nat.not_lt_zero _)⟩).mono ?_
  rintro e W' ⟨v', ι', rfl, hv, hk⟩
  cases hv
  exact ⟨rfl, hk.os, hk.tape, hk.output, hk.size, hk.heap⟩

set_option maxRecDepth 100000 in
theorem lifted (os : Os) (started : os.Started) (H : Type) (enc : TypeId × Value → H) :
    ReturnsInHanded {} Tryz.checked os 3 .any (fun w args => (Rows.plateKnownSpec.pre enc Tryz.prog Tryz.f3 [] false w args ∧ laidMetH Tryz.prog Rows.plateKnownRow.laid w) ∧ sizedMet enc Tryz.prog Tryz.f3 (OpenSpec.ofChange Rows.plateKnownSpec) false w args)
      (Rows.plateKnownSpec.post enc Tryz.prog Tryz.f3 false true false false) := by
  refine returnsInHanded_of_change_and (C := Tryz.checked) (X := fun w _ => laidMetH Tryz.prog Rows.plateKnownRow.laid w) (fun _ _ _ hh h => h.of_heap hh) own started (by kernel_rfl) Tryz.func3
    (ChangeSpec.witness_shaped (enc := enc) (C := Tryz.checked) (os := os) (X := fun w _ => laidMetH Tryz.prog Rows.plateKnownRow.laid w) false (World.doorLaid Tryz.prog 400 os) #[] 8 rfl (World.shaped_of_RefB (by kernel_rfl) (by kernel_rfl)) (by kernel_rfl) (by kernel_rfl) (by kernel_rfl) (door_met os _)) ?_
  intro W base args ds gs before hval0 hW _ _ hL _
  have hW' := hW
  obtain ⟨p, q, hA0, hV, rfl, hfz, hnd⟩ := hW
  have hA : DataW.TrodAll enc Tryz.prog W 0 (fun _ => true) true Tryz.f3.params.toList args.toList ds p := hA0
  rw [Tryz.params3] at hA
  obtain ⟨rfl, rfl, rfl⟩ := trodAll_none hA
  obtain ⟨rfl, rfl⟩ := trodVars_none hV
  refine (walk hL).mono fun e W' ⟨he, hw⟩ => ?_
  subst he
  refine ⟨_, rfl, _, _, _, [], [], [], hW', ?_, ?_, ?_, hw.frame _, fun h => by cases h⟩
  · exact trodAll_mk1 (shut_bool Tryz.underlying4 true)
  · exact trodAll_mk0
  · rfl

theorem plateKnown_holds : Rows.PlateKnownSaid :=
  OpenClaim.holds_of_wide 3 Tryz.f3 rfl rfl rfl rfl rfl rfl rfl ⟨rfl, rfl, rfl, rfl, rfl⟩ rfl rfl rfl rfl rfl (by kernel_rfl) Tryz.func3 (by kernel_rfl)
    (of_decide_eq_true (by kernel_rfl)) (by unfold Func.isWrapper; first | (rw [if_pos (by decide +kernel)]; kernel_rfl) | (rw [if_neg (by decide +kernel)]; exact ⟨rfl, rfl⟩))
    (fun os started H enc _ => lifted os started H enc)

theorem plateKnown_card : Rows.PlateKnownCardSaid :=
  Claim7.holds_tied_plain_at .later [] [.data, .data, .data] true Rows.plateKnownCard.stood.harness false
    plateKnown_holds (fun _ h => by cases h) (by kernel_rfl) (fun _ h => by cases h) plateKnown_row_tie rfl ⟨rfl, rfl⟩ (by kernel_rfl) rfl
    (fun f fn hf hfn => by
      obtain rfl : f = 3 := Option.some.inj ((show Tryz.prog.funcNamed Rows.plateKnownRow.func = some 3 by kernel_rfl).symm.trans hf) |>.symm
      obtain rfl : fn = Tryz.f3 := (Option.some.inj (Tryz.func3.symm.trans hfn)).symm
      exact ⟨by kernel_rfl, fun j t ht => by
        rw [Tryz.params3] at ht
        simp at ht⟩)
    (by kernel_rfl)
#print axioms plateKnown_card
end Go.Proofs.YtkjgachpmebipaiGreatDoor
