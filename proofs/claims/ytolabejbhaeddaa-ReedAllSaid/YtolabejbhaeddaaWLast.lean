/- ReedAll: what all truths say -/
import Derived.Test.YtolabejbhaeddaaRows
import Derived.ProofKit
import Derived.ChangeSlices
import Derived.Test.YtolabejbhaeddaaW27
import Derived.Test.YtolabejbhaeddaaW17
namespace Go.Proofs.Ytolabejbhaeddaa
set_option linter.all false
open Go Go.ChangeShapes Go.WideShapes Go.ChangeAt Go.RowKit

theorem walk (a : Option Addr) (n c : Nat) (l : List Int) (w : World) (hn : n = l.length) (hm : n ≤ 9223372036854775807) (h : Is w w.heap.size a l) :
    Calls Try.prog 5 #[.slice a n c] w fun e w' => e = .returned (.bool true) ∧ Below w.heap.size w w' :=
  all_law_any tuned_any a n c l w hn hm h
theorem own : ownKnob Try.prog.godebug = none := by kernel_rfl
theorem cells3 : Try.prog.cellsOf 3 = 1 := by kernel_rfl

set_option maxRecDepth 100000 in
theorem lifted (os : Os) (started : os.Started) (H : Type) (enc : TypeId × Value → H) :
    ReturnsInHanded {} Try.checked os 5 .any (Rows.reedAllSpec.pre6 enc Try.prog Try.f5 Rows.reedAllRow.domain false) (Rows.reedAllSpec.post enc Try.prog Try.f5 false true false false) := by
  refine returnsInHanded_of_change (C := Try.checked) own started (by kernel_rfl) Try.func5
    (ChangeSpec.witness6 (enc := enc) (C := Try.checked) false ⟨#[],#[.slice none 0 0],[]⟩ 8 (by kernel_rfl) (by kernel_rfl) (by kernel_rfl) (by kernel_rfl)) ?_
  intro W base args ds gs before hval0 hW _ _
  have hval : ∀ (j : Nat) t v,Try.f5.params[j]? = some t → args[j]? = some v → Value.okWide Try.prog W .any base t v := hval0
  have hW' := hW
  obtain ⟨p,q,hA0,hV,rfl,hfz,hnd⟩ := hW
  have hA : DataW.TrodAll enc Try.prog W 0 (fun _ => true) true Try.f5.params.toList args.toList ds p := hA0
  rw [Try.params5] at hA hval
  obtain ⟨v0,d0,rfl,rfl,h0⟩ := trodAll_one hA
  obtain ⟨rfl,rfl⟩ := trodVars_none hV
  have h0k := h0
  obtain ⟨a0,len,cap,rfl⟩ := okWide_slice Try.underlying31 (hval 0 31 v0 rfl rfl)
  obtain ⟨fuel,hf⟩ := h0
  clear hA0 hval0
  simp only [List.append_nil] at hW'
  have hlt : ∀ x ∈ p,x.block < W.heap.size := fun x hx => by simpa using hW'.lt x hx
  have key : ∃ l : List Int,len = l.length ∧ len ≤ 9223372036854775807 ∧ Is W W.heap.size a0 l := by
    rcases open_ints Try.underlying31 Try.underlying3 cells3 hf with ⟨hcs,hx⟩ | ⟨a,len',cap',zs,hcs,_,hl,hm,hz,hx,hcell,hwz⟩
    · simp [Value.cells] at hcs
      obtain ⟨rfl,rfl,rfl⟩ := hcs
      exact ⟨[],rfl,Nat.zero_le _,Is.nil _ _ _⟩
    · simp [Value.cells] at hcs
      obtain ⟨rfl,rfl,rfl⟩ := hcs
      simp only [if_true] at hz
      refine ⟨zs.take len,by rw [List.length_take]; omega,by unfold maxLen at hm; omega,fun k x hk => ?_⟩
      have hk1 : k < (zs.take len).length := (List.getElem?_eq_some_iff.1 hk).1
      rw [List.length_take] at hk1
      have hk2 : zs[k]? = some x := by rw [List.getElem?_take_of_lt (by omega)] at hk; exact hk
      have hc := hcell k (by omega)
      have hd : zs.getD k 0 = x := by rw [List.getD,hk2]; rfl
      rw [hd] at hc
      have h0 := hcell 0 (by omega)
      obtain ⟨ab,ao,asp⟩ := a
      have e0 : (⟨ab,ao,asp⟩ : Addr).add 0 = ⟨ab,ao,asp⟩ := rfl
      rw [e0] at h0
      have hs : asp = none ∧ ab < W.heap.size := by
        unfold World.cell? at h0
        cases hq : W.heap[ab]? with
        | none => simp only [hq] at h0; cases h0
        | some o =>
          refine ⟨?_,(Array.getElem?_eq_some_iff.1 hq).1⟩
          simp only [hq] at h0
          cases o with
          | cells cs t f =>
            cases asp with
            | none => rfl
            | some z => simp at h0
          | _ => simp at h0
      obtain ⟨rfl,hb⟩ := hs
      refine ⟨ab,ao,rfl,hb,?_⟩
      have ek : (⟨ab,ao,none⟩ : Addr).add k = ⟨ab,ao + k,none⟩ := by
        unfold Addr.add
        split
        · rename_i hk0; subst hk0; rfl
        · rfl
      rw [ek] at hc
      exact hc
  obtain ⟨l,hl,hm,his⟩ := key
  refine (walk a0 len cap l W hl hm his).mono fun e W' ⟨he,hw⟩ => ?_
  subst he
  refine ⟨_,rfl,_,_,_,[],p,[],hW',?_,?_,?_,hw.frame _,fun h => by cases h⟩
  · exact trodAll_mk1 (shut_bool Try.underlying4 true)
  · exact trodAll_mk1 (Below.trod laidOut (by kernel_rfl) (of_decide_eq_true (by kernel_rfl)) h0k hw hlt)
  · rfl

theorem reedAll_holds : Rows.ReedAllSaid :=
  OpenClaim.holds_of_wide 5 Try.f5 rfl rfl rfl rfl rfl rfl rfl ⟨rfl,rfl,rfl,rfl,rfl⟩ rfl rfl rfl rfl rfl (by kernel_rfl) Try.func5 (by kernel_rfl)
    (of_decide_eq_true (by kernel_rfl)) (by unfold Func.isWrapper; first | (rw [if_pos (by decide +kernel)]; kernel_rfl) | (rw [if_neg (by decide +kernel)]; exact ⟨rfl,rfl⟩))
    (fun os started H enc _ => lifted os started H enc)
#print axioms reedAll_holds
end Go.Proofs.Ytolabejbhaeddaa
