/- ReedBlanks: Blank answers what the reference answers, for the jobs given, for some made of numbers, and for these with one that is given, and the jobs are as they were; the arguments read as they did. No condition: for every list of jobs, every job and all numbers. -/
import Derived.Test.YtadmcafbffjjbaaRows
import Derived.ProofKit
import Derived.ChangeSlices
import Derived.Carry
import Derived.Test.YtadmcafbffjjbaaB33
import Derived.Test.YtadmcafbffjjbaaB35
import Derived.Test.YtadmcafbffjjbaaB16
namespace Go.Proofs.Ytadmcafbffjjbaa
set_option linter.all false
open Go Go.ChangeShapes Go.WideShapes Go.ChangeAt Go.RowKit

theorem own : ownKnob Try.prog.godebug = none := by kernel_rfl
theorem cells3 : Try.prog.cellsOf 3 = 1 := by kernel_rfl

set_option maxRecDepth 100000 in
theorem lifted (os : Os) (started : os.Started) (H : Type) (enc : TypeId × Value → H) :
    ReturnsInHanded {} Try.checked os 4 .any (Rows.reedBlanksSpec.pre6 enc Try.prog Try.f4 Rows.reedBlanksRow.domain false) (Rows.reedBlanksSpec.post enc Try.prog Try.f4 false true false false) := by
  refine returnsInHanded_of_change (C := Try.checked) own started (by kernel_rfl) Try.func4
    (ChangeSpec.witness6 (enc := enc) (C := Try.checked) false ⟨#[],#[.slice none 0 0,.agg (jobC zeroJ (.slice none 0 0)),.int .i64 0,.slice none 0 0],[]⟩ 8 (by kernel_rfl) (by kernel_rfl) (by kernel_rfl) (by kernel_rfl)) ?_
  intro W base args ds gs before hval0 hW _ _
  have hval : ∀ (j : Nat) t v,Try.f4.params[j]? = some t → args[j]? = some v → Value.okWide Try.prog W .any base t v := hval0
  have hW' := hW
  obtain ⟨p,q,hA0,hV,rfl,hfz,hnd⟩ := hW
  have hA : DataW.TrodAll enc Try.prog W 0 (fun _ => true) true Try.f4.params.toList args.toList ds p := hA0
  rw [Try.params4] at hA hval
  obtain ⟨v0,v1,v2,v3,d0,d1,d2,d3,p0,p1,p2,p3,rfl,rfl,rfl,h0,h1,h2,h3⟩ := trodAll_four hA
  obtain ⟨rfl,rfl⟩ := trodVars_none hV
  have h0k := h0
  have h1k := h1
  have h2k := h2
  have h3k := h3
  have hjobs : ∃ (ja : Option Addr) (jn jc : Nat) (es : List Ent),v0 = .slice ja jn jc ∧ Js W W.heap.size ja jn es := by
    obtain ⟨a0,n0,c0,rfl⟩ := okWide_slice Try.underlying37 (hval 0 37 v0 rfl rfl)
    obtain ⟨fuel,hf⟩ := h0
    obtain ⟨a,n,c,es,hcs,_,hjs⟩ := jobs_open hf
    simp [Value.cells] at hcs
    obtain ⟨rfl,rfl,rfl⟩ := hcs
    exact ⟨_,_,_,es,rfl,hjs⟩
  obtain ⟨ja,jn,jc,es,rfl,hjs⟩ := hjobs
  obtain ⟨X,xa,xn,xc,rfl,hxn,hxm,hxr⟩ := job_open (hval 1 _ _ rfl rfl) h1
  have hint : ∃ r,v2 = .int .i64 r ∧ (-9223372036854775808 ≤ r ∧ r ≤ 9223372036854775807) := by
    obtain ⟨r,rfl,_,_,hw⟩ := open_int Try.underlying3 (hval 2 _ _ rfl rfl) h2
    refine ⟨r,rfl,?_⟩
    simp [Lit.wf,IntKind.min,IntKind.max,IntKind.bits,IntKind.signed] at hw
    exact hw
  obtain ⟨r,rfl,hr⟩ := hint
  obtain ⟨a0,len,cap,rfl⟩ := okWide_slice Try.underlying31 (hval 3 31 v3 rfl rfl)
  obtain ⟨fuel,hf⟩ := h3
  clear hA0 hval0
  simp only [List.append_nil] at hW'
  have hlt : ∀ x ∈ p0 ++ p1 ++ p2 ++ p3,x.block < W.heap.size := fun x hx => by simpa using hW'.lt x hx
  have key : ∃ l : List Int,len = l.length ∧ len ≤ 9223372036854775807 ∧ Is W W.heap.size a0 l := by
    rcases open_ints Try.underlying31 Try.underlying3 cells3 hf with ⟨hcs,hx⟩ | ⟨a,len',cap',zs,hcs,_,hl,hm,hz,hx,hcell,hwz⟩
    · simp [Value.cells] at hcs
      obtain ⟨rfl,rfl,rfl⟩ := hcs
      exact ⟨[],rfl,Nat.zero_le _,Is.nil _ _ _⟩
    · simp [Value.cells] at hcs
      obtain ⟨rfl,rfl,rfl⟩ := hcs
      simp only [if_true] at hz
      refine ⟨zs.take len,by rw [List.length_take]; omega,by unfold maxLen at hm; omega,fun k x hk => ?_⟩
      have hk1 : k < (zs.take len).length := (List.getElem?_eq_some_iff.1 hk).1
      rw [List.length_take] at hk1
      have hk2 : zs[k]? = some x := by rw [List.getElem?_take_of_lt (by omega)] at hk; exact hk
      have hc := hcell k (by omega)
      have hd : zs.getD k 0 = x := by rw [List.getD,hk2]; rfl
      rw [hd] at hc
      have h0 := hcell 0 (by omega)
      obtain ⟨ab,ao,asp⟩ := a
      have e0 : (⟨ab,ao,asp⟩ : Addr).add 0 = ⟨ab,ao,asp⟩ := rfl
      rw [e0] at h0
      have hs : asp = none ∧ ab < W.heap.size := by
        unfold World.cell? at h0
        cases hq : W.heap[ab]? with
        | none => simp only [hq] at h0; cases h0
        | some o =>
          refine ⟨?_,(Array.getElem?_eq_some_iff.1 hq).1⟩
          simp only [hq] at h0
          cases o with
          | cells cs t f =>
            cases asp with
            | none => rfl
            | some z => simp at h0
          | _ => simp at h0
      obtain ⟨rfl,hb⟩ := hs
      refine ⟨ab,ao,rfl,hb,?_⟩
      have ek : (⟨ab,ao,none⟩ : Addr).add k = ⟨ab,ao + k,none⟩ := by
        unfold Addr.add
        split
        · rename_i hk0; subst hk0; rfl
        · rfl
      rw [ek] at hc
      exact hc
  obtain ⟨l,hl,hm,his⟩ := key
  refine (blanks_law_any jobf_JF tuned_any ja jn jc es X xa xn xc r a0 len cap l W hjs hxn hxm hxr hr ⟨hl,hm⟩ his).mono fun e W' ⟨he,hw⟩ => ?_
  subst he
  have b0 := Below.trod laidOut (by kernel_rfl) (of_decide_eq_true (by kernel_rfl)) h0k hw (fun x hx => hlt x (by simp [hx]))
  have b1 := Below.trod laidOut (by kernel_rfl) (of_decide_eq_true (by kernel_rfl)) h1k hw (fun x hx => hlt x (by simp [hx]))
  have b2 := Below.trod laidOut (by kernel_rfl) (of_decide_eq_true (by kernel_rfl)) h2k hw (fun x hx => hlt x (by simp [hx]))
  have b3 := Below.trod laidOut (by kernel_rfl) (of_decide_eq_true (by kernel_rfl)) h3k hw (fun x hx => hlt x (by simp [hx]))
  refine ⟨_,rfl,_,_,_,[],p0 ++ p1 ++ p2 ++ p3,[],hW',?_,?_,?_,hw.frame _,fun h => by cases h⟩
  · exact trodAll_mk1 (shut_bool Try.underlying4 true)
  · have := trodAll_cons_mk b0 (trodAll_cons_mk b1 (trodAll_cons_mk b2 (trodAll_mk1 b3)))
    have e : p0 ++ p1 ++ p2 ++ p3 = p0 ++ (p1 ++ (p2 ++ p3)) := by simp only [List.append_assoc]
    rw [e]
    exact this
  · rfl

theorem reedBlanks_holds : Rows.ReedBlanksSaid :=
  OpenClaim.holds_of_wide 4 Try.f4 rfl rfl rfl rfl rfl rfl rfl ⟨rfl,rfl,rfl,rfl,rfl⟩ rfl rfl rfl rfl rfl (by kernel_rfl) Try.func4 (by kernel_rfl)
    (of_decide_eq_true (by kernel_rfl)) (by unfold Func.isWrapper; first | (rw [if_pos (by decide +kernel)]; kernel_rfl) | (rw [if_neg (by decide +kernel)]; exact ⟨rfl,rfl⟩))
    (fun os started H enc _ => lifted os started H enc)
#print axioms reedBlanks_holds
end Go.Proofs.Ytadmcafbffjjbaa
