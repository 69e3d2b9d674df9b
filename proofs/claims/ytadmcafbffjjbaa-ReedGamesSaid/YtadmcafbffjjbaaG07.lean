/- Part 7 of the proof: RefA, RefB, RefC. -/
import Derived.Test.YtadmcafbffjjbaaG00
/- Contracts of the small functions of the reference of layer 1. -/
namespace Go.Proofs.Ytadmcafbffjjbaa
set_option linter.all false
open Go.RowKit

theorem among_any (n lo hi : Int) (w : World) :
    Calls Try.prog 71 #[.int .i64 n,.int .i64 lo,.int .i64 hi] w fun e w' => e = .returned (.bool (numE n lo hi == 0)) ∧ w' = w := by
  by_cases h1 : n < lo
  · have H : Hid ((numE n lo hi == 0) = false) := by show (numE n lo hi == 0) = false; simp [numE,h1]
    go_enter Try.func71,Try.ntmps71
    go_wp2
    go_ret
    exact ⟨by rw [H.out]; rfl,rfl⟩
  · by_cases h2 : hi < n
    · have H : Hid ((numE n lo hi == 0) = false) := by show (numE n lo hi == 0) = false; simp [numE,h2]
      have hd : decide (n ≤ hi) = false := decide_eq_false (by omega)
      go_enter Try.func71,Try.ntmps71
      go_wp2
      go_ret
      exact ⟨by rw [H.out]; rfl,rfl⟩
    · have H : Hid ((numE n lo hi == 0) = true) := by show (numE n lo hi == 0) = true; simp [numE,h1,h2]
      go_enter Try.func71,Try.ntmps71
      go_wp2
      go_ret
      exact ⟨by rw [H.out]; rfl,rfl⟩
theorem rngE_split (a b lo hi : Int) : rngE a b lo hi = if (numE a lo hi == 0) = true then (if (numE b lo hi == 0) = true then (if b < a then 5 else 0) else 1) else 1 := by
  unfold rngE numE
  by_cases h1 : a < lo ∨ hi < a <;> by_cases h2 : b < lo ∨ hi < b <;> simp [h1,h2]
theorem refRange_any (a b lo hi : Int) (w : World) :
    Calls Try.prog 69 #[.agg #[.int .i64 a,.int .i64 b],.int .i64 lo,.int .i64 hi] w fun e w' => e = .returned (.int .i64 (rngE a b lo hi)) ∧ Below w.heap.size w w' := by
  have Hr := hidMk (rngE_split a b lo hi)
  cases h1 : (numE a lo hi == 0)
  · have H : Hid (rngE a b lo hi = 1) := by show rngE a b lo hi = 1; rw [Hr.out,h1]; rfl
    go_enter Try.func69,Try.ntmps69
    go_wp2_with (go_at_call 71; refine (among_any _ _ _ _).mono ?_; rintro e w' ⟨rfl,rfl⟩)
    go_ret
    exact ⟨by rw [H.out]; rfl,(Below.refl _ _).alloc (Nat.le_refl _) _⟩
  · cases h2 : (numE b lo hi == 0)
    · have H : Hid (rngE a b lo hi = 1) := by show rngE a b lo hi = 1; rw [Hr.out,h1,h2]; rfl
      go_enter Try.func69,Try.ntmps69
      go_wp2_with (go_at_call 71; refine (among_any _ _ _ _).mono ?_; rintro e w' ⟨rfl,rfl⟩)
      go_ret
      exact ⟨by rw [H.out]; rfl,(Below.refl _ _).alloc (Nat.le_refl _) _⟩
    · by_cases h3 : b < a
      · have H : Hid (rngE a b lo hi = 5) := by show rngE a b lo hi = 5; rw [Hr.out,h1,h2,if_pos h3]; rfl
        go_enter Try.func69,Try.ntmps69
        go_wp2_with (go_at_call 71; refine (among_any _ _ _ _).mono ?_; rintro e w' ⟨rfl,rfl⟩)
        go_ret
        exact ⟨by rw [H.out]; rfl,(Below.refl _ _).alloc (Nat.le_refl _) _⟩
      · have H : Hid (rngE a b lo hi = 0) := by show rngE a b lo hi = 0; rw [Hr.out,h1,h2,if_neg h3]; rfl
        go_enter Try.func69,Try.ntmps69
        go_wp2_with (go_at_call 71; refine (among_any _ _ _ _).mono ?_; rintro e w' ⟨rfl,rfl⟩)
        go_ret
        exact ⟨by rw [H.out]; rfl,(Below.refl _ _).alloc (Nat.le_refl _) _⟩
theorem inside_any (a b c d : Int) (w : World) :
    Calls Try.prog 51 #[.agg #[.int .i64 a,.int .i64 b],.agg #[.int .i64 c,.int .i64 d]] w fun e w' => e = .returned (.bool (decide (c ≤ a ∧ b ≤ d))) ∧ Below w.heap.size w w' := by
  by_cases h1 : c ≤ a
  · by_cases h2 : b ≤ d
    · rw [decide_eq_true ⟨h1,h2⟩]
      go_enter Try.func51,Try.ntmps51
      go_wp2
      go_ret
      exact ⟨rfl,((Below.refl _ _).alloc (Nat.le_refl _) _).alloc (by simp) _⟩
    · rw [decide_eq_false (fun h => h2 h.2)]
      go_enter Try.func51,Try.ntmps51
      go_wp2
      go_ret
      exact ⟨rfl,((Below.refl _ _).alloc (Nat.le_refl _) _).alloc (by simp) _⟩
  · rw [decide_eq_false (fun h => h1 h.1)]
    go_enter Try.func51,Try.ntmps51
    go_wp2
    go_ret
    exact ⟨rfl,((Below.refl _ _).alloc (Nat.le_refl _) _).alloc (by simp) _⟩
theorem refHeard_any (a b r m : Int) (w : World) (h : -100000 ≤ r ∧ r ≤ 100000 ∧ -100000 ≤ m ∧ m ≤ 100000) :
    Calls Try.prog 91 #[.agg #[.int .i64 a,.int .i64 b],.int .i64 r,.int .i64 m] w fun e w' => e = .returned (.agg #[.int .i64 (heardR a b r m).1,.int .i64 (heardR a b r m).2]) ∧ Below w.heap.size w w' := by
  obtain ⟨h1,h2,h3,h4⟩ := h
  have key : ∀ p q : Int,p = (heardR a b r m).1 → q = (heardR a b r m).2 → ∀ w',Below w.heap.size w w' → (Ending.returned (.agg #[.int .i64 p,.int .i64 q]) = .returned (.agg #[.int .i64 (heardR a b r m).1,.int .i64 (heardR a b r m).2]) ∧ Below w.heap.size w w') := by
    rintro p q rfl rfl w' hb
    exact ⟨rfl,hb⟩
  have Key := hidMk key
  clear key
  have hB : ∀ p q : Int,Below w.heap.size w ((w.alloc (.cells #[.int .i64 a,.int .i64 b] 23)).alloc (.cells #[.int .i64 p,.int .i64 q] 23)) := fun p q => ((Below.refl _ _).alloc (Nat.le_refl _) _).alloc (by simp) _
  have HB := hidMk hB
  clear hB
  by_cases c1 : a < r - m <;> by_cases c2 : r + m < b
  all_goals
    go_enter Try.func91,Try.ntmps91
    go_wp2
    refine bodyPost_ret (v := .agg #[.int .i64 _,.int .i64 _]) (by simp [results,Try.results91,go_sem]; first | exact ⟨rfl,rfl⟩ | rfl) rfl (Key.out _ _ (by unfold heardR meet2; simp only; split <;> omega) (by unfold heardR meet2; simp only; split <;> omega) _ (HB.out _ _))
end Go.Proofs.Ytadmcafbffjjbaa
/- Contracts of the reference's checks, windows and shifts. -/
namespace Go.Proofs.Ytadmcafbffjjbaa
set_option linter.all false
open Go.RowKit

/-- The first error of several ranges. -/
def allE (lo hi : Int) : List R2 → Int
  | [] => 0
  | s :: l => if rngE s.1 s.2 lo hi = 0 then allE lo hi l else rngE s.1 s.2 lo hi
theorem allE_sh : ∀ l : List R2,allE (-60) 60 l = shE l
  | [] => rfl
  | s :: l => by unfold allE shE; rw [allE_sh l]
set_option maxHeartbeats 1000000 in
set_option maxRecDepth 100000 in
theorem checkAll_any (a : Option Addr) (n c : Nat) (l : List R2) (lo hi : Int) (w : World) (hn : n = l.length) (hm : n ≤ 9223372036854775807) (h : Rg w w.heap.size a l) :
    Calls Try.prog 70 #[.slice a n c,.int .i64 lo,.int .i64 hi] w fun e w' => e = .returned (.int .i64 (allE lo hi l)) ∧ Below w.heap.size w w' := by
  have Hn := hidMk hn
  have Hh := hidMk h
  clear hn h
  go_enter Try.func70,Try.ntmps70
  go_wp2_with fail
  go_loopw [7,8] (fun i _ wr => ∃ k : Nat,k ≤ n ∧ i = .int .i64 k ∧ Hid (allE lo hi l = allE lo hi (l.drop k)) ∧ Below w.heap.size w wr) (fun i _ _ => n - (intOf i).toNat)
  case atStart => exact ⟨0,Nat.zero_le _,rfl,rfl,Below.refl _ _⟩
  case round =>
    obtain ⟨k,hk,rfl,Hf,hB⟩ := hrel
    have hz := hB.size
    by_cases hlt : k < n
    · have hkl : k < l.length := by rw [← Hn.out]; exact hlt
      obtain ⟨b,off,rfl,hbl,e0,e1⟩ := Hh.out k l[k] (List.getElem?_eq_getElem hkl)
      replace e0 := (hB.cell (p := ⟨b,off + k * 2,none⟩) hbl).trans e0
      replace e1 := (hB.cell (p := ⟨b,off + k * 2 + 1,none⟩) hbl).trans e1
      have hbl' : b < wr.heap.size := by omega
      have Hd : Hid (l.drop k = l[k] :: l.drop (k + 1)) := List.drop_eq_getElem_cons hkl
      obtain ⟨s,Hs⟩ : ∃ s,Hid (s = l[k]) := ⟨_,hidMk rfl⟩
      rw [← Hs.out] at e0 e1 Hd
      by_cases hz0 : rngE s.1 s.2 lo hi = 0
      · have hz1 : (rngE s.1 s.2 lo hi != 0) = false := by simp [hz0]
        have Hz := hidMk hz0
        clear hz0
        go_wp2_with (go_at_call 69; refine (refRange_any _ _ _ _ _).mono ?_; rintro e w2 ⟨rfl,hb⟩)
        go_roundw
        case rel => exact ⟨k + 1,by omega,by go_num,by show allE lo hi l = _; rw [Hf.out,Hd.out,allE,if_pos Hz.out],hB.trans (hb.mono (by omega))⟩
        case measure => simp [intOf]; omega
      · have hz1 : (rngE s.1 s.2 lo hi != 0) = true := by simp [hz0]
        have Hz := hidMk hz0
        clear hz0
        go_wp2_with (go_at_call 69; refine (refRange_any _ _ _ _ _).mono ?_; rintro e w2 ⟨rfl,hb⟩)
        go_ret
        exact ⟨ret_i (by rw [Hf.out,Hd.out,allE,if_neg Hz.out]),hB.trans (hb.mono (by omega))⟩
    · obtain rfl : k = n := by omega
      go_wp2_with fail
      go_ret
      exact ⟨ret_i (by rw [Hf.out,List.drop_of_length_le (by rw [← Hn.out]; omega)]; rfl),hB⟩
end Go.Proofs.Ytadmcafbffjjbaa
/- The contract of the reference's Check. -/
namespace Go.Proofs.Ytadmcafbffjjbaa
set_option linter.all false
open Go.RowKit
noncomputable def sndC : Code → Code
  | .seq _ c => c
  | c => c
noncomputable def ckbody : Code := Try.f39.body.getD .skip
noncomputable def ckrest1 : Code := sndC ckbody
noncomputable def ckrest2 : Code := sndC ckrest1
noncomputable def ckrest3 : Code := sndC ckrest2
noncomputable def ckrest4 : Code := sndC ckrest3
noncomputable def ckrest5 : Code := sndC ckrest4
noncomputable def ckrest6 : Code := sndC ckrest5
noncomputable def ckrest7 : Code := sndC ckrest6
noncomputable def ckrest8 : Code := sndC ckrest7
set_option maxRecDepth 1000000 in
theorem ckbody_eq : ckbody = .seq (Code.region 0 #[⟨some 1,.box 30 (.tmp 0),0,"ref.go:31",#[],none⟩,⟨some 2,.assign (.const (.int .i64 0)),39,"ref.go:31",#[],none⟩] false) ckrest1 := by kernel_rfl
set_option maxRecDepth 1000000 in
theorem ckrest1_eq : ckrest1 = .seq (.seq (Code.region 1 #[⟨some 7,.fieldAddr 30 (.tmp 1) 0,0,"ref.go:32",#[],none⟩,⟨some 8,.fieldAddr 25 (.tmp 7) 0,0,"ref.go:32",#[⟨0,.data⟩],none⟩,⟨some 9,.load 23 (.tmp 8),23,"ref.go:32",#[⟨1,.data⟩],none⟩,⟨some 10,.call { callee := .value (.func 69),args := #[.tmp 9,.const (.int .i64 (-60)),.const (.int .i64 60)],argTypes := #[23,3,3] },39,"ref.go:32",#[⟨2,.data⟩],none⟩,⟨some 3,.assign (.tmp 10),39,"ref.go:32",#[⟨3,.data⟩,⟨3,.chain⟩,⟨0,.phase⟩,⟨1,.phase⟩,⟨2,.phase⟩,⟨3,.phase⟩],none⟩] false) (.seq (Code.region 2 #[⟨some 11,.move (.tmp 3),39,"ref.go:32",#[],none⟩,⟨some 12,.binOp .neq 39 (.tmp 11) (.const (.int .i64 0)) 39,4,"ref.go:32",#[⟨0,.data⟩],none⟩] false) (.cond (.tmp 12) (.seq (Code.region 3 #[⟨some 13,.move (.tmp 3),39,"ref.go:33",#[],none⟩,⟨some 2,.assign (.tmp 13),39,"ref.go:33",#[⟨0,.data⟩,⟨0,.phase⟩],none⟩] false) .ret) .skip))) ckrest2 := by kernel_rfl
set_option maxRecDepth 1000000 in
theorem ckrest2_eq : ckrest2 = .seq (.seq (Code.region 4 #[⟨some 14,.fieldAddr 30 (.tmp 1) 0,0,"ref.go:35",#[],none⟩,⟨some 15,.fieldAddr 25 (.tmp 14) 1,0,"ref.go:35",#[⟨0,.data⟩],none⟩,⟨some 16,.load 23 (.tmp 15),23,"ref.go:35",#[⟨1,.data⟩],none⟩,⟨some 17,.fieldAddr 30 (.tmp 1) 0,0,"ref.go:35",#[],none⟩,⟨some 18,.fieldAddr 25 (.tmp 17) 2,0,"ref.go:35",#[⟨3,.data⟩],none⟩,⟨some 19,.load 23 (.tmp 18),23,"ref.go:35",#[⟨4,.data⟩],none⟩,⟨some 20,.buildSlice 28 2 #[(0,.tmp 16),(1,.tmp 19)],28,"ref.go:35",#[⟨2,.data⟩,⟨5,.data⟩],none⟩,⟨some 21,.call { callee := .value (.func 70),args := #[.tmp 20,.const (.int .i64 0),.const (.int .i64 100)],argTypes := #[28,3,3] },39,"ref.go:35",#[⟨6,.data⟩],none⟩,⟨some 4,.assign (.tmp 21),39,"ref.go:35",#[⟨7,.data⟩,⟨7,.chain⟩,⟨0,.phase⟩,⟨1,.phase⟩,⟨2,.phase⟩,⟨3,.phase⟩,⟨4,.phase⟩,⟨5,.phase⟩,⟨6,.phase⟩,⟨7,.phase⟩],none⟩] false) (.seq (Code.region 5 #[⟨some 22,.move (.tmp 4),39,"ref.go:35",#[],none⟩,⟨some 23,.binOp .neq 39 (.tmp 22) (.const (.int .i64 0)) 39,4,"ref.go:35",#[⟨0,.data⟩],none⟩] false) (.cond (.tmp 23) (.seq (Code.region 6 #[⟨some 24,.move (.tmp 4),39,"ref.go:36",#[],none⟩,⟨some 2,.assign (.tmp 24),39,"ref.go:36",#[⟨0,.data⟩,⟨0,.phase⟩],none⟩] false) .ret) .skip))) ckrest3 := by kernel_rfl
set_option maxRecDepth 1000000 in
theorem ckrest3_eq : ckrest3 = .seq (.seq (Code.region 7 #[⟨some 25,.fieldAddr 30 (.tmp 1) 1,0,"ref.go:38",#[],none⟩,⟨some 26,.fieldAddr 27 (.tmp 25) 0,0,"ref.go:38",#[⟨0,.data⟩],none⟩,⟨some 27,.load 23 (.tmp 26),23,"ref.go:38",#[⟨1,.data⟩],none⟩,⟨some 28,.fieldAddr 30 (.tmp 1) 1,0,"ref.go:38",#[],none⟩,⟨some 29,.fieldAddr 27 (.tmp 28) 1,0,"ref.go:38",#[⟨3,.data⟩],none⟩,⟨some 30,.load 23 (.tmp 29),23,"ref.go:38",#[⟨4,.data⟩],none⟩,⟨some 31,.fieldAddr 30 (.tmp 1) 1,0,"ref.go:38",#[],none⟩,⟨some 32,.fieldAddr 27 (.tmp 31) 2,0,"ref.go:38",#[⟨6,.data⟩],none⟩,⟨some 33,.load 23 (.tmp 32),23,"ref.go:38",#[⟨7,.data⟩],none⟩,⟨some 34,.fieldAddr 30 (.tmp 1) 1,0,"ref.go:38",#[],none⟩,⟨some 35,.fieldAddr 27 (.tmp 34) 3,0,"ref.go:38",#[⟨9,.data⟩],none⟩,⟨some 36,.load 23 (.tmp 35),23,"ref.go:38",#[⟨10,.data⟩],none⟩,⟨some 37,.buildSlice 28 4 #[(0,.tmp 27),(1,.tmp 30),(2,.tmp 33),(3,.tmp 36)],28,"ref.go:38",#[⟨2,.data⟩,⟨5,.data⟩,⟨8,.data⟩,⟨11,.data⟩],none⟩,⟨some 38,.call { callee := .value (.func 70),args := #[.tmp 37,.const (.int .i64 0),.const (.int .i64 12)],argTypes := #[28,3,3] },39,"ref.go:38",#[⟨12,.data⟩],none⟩,⟨some 5,.assign (.tmp 38),39,"ref.go:38",#[⟨13,.data⟩,⟨13,.chain⟩,⟨0,.phase⟩,⟨1,.phase⟩,⟨2,.phase⟩,⟨3,.phase⟩,⟨4,.phase⟩,⟨5,.phase⟩,⟨6,.phase⟩,⟨7,.phase⟩,⟨8,.phase⟩,⟨9,.phase⟩,⟨10,.phase⟩,⟨11,.phase⟩,⟨12,.phase⟩,⟨13,.phase⟩],none⟩] false) (.seq (Code.region 8 #[⟨some 39,.move (.tmp 5),39,"ref.go:38",#[],none⟩,⟨some 40,.binOp .neq 39 (.tmp 39) (.const (.int .i64 0)) 39,4,"ref.go:38",#[⟨0,.data⟩],none⟩] false) (.cond (.tmp 40) (.seq (Code.region 9 #[⟨some 41,.move (.tmp 5),39,"ref.go:39",#[],none⟩,⟨some 2,.assign (.tmp 41),39,"ref.go:39",#[⟨0,.data⟩,⟨0,.phase⟩],none⟩] false) .ret) .skip))) ckrest4 := by kernel_rfl
set_option maxRecDepth 1000000 in
theorem ckrest4_eq : ckrest4 = .seq (.seq (Code.region 10 #[⟨some 42,.fieldAddr 30 (.tmp 1) 1,0,"ref.go:41",#[],none⟩,⟨some 43,.fieldAddr 27 (.tmp 42) 4,0,"ref.go:41",#[⟨0,.data⟩],none⟩,⟨some 44,.load 3 (.tmp 43),3,"ref.go:41",#[⟨1,.data⟩],none⟩,⟨some 45,.call { callee := .value (.func 71),args := #[.tmp 44,.const (.int .i64 0),.const (.int .i64 100)],argTypes := #[3,3,3] },4,"ref.go:41",#[⟨2,.data⟩],none⟩,⟨some 46,.unOp .not 4 (.tmp 45),4,"ref.go:41",#[⟨3,.data⟩],none⟩] false) (.cond (.tmp 46) (.seq (Code.region 11 #[⟨some 2,.assign (.const (.int .i64 1)),39,"ref.go:42",#[],none⟩] false) .ret) .skip)) ckrest5 := by kernel_rfl
set_option maxRecDepth 1000000 in
theorem ckrest5_eq : ckrest5 = .seq (.seq (Code.region 12 #[⟨some 47,.fieldAddr 30 (.tmp 1) 2,0,"ref.go:44",#[],none⟩,⟨some 48,.load 28 (.tmp 47),28,"ref.go:44",#[⟨0,.data⟩],none⟩,⟨some 49,.call { callee := .builtin .len,args := #[.tmp 48],argTypes := #[28] },3,"ref.go:44",#[⟨1,.data⟩],none⟩,⟨some 50,.binOp .gtr 3 (.tmp 49) (.const (.int .i64 4)) 3,4,"ref.go:44",#[⟨2,.data⟩],none⟩] false) (.cond (.tmp 50) (.seq (Code.region 13 #[⟨some 2,.assign (.const (.int .i64 6)),39,"ref.go:45",#[],none⟩] false) .ret) .skip)) ckrest6 := by kernel_rfl
set_option maxRecDepth 1000000 in
theorem ckrest6_eq : ckrest6 = .seq (.seq (Code.region 14 #[⟨some 51,.fieldAddr 30 (.tmp 1) 2,0,"ref.go:47",#[],none⟩,⟨some 52,.load 28 (.tmp 51),28,"ref.go:47",#[⟨0,.data⟩],none⟩,⟨some 53,.call { callee := .value (.func 70),args := #[.tmp 52,.const (.int .i64 (-60)),.const (.int .i64 60)],argTypes := #[28,3,3] },39,"ref.go:47",#[⟨1,.data⟩],none⟩,⟨some 6,.assign (.tmp 53),39,"ref.go:47",#[⟨2,.data⟩,⟨2,.chain⟩,⟨0,.phase⟩,⟨1,.phase⟩,⟨2,.phase⟩],none⟩] false) (.seq (Code.region 15 #[⟨some 54,.move (.tmp 6),39,"ref.go:47",#[],none⟩,⟨some 55,.binOp .neq 39 (.tmp 54) (.const (.int .i64 0)) 39,4,"ref.go:47",#[⟨0,.data⟩],none⟩] false) (.cond (.tmp 55) (.seq (Code.region 16 #[⟨some 56,.move (.tmp 6),39,"ref.go:48",#[],none⟩,⟨some 2,.assign (.tmp 56),39,"ref.go:48",#[⟨0,.data⟩,⟨0,.phase⟩],none⟩] false) .ret) .skip))) ckrest7 := by kernel_rfl
set_option maxRecDepth 1000000 in
theorem ckrest7_eq : ckrest7 = .seq (.seq (Code.region 17 #[⟨some 57,.fieldAddr 30 (.tmp 1) 3,0,"ref.go:50",#[],none⟩,⟨some 58,.load 3 (.tmp 57),3,"ref.go:50",#[⟨0,.data⟩],none⟩,⟨some 59,.call { callee := .value (.func 71),args := #[.tmp 58,.const (.int .i64 0),.const (.int .i64 60)],argTypes := #[3,3,3] },4,"ref.go:50",#[⟨1,.data⟩],none⟩,⟨some 60,.unOp .not 4 (.tmp 59),4,"ref.go:50",#[⟨2,.data⟩],none⟩,⟨some 61,.move (.tmp 60),4,"ref.go:50",#[⟨3,.data⟩,⟨2,.chain⟩],none⟩,⟨some 62,.fieldAddr 30 (.tmp 1) 4,0,"ref.go:50",#[⟨4,.guard⟩],some (4,false)⟩,⟨some 63,.load 3 (.tmp 62),3,"ref.go:50",#[⟨5,.data⟩,⟨4,.guard⟩],some (4,false)⟩,⟨some 64,.call { callee := .value (.func 71),args := #[.tmp 63,.const (.int .i64 0),.const (.int .i64 6)],argTypes := #[3,3,3] },4,"ref.go:50",#[⟨6,.data⟩,⟨4,.chain⟩,⟨4,.guard⟩],some (4,false)⟩,⟨some 65,.unOp .not 4 (.tmp 64),4,"ref.go:50",#[⟨7,.data⟩,⟨4,.guard⟩],some (4,false)⟩,⟨some 66,.pick (.tmp 61) (.const (.bool true)) (.tmp 65),4,"ref.go:50",#[⟨4,.data⟩,⟨8,.data⟩],none⟩] false) (.cond (.tmp 66) (.seq (Code.region 18 #[⟨some 2,.assign (.const (.int .i64 1)),39,"ref.go:51",#[],none⟩] false) .ret) .skip)) ckrest8 := by kernel_rfl
set_option maxRecDepth 1000000 in
theorem ckrest8_eq : ckrest8 = .seq (Code.region 19 #[⟨some 2,.assign (.const (.int .i64 0)),39,"ref.go:53",#[],none⟩] false) .ret := by kernel_rfl

def ck7 (J : Jb) : Int := if numE J.wi 0 60 = 0 then (if numE J.me 0 6 = 0 then 0 else 1) else 1
def ck6 (J : Jb) : Int := if allE (-60) 60 J.sh = 0 then ck7 J else allE (-60) 60 J.sh
def ck5 (J : Jb) : Int := if 4 < J.sh.length then 6 else ck6 J
def ck4 (J : Jb) : Int := if numE J.le 0 100 = 0 then ck5 J else 1
def ck3 (J : Jb) : Int := if allE 0 12 [(J.u1,J.u2),(J.d1,J.d2),(J.x1,J.x2),(J.y1,J.y2)] = 0 then ck4 J else allE 0 12 [(J.u1,J.u2),(J.d1,J.d2),(J.x1,J.x2),(J.y1,J.y2)]
def ck2 (J : Jb) : Int := if allE 0 100 [(J.t1,J.t2),(J.r1,J.r2)] = 0 then ck3 J else allE 0 100 [(J.t1,J.t2),(J.r1,J.r2)]
def ck1 (J : Jb) : Int := if rngE J.p1 J.p2 (-60) 60 = 0 then ck2 J else rngE J.p1 J.p2 (-60) 60
theorem numE_01 (n lo hi : Int) : numE n lo hi = 0 ∨ numE n lo hi = 1 := by
  unfold numE
  split
  · exact .inr rfl
  · exact .inl rfl
theorem ck1_check (J : Jb) : ck1 J = J.check := by
  have q1 := numE_01 J.le 0 100
  have q2 := numE_01 J.wi 0 60
  have q3 := numE_01 J.me 0 6
  unfold ck1 ck2 ck3 ck4 ck5 ck6 ck7 Jb.check Jb.head
  simp only [allE,firstE,allE_sh]
  generalize rngE J.p1 J.p2 (-60) 60 = a1
  generalize rngE J.t1 J.t2 0 100 = a2
  generalize rngE J.r1 J.r2 0 100 = a3
  generalize rngE J.u1 J.u2 0 12 = a4
  generalize rngE J.d1 J.d2 0 12 = a5
  generalize rngE J.x1 J.x2 0 12 = a6
  generalize rngE J.y1 J.y2 0 12 = a7
  generalize numE J.le 0 100 = a8 at q1 ⊢
  generalize numE J.wi 0 60 = a9 at q2 ⊢
  generalize numE J.me 0 6 = a10 at q3 ⊢
  generalize shE J.sh = a11
  by_cases h1 : a1 = 0 <;> simp only [h1,if_true,if_false]
  by_cases h2 : a2 = 0 <;> simp only [h2,if_true,if_false]
  by_cases h3 : a3 = 0 <;> simp only [h3,if_true,if_false]
  by_cases h4 : a4 = 0 <;> simp only [h4,if_true,if_false]
  by_cases h5 : a5 = 0 <;> simp only [h5,if_true,if_false]
  by_cases h6 : a6 = 0 <;> simp only [h6,if_true,if_false]
  by_cases h7 : a7 = 0 <;> simp only [h7,if_true,if_false]
  by_cases h8 : a8 = 0 <;> simp only [h8,if_true,if_false]
  · by_cases h9 : 4 < J.sh.length <;> simp only [h9,if_true,if_false]
    by_cases h11 : a11 = 0 <;> simp only [h11,if_true,if_false]
    rcases q2 with rfl | rfl <;> rcases q3 with rfl | rfl <;> decide
  · have : a8 = 1 := by omega
    subst this
    decide
/-- What the end of the reference's Check is held to. -/
def QC (V : Int) (w0 : World) : Exit → Act → World → Prop := bodyPost Try.prog Try.f39 fun e w' => e = .returned (.int .i64 V) ∧ Below w0.heap.size w0 w'
structure CS (w0 : World) (g : Nat) (J : Jb) (a : Option Addr) (n c : Nat) (w : World) : Prop where
  job : Bk w g 30 (jobC J (.slice a n c))
  b0 : Below w0.heap.size w0 w
  rg : Rg w0 w0.heap.size a J.sh
  en : n = J.sh.length
  nm : n ≤ 9223372036854775807
theorem CS.next {w0 w w' : World} {g : Nat} {J : Jb} {a : Option Addr} {n c : Nat} (h : CS w0 g J a n c w) (hb : Below w.heap.size w w') : CS w0 g J a n c w' :=
  ⟨h.job.below hb h.job.lt,h.b0.trans (hb.mono h.b0.size),h.rg,h.en,h.nm⟩
set_option maxHeartbeats 4000000 in
set_option maxRecDepth 1000000 in
theorem ckpart7 {w0 : World} {g : Nat} {J : Jb} {a : Option Addr} {n c : Nat} {V : Int} {w : World} {u0 u2 u3 u4 u5 u6 u7 u8 u9 u10 u11 u12 u13 u14 u15 u16 u17 u18 u19 u20 u21 u22 u23 u24 u25 u26 u27 u28 u29 u30 u31 u32 u33 u34 u35 u36 u37 u38 u39 u40 u41 u42 u43 u44 u45 u46 u47 u48 u49 u50 u51 u52 u53 u54 u55 u56 u57 u58 u59 u60 u61 u62 u63 u64 u65 u66 : Value} (hs : CS w0 g J a n c w) (hv : V = ck7 J) : Code.wp Try.prog ckrest7 (QC V w0) ⟨#[u0,(.pointer (some ⟨g,0,none⟩)),u2,u3,u4,u5,u6,u7,u8,u9,u10,u11,u12,u13,u14,u15,u16,u17,u18,u19,u20,u21,u22,u23,u24,u25,u26,u27,u28,u29,u30,u31,u32,u33,u34,u35,u36,u37,u38,u39,u40,u41,u42,u43,u44,u45,u46,u47,u48,u49,u50,u51,u52,u53,u54,u55,u56,u57,u58,u59,u60,u61,u62,u63,u64,u65,u66],[]⟩ w := by
  rw [ckrest7_eq]
  have c16 := hs.job.at_ 16 (.int .i64 J.wi) rfl
  have c17 := hs.job.at_ 17 (.int .i64 J.me) rfl
  have HS := hidMk hs
  unfold ck7 at hv
  clear hs
  by_cases hz0 : numE J.wi 0 60 = 0
  · rw [if_pos hz0] at hv
    by_cases hy0 : numE J.me 0 6 = 0
    · rw [if_pos hy0] at hv
      have HV := hidMk hv
      clear hv
      have hz1 : (numE J.wi 0 60 == 0) = true := by simp [hz0]
      have hy1 : (numE J.me 0 6 == 0) = true := by simp [hy0]
      clear hz0 hy0
      unfold QC
      go_wp2_with (go_at_call 71; refine (among_any _ _ _ _).mono ?_; rintro e w2 ⟨rfl,rfl⟩)
      rw [ckrest8_eq]
      go_wp2_with fail
      go_ret
      exact ⟨ret_i HV.out.symm,HS.out.b0⟩
    · rw [if_neg hy0] at hv
      have HV := hidMk hv
      clear hv
      have hz1 : (numE J.wi 0 60 == 0) = true := by simp [hz0]
      have hy1 : (numE J.me 0 6 == 0) = false := by simp [hy0]
      clear hz0 hy0
      unfold QC
      go_wp2_with (go_at_call 71; refine (among_any _ _ _ _).mono ?_; rintro e w2 ⟨rfl,rfl⟩)
      go_ret
      exact ⟨ret_i HV.out.symm,HS.out.b0⟩
  · rw [if_neg hz0] at hv
    have HV := hidMk hv
    clear hv
    have hz1 : (numE J.wi 0 60 == 0) = false := by simp [hz0]
    clear hz0
    unfold QC
    go_wp2_with (go_at_call 71; refine (among_any _ _ _ _).mono ?_; rintro e w2 ⟨rfl,rfl⟩)
    go_ret
    exact ⟨ret_i HV.out.symm,HS.out.b0⟩
set_option maxHeartbeats 4000000 in
set_option maxRecDepth 1000000 in
theorem ckpart6 {w0 : World} {g : Nat} {J : Jb} {a : Option Addr} {n c : Nat} {V : Int} {w : World} {u0 u2 u3 u4 u5 u6 u7 u8 u9 u10 u11 u12 u13 u14 u15 u16 u17 u18 u19 u20 u21 u22 u23 u24 u25 u26 u27 u28 u29 u30 u31 u32 u33 u34 u35 u36 u37 u38 u39 u40 u41 u42 u43 u44 u45 u46 u47 u48 u49 u50 u51 u52 u53 u54 u55 u56 u57 u58 u59 u60 u61 u62 u63 u64 u65 u66 : Value} (hs : CS w0 g J a n c w) (hv : V = ck6 J) : Code.wp Try.prog ckrest6 (QC V w0) ⟨#[u0,(.pointer (some ⟨g,0,none⟩)),u2,u3,u4,u5,u6,u7,u8,u9,u10,u11,u12,u13,u14,u15,u16,u17,u18,u19,u20,u21,u22,u23,u24,u25,u26,u27,u28,u29,u30,u31,u32,u33,u34,u35,u36,u37,u38,u39,u40,u41,u42,u43,u44,u45,u46,u47,u48,u49,u50,u51,u52,u53,u54,u55,u56,u57,u58,u59,u60,u61,u62,u63,u64,u65,u66],[]⟩ w := by
  rw [ckrest6_eq]
  have c15 := hs.job.at_ 15 (.slice a n c) rfl
  have HS := hidMk hs
  unfold ck6 at hv
  clear hs
  by_cases hz0 : allE (-60) 60 J.sh = 0
  · rw [if_pos hz0] at hv
    have HV := hidMk hv
    have hz1 : (allE (-60) 60 J.sh != 0) = false := by simp [hz0]
    clear hv hz0
    go_wp2_with (go_at_call 70; refine (checkAll_any a n c J.sh (-60) 60 _ HS.out.en HS.out.nm (HS.out.rg.up HS.out.b0)).mono ?_; rintro e w2 ⟨rfl,hb⟩)
    exact ckpart7 (HS.out.next hb) HV.out
  · rw [if_neg hz0] at hv
    have HV := hidMk hv
    have hz1 : (allE (-60) 60 J.sh != 0) = true := by simp [hz0]
    clear hv hz0
    unfold QC
    go_wp2_with (go_at_call 70; refine (checkAll_any a n c J.sh (-60) 60 _ HS.out.en HS.out.nm (HS.out.rg.up HS.out.b0)).mono ?_; rintro e w2 ⟨rfl,hb⟩)
    go_ret
    exact ⟨ret_i HV.out.symm,HS.out.b0.trans (hb.mono HS.out.b0.size)⟩
set_option maxHeartbeats 4000000 in
set_option maxRecDepth 1000000 in
theorem ckpart5 {w0 : World} {g : Nat} {J : Jb} {a : Option Addr} {n c : Nat} {V : Int} {w : World} {u0 u2 u3 u4 u5 u6 u7 u8 u9 u10 u11 u12 u13 u14 u15 u16 u17 u18 u19 u20 u21 u22 u23 u24 u25 u26 u27 u28 u29 u30 u31 u32 u33 u34 u35 u36 u37 u38 u39 u40 u41 u42 u43 u44 u45 u46 u47 u48 u49 u50 u51 u52 u53 u54 u55 u56 u57 u58 u59 u60 u61 u62 u63 u64 u65 u66 : Value} (hs : CS w0 g J a n c w) (hv : V = ck5 J) : Code.wp Try.prog ckrest5 (QC V w0) ⟨#[u0,(.pointer (some ⟨g,0,none⟩)),u2,u3,u4,u5,u6,u7,u8,u9,u10,u11,u12,u13,u14,u15,u16,u17,u18,u19,u20,u21,u22,u23,u24,u25,u26,u27,u28,u29,u30,u31,u32,u33,u34,u35,u36,u37,u38,u39,u40,u41,u42,u43,u44,u45,u46,u47,u48,u49,u50,u51,u52,u53,u54,u55,u56,u57,u58,u59,u60,u61,u62,u63,u64,u65,u66],[]⟩ w := by
  rw [ckrest5_eq]
  have c15 := hs.job.at_ 15 (.slice a n c) rfl
  have HS := hidMk hs
  have hnm := hs.nm
  unfold ck5 at hv
  rw [← hs.en] at hv
  clear hs
  by_cases hz0 : 4 < n
  · rw [if_pos hz0] at hv
    have HV := hidMk hv
    clear hv
    unfold QC
    go_wp2_with fail
    go_ret
    exact ⟨ret_i HV.out.symm,HS.out.b0⟩
  · rw [if_neg hz0] at hv
    have HV := hidMk hv
    clear hv
    go_wp2_with fail
    exact ckpart6 HS.out HV.out
set_option maxHeartbeats 4000000 in
set_option maxRecDepth 1000000 in
theorem ckpart4 {w0 : World} {g : Nat} {J : Jb} {a : Option Addr} {n c : Nat} {V : Int} {w : World} {u0 u2 u3 u4 u5 u6 u7 u8 u9 u10 u11 u12 u13 u14 u15 u16 u17 u18 u19 u20 u21 u22 u23 u24 u25 u26 u27 u28 u29 u30 u31 u32 u33 u34 u35 u36 u37 u38 u39 u40 u41 u42 u43 u44 u45 u46 u47 u48 u49 u50 u51 u52 u53 u54 u55 u56 u57 u58 u59 u60 u61 u62 u63 u64 u65 u66 : Value} (hs : CS w0 g J a n c w) (hv : V = ck4 J) : Code.wp Try.prog ckrest4 (QC V w0) ⟨#[u0,(.pointer (some ⟨g,0,none⟩)),u2,u3,u4,u5,u6,u7,u8,u9,u10,u11,u12,u13,u14,u15,u16,u17,u18,u19,u20,u21,u22,u23,u24,u25,u26,u27,u28,u29,u30,u31,u32,u33,u34,u35,u36,u37,u38,u39,u40,u41,u42,u43,u44,u45,u46,u47,u48,u49,u50,u51,u52,u53,u54,u55,u56,u57,u58,u59,u60,u61,u62,u63,u64,u65,u66],[]⟩ w := by
  rw [ckrest4_eq]
  have c14 := hs.job.at_ 14 (.int .i64 J.le) rfl
  have HS := hidMk hs
  unfold ck4 at hv
  clear hs
  by_cases hz0 : numE J.le 0 100 = 0
  · rw [if_pos hz0] at hv
    have HV := hidMk hv
    have hz1 : (numE J.le 0 100 == 0) = true := by simp [hz0]
    clear hv hz0
    go_wp2_with (go_at_call 71; refine (among_any _ _ _ _).mono ?_; rintro e w2 ⟨rfl,rfl⟩)
    exact ckpart5 HS.out HV.out
  · rw [if_neg hz0] at hv
    have HV := hidMk hv
    have hz1 : (numE J.le 0 100 == 0) = false := by simp [hz0]
    clear hv hz0
    unfold QC
    go_wp2_with (go_at_call 71; refine (among_any _ _ _ _).mono ?_; rintro e w2 ⟨rfl,rfl⟩)
    go_ret
    exact ⟨ret_i HV.out.symm,HS.out.b0⟩
set_option maxHeartbeats 4000000 in
set_option maxRecDepth 1000000 in
theorem ckpart3 {w0 : World} {g : Nat} {J : Jb} {a : Option Addr} {n c : Nat} {V : Int} {w : World} {u0 u2 u3 u4 u5 u6 u7 u8 u9 u10 u11 u12 u13 u14 u15 u16 u17 u18 u19 u20 u21 u22 u23 u24 u25 u26 u27 u28 u29 u30 u31 u32 u33 u34 u35 u36 u37 u38 u39 u40 u41 u42 u43 u44 u45 u46 u47 u48 u49 u50 u51 u52 u53 u54 u55 u56 u57 u58 u59 u60 u61 u62 u63 u64 u65 u66 : Value} (hs : CS w0 g J a n c w) (hv : V = ck3 J) : Code.wp Try.prog ckrest3 (QC V w0) ⟨#[u0,(.pointer (some ⟨g,0,none⟩)),u2,u3,u4,u5,u6,u7,u8,u9,u10,u11,u12,u13,u14,u15,u16,u17,u18,u19,u20,u21,u22,u23,u24,u25,u26,u27,u28,u29,u30,u31,u32,u33,u34,u35,u36,u37,u38,u39,u40,u41,u42,u43,u44,u45,u46,u47,u48,u49,u50,u51,u52,u53,u54,u55,u56,u57,u58,u59,u60,u61,u62,u63,u64,u65,u66],[]⟩ w := by
  rw [ckrest3_eq]
  have c6 := hs.job.at_ 6 (.int .i64 J.u1) rfl
  have c7 := hs.job.at_ 7 (.int .i64 J.u2) rfl
  have c8 := hs.job.at_ 8 (.int .i64 J.d1) rfl
  have c9 := hs.job.at_ 9 (.int .i64 J.d2) rfl
  have c10 := hs.job.at_ 10 (.int .i64 J.x1) rfl
  have c11 := hs.job.at_ 11 (.int .i64 J.x2) rfl
  have c12 := hs.job.at_ 12 (.int .i64 J.y1) rfl
  have c13 := hs.job.at_ 13 (.int .i64 J.y2) rfl
  have HS := hidMk hs
  unfold ck3 at hv
  clear hs
  by_cases hz0 : allE 0 12 [(J.u1,J.u2),(J.d1,J.d2),(J.x1,J.x2),(J.y1,J.y2)] = 0
  · rw [if_pos hz0] at hv
    have HV := hidMk hv
    have hz1 : (allE 0 12 [(J.u1,J.u2),(J.d1,J.d2),(J.x1,J.x2),(J.y1,J.y2)] != 0) = false := by simp [hz0]
    clear hv hz0
    go_wp2_with (go_at_call 70; refine (checkAll_any _ 4 4 [(J.u1,J.u2),(J.d1,J.d2),(J.x1,J.x2),(J.y1,J.y2)] 0 12 _ rfl (by decide) (Rg.of_bk [(J.u1,J.u2),(J.d1,J.d2),(J.x1,J.x2),(J.y1,J.y2)] (Bk.new _ _ _) (by simp))).mono ?_; rintro e w2 ⟨rfl,hb0⟩; have hb := ((Below.refl _ w).alloc (Nat.le_refl _) _).trans (hb0.mono (by simp)); clear hb0)
    exact ckpart4 (HS.out.next hb) HV.out
  · rw [if_neg hz0] at hv
    have HV := hidMk hv
    have hz1 : (allE 0 12 [(J.u1,J.u2),(J.d1,J.d2),(J.x1,J.x2),(J.y1,J.y2)] != 0) = true := by simp [hz0]
    clear hv hz0
    unfold QC
    go_wp2_with (go_at_call 70; refine (checkAll_any _ 4 4 [(J.u1,J.u2),(J.d1,J.d2),(J.x1,J.x2),(J.y1,J.y2)] 0 12 _ rfl (by decide) (Rg.of_bk [(J.u1,J.u2),(J.d1,J.d2),(J.x1,J.x2),(J.y1,J.y2)] (Bk.new _ _ _) (by simp))).mono ?_; rintro e w2 ⟨rfl,hb0⟩; have hb := ((Below.refl _ w).alloc (Nat.le_refl _) _).trans (hb0.mono (by simp)); clear hb0)
    go_ret
    exact ⟨ret_i HV.out.symm,HS.out.b0.trans (hb.mono HS.out.b0.size)⟩
set_option maxHeartbeats 4000000 in
set_option maxRecDepth 1000000 in
theorem ckpart2 {w0 : World} {g : Nat} {J : Jb} {a : Option Addr} {n c : Nat} {V : Int} {w : World} {u0 u2 u3 u4 u5 u6 u7 u8 u9 u10 u11 u12 u13 u14 u15 u16 u17 u18 u19 u20 u21 u22 u23 u24 u25 u26 u27 u28 u29 u30 u31 u32 u33 u34 u35 u36 u37 u38 u39 u40 u41 u42 u43 u44 u45 u46 u47 u48 u49 u50 u51 u52 u53 u54 u55 u56 u57 u58 u59 u60 u61 u62 u63 u64 u65 u66 : Value} (hs : CS w0 g J a n c w) (hv : V = ck2 J) : Code.wp Try.prog ckrest2 (QC V w0) ⟨#[u0,(.pointer (some ⟨g,0,none⟩)),u2,u3,u4,u5,u6,u7,u8,u9,u10,u11,u12,u13,u14,u15,u16,u17,u18,u19,u20,u21,u22,u23,u24,u25,u26,u27,u28,u29,u30,u31,u32,u33,u34,u35,u36,u37,u38,u39,u40,u41,u42,u43,u44,u45,u46,u47,u48,u49,u50,u51,u52,u53,u54,u55,u56,u57,u58,u59,u60,u61,u62,u63,u64,u65,u66],[]⟩ w := by
  rw [ckrest2_eq]
  have c2 := hs.job.at_ 2 (.int .i64 J.t1) rfl
  have c3 := hs.job.at_ 3 (.int .i64 J.t2) rfl
  have c4 := hs.job.at_ 4 (.int .i64 J.r1) rfl
  have c5 := hs.job.at_ 5 (.int .i64 J.r2) rfl
  have HS := hidMk hs
  unfold ck2 at hv
  clear hs
  by_cases hz0 : allE 0 100 [(J.t1,J.t2),(J.r1,J.r2)] = 0
  · rw [if_pos hz0] at hv
    have HV := hidMk hv
    have hz1 : (allE 0 100 [(J.t1,J.t2),(J.r1,J.r2)] != 0) = false := by simp [hz0]
    clear hv hz0
    go_wp2_with (go_at_call 70; refine (checkAll_any _ 2 2 [(J.t1,J.t2),(J.r1,J.r2)] 0 100 _ rfl (by decide) (Rg.of_bk [(J.t1,J.t2),(J.r1,J.r2)] (Bk.new _ _ _) (by simp))).mono ?_; rintro e w2 ⟨rfl,hb0⟩; have hb := ((Below.refl _ w).alloc (Nat.le_refl _) _).trans (hb0.mono (by simp)); clear hb0)
    exact ckpart3 (HS.out.next hb) HV.out
  · rw [if_neg hz0] at hv
    have HV := hidMk hv
    have hz1 : (allE 0 100 [(J.t1,J.t2),(J.r1,J.r2)] != 0) = true := by simp [hz0]
    clear hv hz0
    unfold QC
    go_wp2_with (go_at_call 70; refine (checkAll_any _ 2 2 [(J.t1,J.t2),(J.r1,J.r2)] 0 100 _ rfl (by decide) (Rg.of_bk [(J.t1,J.t2),(J.r1,J.r2)] (Bk.new _ _ _) (by simp))).mono ?_; rintro e w2 ⟨rfl,hb0⟩; have hb := ((Below.refl _ w).alloc (Nat.le_refl _) _).trans (hb0.mono (by simp)); clear hb0)
    go_ret
    exact ⟨ret_i HV.out.symm,HS.out.b0.trans (hb.mono HS.out.b0.size)⟩
set_option maxHeartbeats 4000000 in
set_option maxRecDepth 1000000 in
theorem ckpart1 {w0 : World} {g : Nat} {J : Jb} {a : Option Addr} {n c : Nat} {V : Int} {w : World} {u0 u2 u3 u4 u5 u6 u7 u8 u9 u10 u11 u12 u13 u14 u15 u16 u17 u18 u19 u20 u21 u22 u23 u24 u25 u26 u27 u28 u29 u30 u31 u32 u33 u34 u35 u36 u37 u38 u39 u40 u41 u42 u43 u44 u45 u46 u47 u48 u49 u50 u51 u52 u53 u54 u55 u56 u57 u58 u59 u60 u61 u62 u63 u64 u65 u66 : Value} (hs : CS w0 g J a n c w) (hv : V = ck1 J) : Code.wp Try.prog ckrest1 (QC V w0) ⟨#[u0,(.pointer (some ⟨g,0,none⟩)),u2,u3,u4,u5,u6,u7,u8,u9,u10,u11,u12,u13,u14,u15,u16,u17,u18,u19,u20,u21,u22,u23,u24,u25,u26,u27,u28,u29,u30,u31,u32,u33,u34,u35,u36,u37,u38,u39,u40,u41,u42,u43,u44,u45,u46,u47,u48,u49,u50,u51,u52,u53,u54,u55,u56,u57,u58,u59,u60,u61,u62,u63,u64,u65,u66],[]⟩ w := by
  rw [ckrest1_eq]
  have c0 := hs.job.at_ 0 (.int .i64 J.p1) rfl
  have c1 := hs.job.at_ 1 (.int .i64 J.p2) rfl
  have HS := hidMk hs
  unfold ck1 at hv
  clear hs
  by_cases hz0 : rngE J.p1 J.p2 (-60) 60 = 0
  · rw [if_pos hz0] at hv
    have HV := hidMk hv
    have hz1 : (rngE J.p1 J.p2 (-60) 60 != 0) = false := by simp [hz0]
    clear hv hz0
    go_wp2_with (go_at_call 69; refine (refRange_any _ _ _ _ _).mono ?_; rintro e w2 ⟨rfl,hb⟩)
    exact ckpart2 (HS.out.next hb) HV.out
  · rw [if_neg hz0] at hv
    have HV := hidMk hv
    have hz1 : (rngE J.p1 J.p2 (-60) 60 != 0) = true := by simp [hz0]
    clear hv hz0
    unfold QC
    go_wp2_with (go_at_call 69; refine (refRange_any _ _ _ _ _).mono ?_; rintro e w2 ⟨rfl,hb⟩)
    go_ret
    exact ⟨ret_i HV.out.symm,HS.out.b0.trans (hb.mono HS.out.b0.size)⟩
set_option maxRecDepth 100000 in
theorem refCheck_any (J : Jb) (a : Option Addr) (n c : Nat) (w : World) (hn : n = J.sh.length) (hm : n ≤ 9223372036854775807) (h : Rg w w.heap.size a J.sh) :
    Calls Try.prog 39 #[.agg (jobC J (.slice a n c))] w fun e w' => e = .returned (.int .i64 J.check) ∧ Below w.heap.size w w' := by
  have hs : CS w w.heap.size J a n c (w.alloc (.cells (jobC J (.slice a n c)) 30)) := ⟨Bk.new _ _ _,(Below.refl _ _).alloc (Nat.le_refl _) _,h,hn,hm⟩
  have HS := hidMk hs
  clear hn hm h hs
  go_enter Try.func39,Try.ntmps39
  show Code.wp Try.prog ckbody (QC J.check w) _ _
  rw [ckbody_eq]
  go_wp2_with fail
  exact ckpart1 HS.out (ck1_check J).symm
end Go.Proofs.Ytadmcafbffjjbaa
