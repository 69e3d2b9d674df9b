/- Part 23 of the proof: RefA, RefB, RefC, RtC. -/
import Derived.Test.YtljefjngmembkaaGreatDoorT12
import Derived.Test.YtljefjngmembkaaGreatDoorT22
import Derived.Test.YtljefjngmembkaaGreatDoorT13
namespace Go.Proofs.YtljefjngmembkaaGreatDoor
set_option linter.all false
open Go.RowKit

theorem among_any (n lo hi : Int) (w : World) :
    Calls Tryz.prog 56 #[.int .i64 n,.int .i64 lo,.int .i64 hi] w fun e w' => e = .returned (.bool (numE n lo hi == 0)) ∧ w' = w := by
  by_cases h1 : n < lo
  · have H : Hid ((numE n lo hi == 0) = false) := by show (numE n lo hi == 0) = false; simp [numE,h1]
    go_enter Tryz.func56,Tryz.ntmps56
    go_wp2
    go_ret
    exact ⟨by rw [H.out]; rfl,rfl⟩
  · by_cases h2 : hi < n
    · have H : Hid ((numE n lo hi == 0) = false) := by show (numE n lo hi == 0) = false; simp [numE,h2]
      have hd : decide (n ≤ hi) = false := decide_eq_false (by omega)
      go_enter Tryz.func56,Tryz.ntmps56
      go_wp2
      go_ret
      exact ⟨by rw [H.out]; rfl,rfl⟩
    · have H : Hid ((numE n lo hi == 0) = true) := by show (numE n lo hi == 0) = true; simp [numE,h1,h2]
      go_enter Tryz.func56,Tryz.ntmps56
      go_wp2
      go_ret
      exact ⟨by rw [H.out]; rfl,rfl⟩
theorem rngE_split (a b lo hi : Int) : rngE a b lo hi = if (numE a lo hi == 0) = true then (if (numE b lo hi == 0) = true then (if b < a then 5 else 0) else 1) else 1 := by
  unfold rngE numE
  by_cases h1 : a < lo ∨ hi < a <;> by_cases h2 : b < lo ∨ hi < b <;> simp [h1,h2]
theorem refRange_any (a b lo hi : Int) (w : World) :
    Calls Tryz.prog 54 #[.agg #[.int .i64 a,.int .i64 b],.int .i64 lo,.int .i64 hi] w fun e w' => e = .returned (.int .i64 (rngE a b lo hi)) ∧ Below w.heap.size w w' := by
  have Hr := hidMk (rngE_split a b lo hi)
  cases h1 : (numE a lo hi == 0)
  · have H : Hid (rngE a b lo hi = 1) := by show rngE a b lo hi = 1; rw [Hr.out,h1]; rfl
    go_enter Tryz.func54,Tryz.ntmps54
    go_wp2_with (go_at_call 56; refine (among_any _ _ _ _).mono ?_; rintro e w' ⟨rfl,rfl⟩)
    go_ret
    exact ⟨by rw [H.out]; rfl,(Below.refl _ _).alloc (Nat.le_refl _) _⟩
  · cases h2 : (numE b lo hi == 0)
    · have H : Hid (rngE a b lo hi = 1) := by show rngE a b lo hi = 1; rw [Hr.out,h1,h2]; rfl
      go_enter Tryz.func54,Tryz.ntmps54
      go_wp2_with (go_at_call 56; refine (among_any _ _ _ _).mono ?_; rintro e w' ⟨rfl,rfl⟩)
      go_ret
      exact ⟨by rw [H.out]; rfl,(Below.refl _ _).alloc (Nat.le_refl _) _⟩
    · by_cases h3 : b < a
      · have H : Hid (rngE a b lo hi = 5) := by show rngE a b lo hi = 5; rw [Hr.out,h1,h2,if_pos h3]; rfl
        go_enter Tryz.func54,Tryz.ntmps54
        go_wp2_with (go_at_call 56; refine (among_any _ _ _ _).mono ?_; rintro e w' ⟨rfl,rfl⟩)
        go_ret
        exact ⟨by rw [H.out]; rfl,(Below.refl _ _).alloc (Nat.le_refl _) _⟩
      · have H : Hid (rngE a b lo hi = 0) := by show rngE a b lo hi = 0; rw [Hr.out,h1,h2,if_neg h3]; rfl
        go_enter Tryz.func54,Tryz.ntmps54
        go_wp2_with (go_at_call 56; refine (among_any _ _ _ _).mono ?_; rintro e w' ⟨rfl,rfl⟩)
        go_ret
        exact ⟨by rw [H.out]; rfl,(Below.refl _ _).alloc (Nat.le_refl _) _⟩
end Go.Proofs.YtljefjngmembkaaGreatDoor
namespace Go.Proofs.YtljefjngmembkaaGreatDoor
set_option linter.all false
open Go.RowKit

def allE (lo hi : Int) : List R2 → Int
  | [] => 0
  | s :: l => if rngE s.1 s.2 lo hi = 0 then allE lo hi l else rngE s.1 s.2 lo hi
theorem allE_sh : ∀ l : List R2,allE (-60) 60 l = shE l
  | [] => rfl
  | s :: l => by unfold allE shE; rw [allE_sh l]
set_option maxHeartbeats 1000000 in
set_option maxRecDepth 100000 in
theorem checkAll_any (a : Option Addr) (n c : Nat) (l : List R2) (lo hi : Int) (w : World) (hn : n = l.length) (hm : n ≤ 9223372036854775807) (h : Rg w w.heap.size a l) :
    Calls Tryz.prog 55 #[.slice a n c,.int .i64 lo,.int .i64 hi] w fun e w' => e = .returned (.int .i64 (allE lo hi l)) ∧ Below w.heap.size w w' := by
  have Hn := hidMk hn
  have Hh := hidMk h
  clear hn h
  go_enter Tryz.func55,Tryz.ntmps55
  go_wp2_with fail
  go_loopw [7,8] (fun i _ wr => ∃ k : Nat,k ≤ n ∧ i = .int .i64 k ∧ Hid (allE lo hi l = allE lo hi (l.drop k)) ∧ Below w.heap.size w wr) (fun i _ _ => n - (intOf i).toNat)
  case atStart => exact ⟨0,Nat.zero_le _,rfl,rfl,Below.refl _ _⟩
  case round =>
    obtain ⟨k,hk,rfl,Hf,hB⟩ := hrel
    have hz := hB.size
    by_cases hlt : k < n
    · have hkl : k < l.length := by rw [← Hn.out]; exact hlt
      obtain ⟨b,off,rfl,hbl,e0,e1⟩ := Hh.out k l[k] (List.getElem?_eq_getElem hkl)
      replace e0 := (hB.cell (p := ⟨b,off + k * 2,none⟩) hbl).trans e0
      replace e1 := (hB.cell (p := ⟨b,off + k * 2 + 1,none⟩) hbl).trans e1
      have hbl' : b < wr.heap.size := by omega
      have Hd : Hid (l.drop k = l[k] :: l.drop (k + 1)) := List.drop_eq_getElem_cons hkl
      obtain ⟨s,Hs⟩ : ∃ s,Hid (s = l[k]) := ⟨_,hidMk rfl⟩
      rw [← Hs.out] at e0 e1 Hd
      by_cases hz0 : rngE s.1 s.2 lo hi = 0
      · have hz1 : (rngE s.1 s.2 lo hi != 0) = false := by simp [hz0]
        have Hz := hidMk hz0
        clear hz0
        go_wp2_with (go_at_call 54; refine (refRange_any _ _ _ _ _).mono ?_; rintro e w2 ⟨rfl,hb⟩)
        go_roundw
        case rel => exact ⟨k + 1,by omega,by go_num,by show allE lo hi l = _; rw [Hf.out,Hd.out,allE,if_pos Hz.out],hB.trans (hb.mono (by omega))⟩
        case measure => simp [intOf]; omega
      · have hz1 : (rngE s.1 s.2 lo hi != 0) = true := by simp [hz0]
        have Hz := hidMk hz0
        clear hz0
        go_wp2_with (go_at_call 54; refine (refRange_any _ _ _ _ _).mono ?_; rintro e w2 ⟨rfl,hb⟩)
        go_ret
        exact ⟨ret_i (by rw [Hf.out,Hd.out,allE,if_neg Hz.out]),hB.trans (hb.mono (by omega))⟩
    · obtain rfl : k = n := by omega
      go_wp2_with fail
      go_ret
      exact ⟨ret_i (by rw [Hf.out,List.drop_of_length_le (by rw [← Hn.out]; omega)]; rfl),hB⟩
end Go.Proofs.YtljefjngmembkaaGreatDoor
namespace Go.Proofs.YtljefjngmembkaaGreatDoor
set_option linter.all false
open Go.RowKit
noncomputable def sndC : Code → Code
  | .seq _ c => c
  | c => c
noncomputable def ckbody : Code := Tryz.f32.body.getD .skip
noncomputable def ckrest1 : Code := sndC ckbody
noncomputable def ckrest2 : Code := sndC ckrest1
noncomputable def ckrest3 : Code := sndC ckrest2
noncomputable def ckrest4 : Code := sndC ckrest3
noncomputable def ckrest5 : Code := sndC ckrest4
noncomputable def ckrest6 : Code := sndC ckrest5
noncomputable def ckrest7 : Code := sndC ckrest6
noncomputable def ckrest8 : Code := sndC ckrest7
set_option maxRecDepth 1000000 in
theorem ckbody_eq : ckbody = .seq (Code.region 0 #[⟨some 1,.box 30 (.tmp 0),0,"ref.go:31",#[],none⟩,⟨some 2,.assign (.const (.int .i64 0)),38,"ref.go:31",#[],none⟩] false) ckrest1 := by kernel_rfl
set_option maxRecDepth 1000000 in
theorem ckrest1_eq : ckrest1 = .seq (.seq (Code.region 1 #[⟨some 7,.fieldAddr 30 (.tmp 1) 0,0,"ref.go:32",#[],none⟩,⟨some 8,.fieldAddr 25 (.tmp 7) 0,0,"ref.go:32",#[⟨0,.data⟩],none⟩,⟨some 9,.load 23 (.tmp 8),23,"ref.go:32",#[⟨1,.data⟩],none⟩,⟨some 10,.call { callee := .value (.func 54),args := #[.tmp 9,.const (.int .i64 (-60)),.const (.int .i64 60)],argTypes := #[23,3,3] },38,"ref.go:32",#[⟨2,.data⟩],none⟩,⟨some 3,.assign (.tmp 10),38,"ref.go:32",#[⟨3,.data⟩,⟨3,.chain⟩,⟨0,.phase⟩,⟨1,.phase⟩,⟨2,.phase⟩,⟨3,.phase⟩],none⟩] false) (.seq (Code.region 2 #[⟨some 11,.move (.tmp 3),38,"ref.go:32",#[],none⟩,⟨some 12,.binOp .neq 38 (.tmp 11) (.const (.int .i64 0)) 38,4,"ref.go:32",#[⟨0,.data⟩],none⟩] false) (.cond (.tmp 12) (.seq (Code.region 3 #[⟨some 13,.move (.tmp 3),38,"ref.go:33",#[],none⟩,⟨some 2,.assign (.tmp 13),38,"ref.go:33",#[⟨0,.data⟩,⟨0,.phase⟩],none⟩] false) .ret) .skip))) ckrest2 := by kernel_rfl
set_option maxRecDepth 1000000 in
theorem ckrest2_eq : ckrest2 = .seq (.seq (Code.region 4 #[⟨some 14,.fieldAddr 30 (.tmp 1) 0,0,"ref.go:35",#[],none⟩,⟨some 15,.fieldAddr 25 (.tmp 14) 1,0,"ref.go:35",#[⟨0,.data⟩],none⟩,⟨some 16,.load 23 (.tmp 15),23,"ref.go:35",#[⟨1,.data⟩],none⟩,⟨some 17,.fieldAddr 30 (.tmp 1) 0,0,"ref.go:35",#[],none⟩,⟨some 18,.fieldAddr 25 (.tmp 17) 2,0,"ref.go:35",#[⟨3,.data⟩],none⟩,⟨some 19,.load 23 (.tmp 18),23,"ref.go:35",#[⟨4,.data⟩],none⟩,⟨some 20,.buildSlice 28 2 #[(0,.tmp 16),(1,.tmp 19)],28,"ref.go:35",#[⟨2,.data⟩,⟨5,.data⟩],none⟩,⟨some 21,.call { callee := .value (.func 55),args := #[.tmp 20,.const (.int .i64 0),.const (.int .i64 100)],argTypes := #[28,3,3] },38,"ref.go:35",#[⟨6,.data⟩],none⟩,⟨some 4,.assign (.tmp 21),38,"ref.go:35",#[⟨7,.data⟩,⟨7,.chain⟩,⟨0,.phase⟩,⟨1,.phase⟩,⟨2,.phase⟩,⟨3,.phase⟩,⟨4,.phase⟩,⟨5,.phase⟩,⟨6,.phase⟩,⟨7,.phase⟩],none⟩] false) (.seq (Code.region 5 #[⟨some 22,.move (.tmp 4),38,"ref.go:35",#[],none⟩,⟨some 23,.binOp .neq 38 (.tmp 22) (.const (.int .i64 0)) 38,4,"ref.go:35",#[⟨0,.data⟩],none⟩] false) (.cond (.tmp 23) (.seq (Code.region 6 #[⟨some 24,.move (.tmp 4),38,"ref.go:36",#[],none⟩,⟨some 2,.assign (.tmp 24),38,"ref.go:36",#[⟨0,.data⟩,⟨0,.phase⟩],none⟩] false) .ret) .skip))) ckrest3 := by kernel_rfl
set_option maxRecDepth 1000000 in
theorem ckrest3_eq : ckrest3 = .seq (.seq (Code.region 7 #[⟨some 25,.fieldAddr 30 (.tmp 1) 1,0,"ref.go:38",#[],none⟩,⟨some 26,.fieldAddr 27 (.tmp 25) 0,0,"ref.go:38",#[⟨0,.data⟩],none⟩,⟨some 27,.load 23 (.tmp 26),23,"ref.go:38",#[⟨1,.data⟩],none⟩,⟨some 28,.fieldAddr 30 (.tmp 1) 1,0,"ref.go:38",#[],none⟩,⟨some 29,.fieldAddr 27 (.tmp 28) 1,0,"ref.go:38",#[⟨3,.data⟩],none⟩,⟨some 30,.load 23 (.tmp 29),23,"ref.go:38",#[⟨4,.data⟩],none⟩,⟨some 31,.fieldAddr 30 (.tmp 1) 1,0,"ref.go:38",#[],none⟩,⟨some 32,.fieldAddr 27 (.tmp 31) 2,0,"ref.go:38",#[⟨6,.data⟩],none⟩,⟨some 33,.load 23 (.tmp 32),23,"ref.go:38",#[⟨7,.data⟩],none⟩,⟨some 34,.fieldAddr 30 (.tmp 1) 1,0,"ref.go:38",#[],none⟩,⟨some 35,.fieldAddr 27 (.tmp 34) 3,0,"ref.go:38",#[⟨9,.data⟩],none⟩,⟨some 36,.load 23 (.tmp 35),23,"ref.go:38",#[⟨10,.data⟩],none⟩,⟨some 37,.buildSlice 28 4 #[(0,.tmp 27),(1,.tmp 30),(2,.tmp 33),(3,.tmp 36)],28,"ref.go:38",#[⟨2,.data⟩,⟨5,.data⟩,⟨8,.data⟩,⟨11,.data⟩],none⟩,⟨some 38,.call { callee := .value (.func 55),args := #[.tmp 37,.const (.int .i64 0),.const (.int .i64 12)],argTypes := #[28,3,3] },38,"ref.go:38",#[⟨12,.data⟩],none⟩,⟨some 5,.assign (.tmp 38),38,"ref.go:38",#[⟨13,.data⟩,⟨13,.chain⟩,⟨0,.phase⟩,⟨1,.phase⟩,⟨2,.phase⟩,⟨3,.phase⟩,⟨4,.phase⟩,⟨5,.phase⟩,⟨6,.phase⟩,⟨7,.phase⟩,⟨8,.phase⟩,⟨9,.phase⟩,⟨10,.phase⟩,⟨11,.phase⟩,⟨12,.phase⟩,⟨13,.phase⟩],none⟩] false) (.seq (Code.region 8 #[⟨some 39,.move (.tmp 5),38,"ref.go:38",#[],none⟩,⟨some 40,.binOp .neq 38 (.tmp 39) (.const (.int .i64 0)) 38,4,"ref.go:38",#[⟨0,.data⟩],none⟩] false) (.cond (.tmp 40) (.seq (Code.region 9 #[⟨some 41,.move (.tmp 5),38,"ref.go:39",#[],none⟩,⟨some 2,.assign (.tmp 41),38,"ref.go:39",#[⟨0,.data⟩,⟨0,.phase⟩],none⟩] false) .ret) .skip))) ckrest4 := by kernel_rfl
set_option maxRecDepth 1000000 in
theorem ckrest4_eq : ckrest4 = .seq (.seq (Code.region 10 #[⟨some 42,.fieldAddr 30 (.tmp 1) 1,0,"ref.go:41",#[],none⟩,⟨some 43,.fieldAddr 27 (.tmp 42) 4,0,"ref.go:41",#[⟨0,.data⟩],none⟩,⟨some 44,.load 3 (.tmp 43),3,"ref.go:41",#[⟨1,.data⟩],none⟩,⟨some 45,.call { callee := .value (.func 56),args := #[.tmp 44,.const (.int .i64 0),.const (.int .i64 100)],argTypes := #[3,3,3] },4,"ref.go:41",#[⟨2,.data⟩],none⟩,⟨some 46,.unOp .not 4 (.tmp 45),4,"ref.go:41",#[⟨3,.data⟩],none⟩] false) (.cond (.tmp 46) (.seq (Code.region 11 #[⟨some 2,.assign (.const (.int .i64 1)),38,"ref.go:42",#[],none⟩] false) .ret) .skip)) ckrest5 := by kernel_rfl
set_option maxRecDepth 1000000 in
theorem ckrest5_eq : ckrest5 = .seq (.seq (Code.region 12 #[⟨some 47,.fieldAddr 30 (.tmp 1) 2,0,"ref.go:44",#[],none⟩,⟨some 48,.load 28 (.tmp 47),28,"ref.go:44",#[⟨0,.data⟩],none⟩,⟨some 49,.call { callee := .builtin .len,args := #[.tmp 48],argTypes := #[28] },3,"ref.go:44",#[⟨1,.data⟩],none⟩,⟨some 50,.binOp .gtr 3 (.tmp 49) (.const (.int .i64 4)) 3,4,"ref.go:44",#[⟨2,.data⟩],none⟩] false) (.cond (.tmp 50) (.seq (Code.region 13 #[⟨some 2,.assign (.const (.int .i64 6)),38,"ref.go:45",#[],none⟩] false) .ret) .skip)) ckrest6 := by kernel_rfl
set_option maxRecDepth 1000000 in
theorem ckrest6_eq : ckrest6 = .seq (.seq (Code.region 14 #[⟨some 51,.fieldAddr 30 (.tmp 1) 2,0,"ref.go:47",#[],none⟩,⟨some 52,.load 28 (.tmp 51),28,"ref.go:47",#[⟨0,.data⟩],none⟩,⟨some 53,.call { callee := .value (.func 55),args := #[.tmp 52,.const (.int .i64 (-60)),.const (.int .i64 60)],argTypes := #[28,3,3] },38,"ref.go:47",#[⟨1,.data⟩],none⟩,⟨some 6,.assign (.tmp 53),38,"ref.go:47",#[⟨2,.data⟩,⟨2,.chain⟩,⟨0,.phase⟩,⟨1,.phase⟩,⟨2,.phase⟩],none⟩] false) (.seq (Code.region 15 #[⟨some 54,.move (.tmp 6),38,"ref.go:47",#[],none⟩,⟨some 55,.binOp .neq 38 (.tmp 54) (.const (.int .i64 0)) 38,4,"ref.go:47",#[⟨0,.data⟩],none⟩] false) (.cond (.tmp 55) (.seq (Code.region 16 #[⟨some 56,.move (.tmp 6),38,"ref.go:48",#[],none⟩,⟨some 2,.assign (.tmp 56),38,"ref.go:48",#[⟨0,.data⟩,⟨0,.phase⟩],none⟩] false) .ret) .skip))) ckrest7 := by kernel_rfl
set_option maxRecDepth 1000000 in
theorem ckrest7_eq : ckrest7 = .seq (.seq (Code.region 17 #[⟨some 57,.fieldAddr 30 (.tmp 1) 3,0,"ref.go:50",#[],none⟩,⟨some 58,.load 3 (.tmp 57),3,"ref.go:50",#[⟨0,.data⟩],none⟩,⟨some 59,.call { callee := .value (.func 56),args := #[.tmp 58,.const (.int .i64 0),.const (.int .i64 60)],argTypes := #[3,3,3] },4,"ref.go:50",#[⟨1,.data⟩],none⟩,⟨some 60,.unOp .not 4 (.tmp 59),4,"ref.go:50",#[⟨2,.data⟩],none⟩,⟨some 61,.move (.tmp 60),4,"ref.go:50",#[⟨3,.data⟩,⟨2,.chain⟩],none⟩,⟨some 62,.fieldAddr 30 (.tmp 1) 4,0,"ref.go:50",#[⟨4,.guard⟩],some (4,false)⟩,⟨some 63,.load 3 (.tmp 62),3,"ref.go:50",#[⟨5,.data⟩,⟨4,.guard⟩],some (4,false)⟩,⟨some 64,.call { callee := .value (.func 56),args := #[.tmp 63,.const (.int .i64 0),.const (.int .i64 6)],argTypes := #[3,3,3] },4,"ref.go:50",#[⟨6,.data⟩,⟨4,.chain⟩,⟨4,.guard⟩],some (4,false)⟩,⟨some 65,.unOp .not 4 (.tmp 64),4,"ref.go:50",#[⟨7,.data⟩,⟨4,.guard⟩],some (4,false)⟩,⟨some 66,.pick (.tmp 61) (.const (.bool true)) (.tmp 65),4,"ref.go:50",#[⟨4,.data⟩,⟨8,.data⟩],none⟩] false) (.cond (.tmp 66) (.seq (Code.region 18 #[⟨some 2,.assign (.const (.int .i64 1)),38,"ref.go:51",#[],none⟩] false) .ret) .skip)) ckrest8 := by kernel_rfl
set_option maxRecDepth 1000000 in
theorem ckrest8_eq : ckrest8 = .seq (Code.region 19 #[⟨some 2,.assign (.const (.int .i64 0)),38,"ref.go:53",#[],none⟩] false) .ret := by kernel_rfl

def ck7 (J : Jb) : Int := if numE J.wi 0 60 = 0 then (if numE J.me 0 6 = 0 then 0 else 1) else 1
def ck6 (J : Jb) : Int := if allE (-60) 60 J.sh = 0 then ck7 J else allE (-60) 60 J.sh
def ck5 (J : Jb) : Int := if 4 < J.sh.length then 6 else ck6 J
def ck4 (J : Jb) : Int := if numE J.le 0 100 = 0 then ck5 J else 1
def ck3 (J : Jb) : Int := if allE 0 12 [(J.u1,J.u2),(J.d1,J.d2),(J.x1,J.x2),(J.y1,J.y2)] = 0 then ck4 J else allE 0 12 [(J.u1,J.u2),(J.d1,J.d2),(J.x1,J.x2),(J.y1,J.y2)]
def ck2 (J : Jb) : Int := if allE 0 100 [(J.t1,J.t2),(J.r1,J.r2)] = 0 then ck3 J else allE 0 100 [(J.t1,J.t2),(J.r1,J.r2)]
def ck1 (J : Jb) : Int := if rngE J.p1 J.p2 (-60) 60 = 0 then ck2 J else rngE J.p1 J.p2 (-60) 60
theorem numE_01 (n lo hi : Int) : numE n lo hi = 0 ∨ numE n lo hi = 1 := by
  unfold numE
  split
  · exact .inr rfl
  · exact .inl rfl
theorem ck1_check (J : Jb) : ck1 J = J.check := by
  have q1 := numE_01 J.le 0 100
  have q2 := numE_01 J.wi 0 60
  have q3 := numE_01 J.me 0 6
  unfold ck1 ck2 ck3 ck4 ck5 ck6 ck7 Jb.check Jb.head
  simp only [allE,firstE,allE_sh]
  generalize rngE J.p1 J.p2 (-60) 60 = a1
  generalize rngE J.t1 J.t2 0 100 = a2
  generalize rngE J.r1 J.r2 0 100 = a3
  generalize rngE J.u1 J.u2 0 12 = a4
  generalize rngE J.d1 J.d2 0 12 = a5
  generalize rngE J.x1 J.x2 0 12 = a6
  generalize rngE J.y1 J.y2 0 12 = a7
  generalize numE J.le 0 100 = a8 at q1 ⊢
  generalize numE J.wi 0 60 = a9 at q2 ⊢
  generalize numE J.me 0 6 = a10 at q3 ⊢
  generalize shE J.sh = a11
  by_cases h1 : a1 = 0 <;> simp only [h1,if_true,if_false]
  by_cases h2 : a2 = 0 <;> simp only [h2,if_true,if_false]
  by_cases h3 : a3 = 0 <;> simp only [h3,if_true,if_false]
  by_cases h4 : a4 = 0 <;> simp only [h4,if_true,if_false]
  by_cases h5 : a5 = 0 <;> simp only [h5,if_true,if_false]
  by_cases h6 : a6 = 0 <;> simp only [h6,if_true,if_false]
  by_cases h7 : a7 = 0 <;> simp only [h7,if_true,if_false]
  by_cases h8 : a8 = 0 <;> simp only [h8,if_true,if_false]
  · by_cases h9 : 4 < J.sh.length <;> simp only [h9,if_true,if_false]
    by_cases h11 : a11 = 0 <;> simp only [h11,if_true,if_false]
    rcases q2 with rfl | rfl <;> rcases q3 with rfl | rfl <;> decide
  · have : a8 = 1 := by omega
    subst this
    decide
def QC (V : Int) (w0 : World) : Exit → Act → World → Prop := bodyPost Tryz.prog Tryz.f32 fun e w' => e = .returned (.int .i64 V) ∧ Below w0.heap.size w0 w'
structure CS (w0 : World) (g : Nat) (J : Jb) (a : Option Addr) (n c : Nat) (w : World) : Prop where
  job : Bk w g 30 (jobC J (.slice a n c))
  b0 : Below w0.heap.size w0 w
  rg : Rg w0 w0.heap.size a J.sh
  en : n = J.sh.length
  nm : n ≤ 9223372036854775807
theorem CS.next {w0 w w' : World} {g : Nat} {J : Jb} {a : Option Addr} {n c : Nat} (h : CS w0 g J a n c w) (hb : Below w.heap.size w w') : CS w0 g J a n c w' :=
  ⟨h.job.below hb h.job.lt,h.b0.trans (hb.mono h.b0.size),h.rg,h.en,h.nm⟩
set_option maxHeartbeats 4000000 in
set_option maxRecDepth 1000000 in
theorem ckpart7 {w0 : World} {g : Nat} {J : Jb} {a : Option Addr} {n c : Nat} {V : Int} {w : World} {u0 u2 u3 u4 u5 u6 u7 u8 u9 A0 A1 A2 A3 A4 A5 A6 A7 A8 A9 Aa Ab Ac Ad Ae Af Ag Ah Ai Aj Ak Al Am An Ao Ap Aq Ar As At Au Av Aw Ax Ay Az C0 C1 C2 C3 C4 C5 C6 C7 C8 C9 Ca Cb Cc Cd Ce Cf Cg Ch Ci Cj Ck : Value} (hs : CS w0 g J a n c w) (hv : V = ck7 J) : Code.wp Tryz.prog ckrest7 (QC V w0) ⟨#[u0,(.pointer (some ⟨g,0,none⟩)),u2,u3,u4,u5,u6,u7,u8,u9,A0,A1,A2,A3,A4,A5,A6,A7,A8,A9,Aa,Ab,Ac,Ad,Ae,Af,Ag,Ah,Ai,Aj,Ak,Al,Am,An,Ao,Ap,Aq,Ar,As,At,Au,Av,Aw,Ax,Ay,Az,C0,C1,C2,C3,C4,C5,C6,C7,C8,C9,Ca,Cb,Cc,Cd,Ce,Cf,Cg,Ch,Ci,Cj,Ck],[]⟩ w := by
  rw [ckrest7_eq]
  have c16 := hs.job.at_ 16 (.int .i64 J.wi) rfl
  have c17 := hs.job.at_ 17 (.int .i64 J.me) rfl
  have HS := hidMk hs
  unfold ck7 at hv
  clear hs
  by_cases hz0 : numE J.wi 0 60 = 0
  · rw [if_pos hz0] at hv
    by_cases hy0 : numE J.me 0 6 = 0
    · rw [if_pos hy0] at hv
      have HV := hidMk hv
      clear hv
      have hz1 : (numE J.wi 0 60 == 0) = true := by simp [hz0]
      have hy1 : (numE J.me 0 6 == 0) = true := by simp [hy0]
      clear hz0 hy0
      unfold QC
      go_wp2_with (go_at_call 56; refine (among_any _ _ _ _).mono ?_; rintro e w2 ⟨rfl,rfl⟩)
      rw [ckrest8_eq]
      go_wp2_with fail
      go_ret
      exact ⟨ret_i HV.out.symm,HS.out.b0⟩
    · rw [if_neg hy0] at hv
      have HV := hidMk hv
      clear hv
      have hz1 : (numE J.wi 0 60 == 0) = true := by simp [hz0]
      have hy1 : (numE J.me 0 6 == 0) = false := by simp [hy0]
      clear hz0 hy0
      unfold QC
      go_wp2_with (go_at_call 56; refine (among_any _ _ _ _).mono ?_; rintro e w2 ⟨rfl,rfl⟩)
      go_ret
      exact ⟨ret_i HV.out.symm,HS.out.b0⟩
  · rw [if_neg hz0] at hv
    have HV := hidMk hv
    clear hv
    have hz1 : (numE J.wi 0 60 == 0) = false := by simp [hz0]
    clear hz0
    unfold QC
    go_wp2_with (go_at_call 56; refine (among_any _ _ _ _).mono ?_; rintro e w2 ⟨rfl,rfl⟩)
    go_ret
    exact ⟨ret_i HV.out.symm,HS.out.b0⟩
set_option maxHeartbeats 4000000 in
set_option maxRecDepth 1000000 in
theorem ckpart6 {w0 : World} {g : Nat} {J : Jb} {a : Option Addr} {n c : Nat} {V : Int} {w : World} {u0 u2 u3 u4 u5 u6 u7 u8 u9 A0 A1 A2 A3 A4 A5 A6 A7 A8 A9 Aa Ab Ac Ad Ae Af Ag Ah Ai Aj Ak Al Am An Ao Ap Aq Ar As At Au Av Aw Ax Ay Az C0 C1 C2 C3 C4 C5 C6 C7 C8 C9 Ca Cb Cc Cd Ce Cf Cg Ch Ci Cj Ck : Value} (hs : CS w0 g J a n c w) (hv : V = ck6 J) : Code.wp Tryz.prog ckrest6 (QC V w0) ⟨#[u0,(.pointer (some ⟨g,0,none⟩)),u2,u3,u4,u5,u6,u7,u8,u9,A0,A1,A2,A3,A4,A5,A6,A7,A8,A9,Aa,Ab,Ac,Ad,Ae,Af,Ag,Ah,Ai,Aj,Ak,Al,Am,An,Ao,Ap,Aq,Ar,As,At,Au,Av,Aw,Ax,Ay,Az,C0,C1,C2,C3,C4,C5,C6,C7,C8,C9,Ca,Cb,Cc,Cd,Ce,Cf,Cg,Ch,Ci,Cj,Ck],[]⟩ w := by
  rw [ckrest6_eq]
  have c15 := hs.job.at_ 15 (.slice a n c) rfl
  have HS := hidMk hs
  unfold ck6 at hv
  clear hs
  by_cases hz0 : allE (-60) 60 J.sh = 0
  · rw [if_pos hz0] at hv
    have HV := hidMk hv
    have hz1 : (allE (-60) 60 J.sh != 0) = false := by simp [hz0]
    clear hv hz0
    go_wp2_with (go_at_call 55; refine (checkAll_any a n c J.sh (-60) 60 _ HS.out.en HS.out.nm (HS.out.rg.up HS.out.b0)).mono ?_; rintro e w2 ⟨rfl,hb⟩)
    exact ckpart7 (HS.out.next hb) HV.out
  · rw [if_neg hz0] at hv
    have HV := hidMk hv
    have hz1 : (allE (-60) 60 J.sh != 0) = true := by simp [hz0]
    clear hv hz0
    unfold QC
    go_wp2_with (go_at_call 55; refine (checkAll_any a n c J.sh (-60) 60 _ HS.out.en HS.out.nm (HS.out.rg.up HS.out.b0)).mono ?_; rintro e w2 ⟨rfl,hb⟩)
    go_ret
    exact ⟨ret_i HV.out.symm,HS.out.b0.trans (hb.mono HS.out.b0.size)⟩
set_option maxHeartbeats 4000000 in
set_option maxRecDepth 1000000 in
theorem ckpart5 {w0 : World} {g : Nat} {J : Jb} {a : Option Addr} {n c : Nat} {V : Int} {w : World} {u0 u2 u3 u4 u5 u6 u7 u8 u9 A0 A1 A2 A3 A4 A5 A6 A7 A8 A9 Aa Ab Ac Ad Ae Af Ag Ah Ai Aj Ak Al Am An Ao Ap Aq Ar As At Au Av Aw Ax Ay Az C0 C1 C2 C3 C4 C5 C6 C7 C8 C9 Ca Cb Cc Cd Ce Cf Cg Ch Ci Cj Ck : Value} (hs : CS w0 g J a n c w) (hv : V = ck5 J) : Code.wp Tryz.prog ckrest5 (QC V w0) ⟨#[u0,(.pointer (some ⟨g,0,none⟩)),u2,u3,u4,u5,u6,u7,u8,u9,A0,A1,A2,A3,A4,A5,A6,A7,A8,A9,Aa,Ab,Ac,Ad,Ae,Af,Ag,Ah,Ai,Aj,Ak,Al,Am,An,Ao,Ap,Aq,Ar,As,At,Au,Av,Aw,Ax,Ay,Az,C0,C1,C2,C3,C4,C5,C6,C7,C8,C9,Ca,Cb,Cc,Cd,Ce,Cf,Cg,Ch,Ci,Cj,Ck],[]⟩ w := by
  rw [ckrest5_eq]
  have c15 := hs.job.at_ 15 (.slice a n c) rfl
  have HS := hidMk hs
  have hnm := hs.nm
  unfold ck5 at hv
  rw [← hs.en] at hv
  clear hs
  by_cases hz0 : 4 < n
  · rw [if_pos hz0] at hv
    have HV := hidMk hv
    clear hv
    unfold QC
    go_wp2_with fail
    go_ret
    exact ⟨ret_i HV.out.symm,HS.out.b0⟩
  · rw [if_neg hz0] at hv
    have HV := hidMk hv
    clear hv
    go_wp2_with fail
    exact ckpart6 HS.out HV.out
set_option maxHeartbeats 4000000 in
set_option maxRecDepth 1000000 in
theorem ckpart4 {w0 : World} {g : Nat} {J : Jb} {a : Option Addr} {n c : Nat} {V : Int} {w : World} {u0 u2 u3 u4 u5 u6 u7 u8 u9 A0 A1 A2 A3 A4 A5 A6 A7 A8 A9 Aa Ab Ac Ad Ae Af Ag Ah Ai Aj Ak Al Am An Ao Ap Aq Ar As At Au Av Aw Ax Ay Az C0 C1 C2 C3 C4 C5 C6 C7 C8 C9 Ca Cb Cc Cd Ce Cf Cg Ch Ci Cj Ck : Value} (hs : CS w0 g J a n c w) (hv : V = ck4 J) : Code.wp Tryz.prog ckrest4 (QC V w0) ⟨#[u0,(.pointer (some ⟨g,0,none⟩)),u2,u3,u4,u5,u6,u7,u8,u9,A0,A1,A2,A3,A4,A5,A6,A7,A8,A9,Aa,Ab,Ac,Ad,Ae,Af,Ag,Ah,Ai,Aj,Ak,Al,Am,An,Ao,Ap,Aq,Ar,As,At,Au,Av,Aw,Ax,Ay,Az,C0,C1,C2,C3,C4,C5,C6,C7,C8,C9,Ca,Cb,Cc,Cd,Ce,Cf,Cg,Ch,Ci,Cj,Ck],[]⟩ w := by
  rw [ckrest4_eq]
  have c14 := hs.job.at_ 14 (.int .i64 J.le) rfl
  have HS := hidMk hs
  unfold ck4 at hv
  clear hs
  by_cases hz0 : numE J.le 0 100 = 0
  · rw [if_pos hz0] at hv
    have HV := hidMk hv
    have hz1 : (numE J.le 0 100 == 0) = true := by simp [hz0]
    clear hv hz0
    go_wp2_with (go_at_call 56; refine (among_any _ _ _ _).mono ?_; rintro e w2 ⟨rfl,rfl⟩)
    exact ckpart5 HS.out HV.out
  · rw [if_neg hz0] at hv
    have HV := hidMk hv
    have hz1 : (numE J.le 0 100 == 0) = false := by simp [hz0]
    clear hv hz0
    unfold QC
    go_wp2_with (go_at_call 56; refine (among_any _ _ _ _).mono ?_; rintro e w2 ⟨rfl,rfl⟩)
    go_ret
    exact ⟨ret_i HV.out.symm,HS.out.b0⟩
set_option maxHeartbeats 4000000 in
set_option maxRecDepth 1000000 in
theorem ckpart3 {w0 : World} {g : Nat} {J : Jb} {a : Option Addr} {n c : Nat} {V : Int} {w : World} {u0 u2 u3 u4 u5 u6 u7 u8 u9 A0 A1 A2 A3 A4 A5 A6 A7 A8 A9 Aa Ab Ac Ad Ae Af Ag Ah Ai Aj Ak Al Am An Ao Ap Aq Ar As At Au Av Aw Ax Ay Az C0 C1 C2 C3 C4 C5 C6 C7 C8 C9 Ca Cb Cc Cd Ce Cf Cg Ch Ci Cj Ck : Value} (hs : CS w0 g J a n c w) (hv : V = ck3 J) : Code.wp Tryz.prog ckrest3 (QC V w0) ⟨#[u0,(.pointer (some ⟨g,0,none⟩)),u2,u3,u4,u5,u6,u7,u8,u9,A0,A1,A2,A3,A4,A5,A6,A7,A8,A9,Aa,Ab,Ac,Ad,Ae,Af,Ag,Ah,Ai,Aj,Ak,Al,Am,An,Ao,Ap,Aq,Ar,As,At,Au,Av,Aw,Ax,Ay,Az,C0,C1,C2,C3,C4,C5,C6,C7,C8,C9,Ca,Cb,Cc,Cd,Ce,Cf,Cg,Ch,Ci,Cj,Ck],[]⟩ w := by
  rw [ckrest3_eq]
  have c6 := hs.job.at_ 6 (.int .i64 J.u1) rfl
  have c7 := hs.job.at_ 7 (.int .i64 J.u2) rfl
  have c8 := hs.job.at_ 8 (.int .i64 J.d1) rfl
  have c9 := hs.job.at_ 9 (.int .i64 J.d2) rfl
  have c10 := hs.job.at_ 10 (.int .i64 J.x1) rfl
  have c11 := hs.job.at_ 11 (.int .i64 J.x2) rfl
  have c12 := hs.job.at_ 12 (.int .i64 J.y1) rfl
  have c13 := hs.job.at_ 13 (.int .i64 J.y2) rfl
  have HS := hidMk hs
  unfold ck3 at hv
  clear hs
  by_cases hz0 : allE 0 12 [(J.u1,J.u2),(J.d1,J.d2),(J.x1,J.x2),(J.y1,J.y2)] = 0
  · rw [if_pos hz0] at hv
    have HV := hidMk hv
    have hz1 : (allE 0 12 [(J.u1,J.u2),(J.d1,J.d2),(J.x1,J.x2),(J.y1,J.y2)] != 0) = false := by simp [hz0]
    clear hv hz0
    go_wp2_with (go_at_call 55; refine (checkAll_any _ 4 4 [(J.u1,J.u2),(J.d1,J.d2),(J.x1,J.x2),(J.y1,J.y2)] 0 12 _ rfl (by decide) (Rg.of_bk [(J.u1,J.u2),(J.d1,J.d2),(J.x1,J.x2),(J.y1,J.y2)] (Bk.new _ _ _) (by simp))).mono ?_; rintro e w2 ⟨rfl,hb0⟩; have hb := ((Below.refl _ w).alloc (Nat.le_refl _) _).trans (hb0.mono (by simp)); clear hb0)
    exact ckpart4 (HS.out.next hb) HV.out
  · rw [if_neg hz0] at hv
    have HV := hidMk hv
    have hz1 : (allE 0 12 [(J.u1,J.u2),(J.d1,J.d2),(J.x1,J.x2),(J.y1,J.y2)] != 0) = true := by simp [hz0]
    clear hv hz0
    unfold QC
    go_wp2_with (go_at_call 55; refine (checkAll_any _ 4 4 [(J.u1,J.u2),(J.d1,J.d2),(J.x1,J.x2),(J.y1,J.y2)] 0 12 _ rfl (by decide) (Rg.of_bk [(J.u1,J.u2),(J.d1,J.d2),(J.x1,J.x2),(J.y1,J.y2)] (Bk.new _ _ _) (by simp))).mono ?_; rintro e w2 ⟨rfl,hb0⟩; have hb := ((Below.refl _ w).alloc (Nat.le_refl _) _).trans (hb0.mono (by simp)); clear hb0)
    go_ret
    exact ⟨ret_i HV.out.symm,HS.out.b0.trans (hb.mono HS.out.b0.size)⟩
set_option maxHeartbeats 4000000 in
set_option maxRecDepth 1000000 in
theorem ckpart2 {w0 : World} {g : Nat} {J : Jb} {a : Option Addr} {n c : Nat} {V : Int} {w : World} {u0 u2 u3 u4 u5 u6 u7 u8 u9 A0 A1 A2 A3 A4 A5 A6 A7 A8 A9 Aa Ab Ac Ad Ae Af Ag Ah Ai Aj Ak Al Am An Ao Ap Aq Ar As At Au Av Aw Ax Ay Az C0 C1 C2 C3 C4 C5 C6 C7 C8 C9 Ca Cb Cc Cd Ce Cf Cg Ch Ci Cj Ck : Value} (hs : CS w0 g J a n c w) (hv : V = ck2 J) : Code.wp Tryz.prog ckrest2 (QC V w0) ⟨#[u0,(.pointer (some ⟨g,0,none⟩)),u2,u3,u4,u5,u6,u7,u8,u9,A0,A1,A2,A3,A4,A5,A6,A7,A8,A9,Aa,Ab,Ac,Ad,Ae,Af,Ag,Ah,Ai,Aj,Ak,Al,Am,An,Ao,Ap,Aq,Ar,As,At,Au,Av,Aw,Ax,Ay,Az,C0,C1,C2,C3,C4,C5,C6,C7,C8,C9,Ca,Cb,Cc,Cd,Ce,Cf,Cg,Ch,Ci,Cj,Ck],[]⟩ w := by
  rw [ckrest2_eq]
  have c2 := hs.job.at_ 2 (.int .i64 J.t1) rfl
  have c3 := hs.job.at_ 3 (.int .i64 J.t2) rfl
  have c4 := hs.job.at_ 4 (.int .i64 J.r1) rfl
  have c5 := hs.job.at_ 5 (.int .i64 J.r2) rfl
  have HS := hidMk hs
  unfold ck2 at hv
  clear hs
  by_cases hz0 : allE 0 100 [(J.t1,J.t2),(J.r1,J.r2)] = 0
  · rw [if_pos hz0] at hv
    have HV := hidMk hv
    have hz1 : (allE 0 100 [(J.t1,J.t2),(J.r1,J.r2)] != 0) = false := by simp [hz0]
    clear hv hz0
    go_wp2_with (go_at_call 55; refine (checkAll_any _ 2 2 [(J.t1,J.t2),(J.r1,J.r2)] 0 100 _ rfl (by decide) (Rg.of_bk [(J.t1,J.t2),(J.r1,J.r2)] (Bk.new _ _ _) (by simp))).mono ?_; rintro e w2 ⟨rfl,hb0⟩; have hb := ((Below.refl _ w).alloc (Nat.le_refl _) _).trans (hb0.mono (by simp)); clear hb0)
    exact ckpart3 (HS.out.next hb) HV.out
  · rw [if_neg hz0] at hv
    have HV := hidMk hv
    have hz1 : (allE 0 100 [(J.t1,J.t2),(J.r1,J.r2)] != 0) = true := by simp [hz0]
    clear hv hz0
    unfold QC
    go_wp2_with (go_at_call 55; refine (checkAll_any _ 2 2 [(J.t1,J.t2),(J.r1,J.r2)] 0 100 _ rfl (by decide) (Rg.of_bk [(J.t1,J.t2),(J.r1,J.r2)] (Bk.new _ _ _) (by simp))).mono ?_; rintro e w2 ⟨rfl,hb0⟩; have hb := ((Below.refl _ w).alloc (Nat.le_refl _) _).trans (hb0.mono (by simp)); clear hb0)
    go_ret
    exact ⟨ret_i HV.out.symm,HS.out.b0.trans (hb.mono HS.out.b0.size)⟩
set_option maxHeartbeats 4000000 in
set_option maxRecDepth 1000000 in
theorem ckpart1 {w0 : World} {g : Nat} {J : Jb} {a : Option Addr} {n c : Nat} {V : Int} {w : World} {u0 u2 u3 u4 u5 u6 u7 u8 u9 A0 A1 A2 A3 A4 A5 A6 A7 A8 A9 Aa Ab Ac Ad Ae Af Ag Ah Ai Aj Ak Al Am An Ao Ap Aq Ar As At Au Av Aw Ax Ay Az C0 C1 C2 C3 C4 C5 C6 C7 C8 C9 Ca Cb Cc Cd Ce Cf Cg Ch Ci Cj Ck : Value} (hs : CS w0 g J a n c w) (hv : V = ck1 J) : Code.wp Tryz.prog ckrest1 (QC V w0) ⟨#[u0,(.pointer (some ⟨g,0,none⟩)),u2,u3,u4,u5,u6,u7,u8,u9,A0,A1,A2,A3,A4,A5,A6,A7,A8,A9,Aa,Ab,Ac,Ad,Ae,Af,Ag,Ah,Ai,Aj,Ak,Al,Am,An,Ao,Ap,Aq,Ar,As,At,Au,Av,Aw,Ax,Ay,Az,C0,C1,C2,C3,C4,C5,C6,C7,C8,C9,Ca,Cb,Cc,Cd,Ce,Cf,Cg,Ch,Ci,Cj,Ck],[]⟩ w := by
  rw [ckrest1_eq]
  have c0 := hs.job.at_ 0 (.int .i64 J.p1) rfl
  have c1 := hs.job.at_ 1 (.int .i64 J.p2) rfl
  have HS := hidMk hs
  unfold ck1 at hv
  clear hs
  by_cases hz0 : rngE J.p1 J.p2 (-60) 60 = 0
  · rw [if_pos hz0] at hv
    have HV := hidMk hv
    have hz1 : (rngE J.p1 J.p2 (-60) 60 != 0) = false := by simp [hz0]
    clear hv hz0
    go_wp2_with (go_at_call 54; refine (refRange_any _ _ _ _ _).mono ?_; rintro e w2 ⟨rfl,hb⟩)
    exact ckpart2 (HS.out.next hb) HV.out
  · rw [if_neg hz0] at hv
    have HV := hidMk hv
    have hz1 : (rngE J.p1 J.p2 (-60) 60 != 0) = true := by simp [hz0]
    clear hv hz0
    unfold QC
    go_wp2_with (go_at_call 54; refine (refRange_any _ _ _ _ _).mono ?_; rintro e w2 ⟨rfl,hb⟩)
    go_ret
    exact ⟨ret_i HV.out.symm,HS.out.b0.trans (hb.mono HS.out.b0.size)⟩
set_option maxRecDepth 100000 in
theorem refCheck_any (J : Jb) (a : Option Addr) (n c : Nat) (w : World) (hn : n = J.sh.length) (hm : n ≤ 9223372036854775807) (h : Rg w w.heap.size a J.sh) :
    Calls Tryz.prog 32 #[.agg (jobC J (.slice a n c))] w fun e w' => e = .returned (.int .i64 J.check) ∧ Below w.heap.size w w' := by
  have hs : CS w w.heap.size J a n c (w.alloc (.cells (jobC J (.slice a n c)) 30)) := ⟨Bk.new _ _ _,(Below.refl _ _).alloc (Nat.le_refl _) _,h,hn,hm⟩
  have HS := hidMk hs
  clear hn hm h hs
  go_enter Tryz.func32,Tryz.ntmps32
  show Code.wp Tryz.prog ckbody (QC J.check w) _ _
  rw [ckbody_eq]
  go_wp2_with fail
  exact ckpart1 HS.out (ck1_check J).symm
end Go.Proofs.YtljefjngmembkaaGreatDoor
namespace Go.Proofs.YtljefjngmembkaaGreatDoor
set_option linter.all false
open Go.RowKit
set_option maxHeartbeats 4000000 in
set_option maxRecDepth 100000 in
theorem rwrite_let {J : Jb} {a : Option Addr} {n c : Nat} {w : World} {P1 P2 P3 P4 P5 P6 P7 P8 P9 P10 R_ : ByteArray} {acc : Nat → ByteArray} (hj : J.check = 0) (hn : n = J.sh.length) (hm : n ≤ 100) (h : Rg w w.heap.size a J.sh) (hl : LibW w)
    (H1 : Hid (ToOK J.p1 J.p2 P1)) (H2 : Hid (ToOK J.t1 J.t2 P2)) (H3 : Hid (ToOK J.r1 J.r2 P3)) (H4 : Hid (ToOK J.u1 J.u2 P4)) (H5 : Hid (ToOK J.d1 J.d2 P5)) (H6 : Hid (ToOK J.x1 J.x2 P6)) (H7 : Hid (ToOK J.y1 J.y2 P7)) (H8 : Hid (ItOK J.le P8)) (H9 : Hid (ItOK J.wi P9)) (H10 : Hid (ItOK J.me P10))
    (HZ : Hid ((P1.size ≤ 100 ∧ P2.size ≤ 100 ∧ P3.size ≤ 100) ∧ (P4.size ≤ 100 ∧ P5.size ≤ 100 ∧ P6.size ≤ 100 ∧ P7.size ≤ 100 ∧ P8.size ≤ 100) ∧ (P9.size ≤ 100 ∧ P10.size ≤ 100) ∧ ∀ i,(acc i).size ≤ 1000000)) (H0 : Hid ((((((((((((((((((⟨#[116,111,110,103,117,101,32]⟩ ++ P1) ++ ⟨#[32]⟩) ++ P2) ++ ⟨#[32]⟩) ++ P3) ++ ⟨#[10]⟩) ++ ⟨#[102,105,108,101,32]⟩) ++ P4) ++ ⟨#[32]⟩) ++ P5) ++ ⟨#[32]⟩) ++ P6) ++ ⟨#[32]⟩) ++ P7) ++ ⟨#[32]⟩) ++ P8) ++ ⟨#[10]⟩) = acc 0)) (HE : Hid (((((((acc n) ++ ⟨#[112,97,115,115,32]⟩) ++ P9) ++ ⟨#[32]⟩) ++ P10) ++ ⟨#[10]⟩) = R_))
    (HA : Hid (∀ i,i < n → ∃ r U,J.sh[i]? = some r ∧ ToOK r.1 r.2 U ∧ U.size ≤ 100 ∧ acc i ++ ⟨#[115,104,105,102,116,32]⟩ ++ U ++ ⟨#[10]⟩ = acc (i + 1))) :
    Calls Tryz.prog 9 #[.agg (jobC J (.slice a n c))] w fun e w' => e = .returned (.tuple #[.string R_,.int .i64 0]) ∧ Below w.heap.size w w' := by
  have Hn := hidMk hn
  have Hh := hidMk h
  have HLW := hidMk hl
  have HJ := hidMk hj
  have b0 := Bk.new w 30 (jobC J (.slice a n c))
  have hW : Below w.heap.size w (w.alloc (.cells (jobC J (.slice a n c)) 30)) := (Below.refl _ _).alloc (Nat.le_refl _) _
  clear hn h hl hj
  go_enter Tryz.func9,Tryz.ntmps9
  go_wp2_with (refine wpList_load_row rfl 30 _ rfl w.heap.size rfl _ (jobC J (.slice a n c)) _ _ b0 Tryz.underlying30 rfl szJob ?_)
  refine (refCheck_any J a n c _ Hn.out (by omega) (Hh.out.up hW)).mono ?_
  rintro e w1 ⟨he,hb⟩
  rw [HJ.out] at he
  subst he
  have HS := hidMk (⟨hW.trans (hb.mono hW.size),b0.below hb b0.lt⟩ : WS w w1 w.heap.size (jobC J (.slice a n c)))
  clear b0 hW hb
  dsimp only
  go_wp2_with fail
  refine rwr4 HLW.out HS.out H1 H2 H3 HZ.out.1 ?_
  intro w2 h2
  intros
  have HS2 := hidMk h2
  clear h2
  go_wp2_with fail
  refine rwr5 HLW.out HS2.out H4 H5 H6 H7 H8 ⟨?_,HZ.out.2.1⟩ ?_
  · have := HZ.out.1
    simp only [ByteArray.size_append]
    have e1 : (⟨#[116,111,110,103,117,101,32]⟩ : ByteArray).size = 7 := rfl
    have e2 : (⟨#[32]⟩ : ByteArray).size = 1 := rfl
    have e3 : (⟨#[10]⟩ : ByteArray).size = 1 := rfl
    omega
  intro w3 h3
  intros
  rw [H0.out]
  have HS3 := hidMk h3
  clear h3 HS HS2
  have HN0 : Hid (((0 : Nat) : Int) = 0) := hidMk rfl
  go_wp2_with fail
  refine wp_loop (fun a_ wr => ∃ (u0 u2 u3 u4 u7 u8 u9 A0 A1 A2 A3 A4 A5 A6 A7 A8 A9 Aa Ab Ac Ad Ae Af Ag Ah Ai Aj Ak Al Am An Ao Ap Aq Ar As At Au Av Aw Ax Ay Az C0 C1 C2 C3 C4 C5 C6 C7 C8 C9 Ca Cb Cc Cd Ce Cf Cg Ch Ci Cj Ck Cl Cm Cn Co Cp Cq Cr Cs Ct Cu Cv Cw Cx Cy Cz D0 D1 D2 D3 D4 D5 D6 D7 D8 : Value) (i : Nat),i ≤ n ∧ Hid (WS w wr w.heap.size (jobC J (.slice a n c))) ∧ a_ = ⟨#[u0,(.pointer (some ⟨w.heap.size,0,none⟩)),u2,u3,u4,(.string (acc i)),(.int .i64 i),u7,u8,u9,A0,A1,A2,A3,A4,A5,A6,A7,A8,A9,Aa,Ab,Ac,Ad,Ae,Af,Ag,Ah,Ai,Aj,Ak,Al,Am,An,Ao,Ap,Aq,Ar,As,At,Au,Av,Aw,Ax,Ay,Az,C0,C1,C2,C3,C4,C5,C6,C7,C8,C9,Ca,Cb,Cc,Cd,Ce,Cf,Cg,Ch,Ci,Cj,Ck,Cl,Cm,Cn,Co,Cp,Cq,Cr,Cs,Ct,Cu,Cv,Cw,Cx,Cy,Cz,D0,D1,D2,D3,D4,D5,D6,D7,D8],[]⟩) (fun a_ _ => n - (intOf (a_.tmps.getD 6 undef)).toNat) ?_ ?_
  · exact ⟨_,_,_,_,_,_,_,_,_,_,_,_,_,_,_,_,_,_,_,_,_,_,_,_,_,_,_,_,_,_,_,_,_,_,_,_,_,_,_,_,_,_,_,_,_,_,_,_,_,_,_,_,_,_,_,_,_,_,_,_,_,_,_,_,_,_,_,_,_,_,_,_,_,_,_,_,_,_,_,_,_,_,_,_,_,_,_,_,0,Nat.zero_le _,HS3,rfl⟩
  · intro a_ wr hx
    obtain ⟨u0,hx⟩ := hx
    obtain ⟨u2,hx⟩ := hx
    obtain ⟨u3,hx⟩ := hx
    obtain ⟨u4,hx⟩ := hx
    obtain ⟨u7,hx⟩ := hx
    obtain ⟨u8,hx⟩ := hx
    obtain ⟨u9,hx⟩ := hx
    obtain ⟨A0,hx⟩ := hx
    obtain ⟨A1,hx⟩ := hx
    obtain ⟨A2,hx⟩ := hx
    obtain ⟨A3,hx⟩ := hx
    obtain ⟨A4,hx⟩ := hx
    obtain ⟨A5,hx⟩ := hx
    obtain ⟨A6,hx⟩ := hx
    obtain ⟨A7,hx⟩ := hx
    obtain ⟨A8,hx⟩ := hx
    obtain ⟨A9,hx⟩ := hx
    obtain ⟨Aa,hx⟩ := hx
    obtain ⟨Ab,hx⟩ := hx
    obtain ⟨Ac,hx⟩ := hx
    obtain ⟨Ad,hx⟩ := hx
    obtain ⟨Ae,hx⟩ := hx
    obtain ⟨Af,hx⟩ := hx
    obtain ⟨Ag,hx⟩ := hx
    obtain ⟨Ah,hx⟩ := hx
    obtain ⟨Ai,hx⟩ := hx
    obtain ⟨Aj,hx⟩ := hx
    obtain ⟨Ak,hx⟩ := hx
    obtain ⟨Al,hx⟩ := hx
    obtain ⟨Am,hx⟩ := hx
    obtain ⟨An,hx⟩ := hx
    obtain ⟨Ao,hx⟩ := hx
    obtain ⟨Ap,hx⟩ := hx
    obtain ⟨Aq,hx⟩ := hx
    obtain ⟨Ar,hx⟩ := hx
    obtain ⟨As,hx⟩ := hx
    obtain ⟨At,hx⟩ := hx
    obtain ⟨Au,hx⟩ := hx
    obtain ⟨Av,hx⟩ := hx
    obtain ⟨Aw,hx⟩ := hx
    obtain ⟨Ax,hx⟩ := hx
    obtain ⟨Ay,hx⟩ := hx
    obtain ⟨Az,hx⟩ := hx
    obtain ⟨C0,hx⟩ := hx
    obtain ⟨C1,hx⟩ := hx
    obtain ⟨C2,hx⟩ := hx
    obtain ⟨C3,hx⟩ := hx
    obtain ⟨C4,hx⟩ := hx
    obtain ⟨C5,hx⟩ := hx
    obtain ⟨C6,hx⟩ := hx
    obtain ⟨C7,hx⟩ := hx
    obtain ⟨C8,hx⟩ := hx
    obtain ⟨C9,hx⟩ := hx
    obtain ⟨Ca,hx⟩ := hx
    obtain ⟨Cb,hx⟩ := hx
    obtain ⟨Cc,hx⟩ := hx
    obtain ⟨Cd,hx⟩ := hx
    obtain ⟨Ce,hx⟩ := hx
    obtain ⟨Cf,hx⟩ := hx
    obtain ⟨Cg,hx⟩ := hx
    obtain ⟨Ch,hx⟩ := hx
    obtain ⟨Ci,hx⟩ := hx
    obtain ⟨Cj,hx⟩ := hx
    obtain ⟨Ck,hx⟩ := hx
    obtain ⟨Cl,hx⟩ := hx
    obtain ⟨Cm,hx⟩ := hx
    obtain ⟨Cn,hx⟩ := hx
    obtain ⟨Co,hx⟩ := hx
    obtain ⟨Cp,hx⟩ := hx
    obtain ⟨Cq,hx⟩ := hx
    obtain ⟨Cr,hx⟩ := hx
    obtain ⟨Cs,hx⟩ := hx
    obtain ⟨Ct,hx⟩ := hx
    obtain ⟨Cu,hx⟩ := hx
    obtain ⟨Cv,hx⟩ := hx
    obtain ⟨Cw,hx⟩ := hx
    obtain ⟨Cx,hx⟩ := hx
    obtain ⟨Cy,hx⟩ := hx
    obtain ⟨Cz,hx⟩ := hx
    obtain ⟨D0,hx⟩ := hx
    obtain ⟨D1,hx⟩ := hx
    obtain ⟨D2,hx⟩ := hx
    obtain ⟨D3,hx⟩ := hx
    obtain ⟨D4,hx⟩ := hx
    obtain ⟨D5,hx⟩ := hx
    obtain ⟨D6,hx⟩ := hx
    obtain ⟨D7,hx⟩ := hx
    obtain ⟨D8,hx⟩ := hx
    obtain ⟨i,hi,HSr,ha⟩ := hx
    subst ha
    clear HS3
    have HWY := hidMk (show IntKind.i64.wrap ((i : Int) + 1) = (i : Int) + 1 from IntWalk.i64_in _ (by omega))
    have d15 := HSr.out.2.at_ 15 (.slice a n c) rfl
    by_cases hlt : i < n
    · obtain ⟨r,U,hr,hU,hUz,hA⟩ := HA.out i hlt
      obtain ⟨g,o,rfl,hg,c0,c1⟩ := Hh.out i r hr
      have HU := hidMk hU
      have HAI := hidMk hA
      have c0' := (HSr.out.1.cell (p := ⟨g,o + i * 2,none⟩) hg).trans c0
      have c1' := (HSr.out.1.cell (p := ⟨g,o + i * 2 + 1,none⟩) hg).trans c1
      have hi1 : (i : Int) < (n : Int) := by omega
      obtain ⟨r1,r2⟩ := r
      simp only at c0' c1'
      clear hU hA c0 c1 hr
      have hz := HZ.out.2.2.2 i
      have z1 : ¬ 9223372036854775807 < (acc i).size + 6 := by omega
      have z2 : ¬ 9223372036854775807 < (acc i).size + 6 + U.size := by omega
      have z3 : ¬ 9223372036854775807 < (acc i).size + 6 + U.size + 1 := by omega
      go_wp2_with fail
      refine (HU.out _ (HLW.out.keep HSr.out.1 HLW.out.room)).mono ?_
      rintro e w5 ⟨rfl,hb5⟩
      have HS5 := hidMk (HSr.out.next hb5)
      clear hb5 c0' c1' d15
      have wy := HWY.out
      go_wp2_with fail
      have e1 : ((i + 1 : Nat) : Int) = (i : Int) + 1 := by push_cast; rfl
      exact ⟨⟨_,_,_,_,_,_,_,_,_,_,_,_,_,_,_,_,_,_,_,_,_,_,_,_,_,_,_,_,_,_,_,_,_,_,_,_,_,_,_,_,_,_,_,_,_,_,_,_,_,_,_,_,_,_,_,_,_,_,_,_,_,_,_,_,_,_,_,_,_,_,_,_,_,_,_,_,_,_,_,_,_,_,_,_,_,_,_,_,i + 1,by omega,HS5,by rw [e1,← HAI.out]⟩,by simp [intOf]; omega⟩
    · obtain rfl : i = n := by omega
      have hlt' : ¬ (i : Int) < (i : Int) := by omega
      go_wp2_with fail
      refine rwr10 HLW.out HSr.out H9 H10 ⟨HZ.out.2.2.2 _,HZ.out.2.2.1⟩ ?_
      intro w4 h4
      intros
      rw [HE.out]
      have HS4 := hidMk h4
      clear h4
      go_wp2_with fail
      refine bodyPost_ret (v := .tuple #[.string R_,.int .i64 0]) (by simp [results,Tryz.results9,go_sem]) rfl ⟨rfl,HS4.out.1⟩
theorem toOK {a b : Int} (ha : In64 a) (hb : In64 b) : ToOK a b (bt (Tx.spanT 58 (a,b))) := fun w' hl => by
  have h1 := itoa_len ha
  have h2 := itoa_len hb
  have := told_any a b ha hb (bt (Lib.itoa a)) (bt (Lib.itoa b)) rfl rfl (by rw [bt_size,bt_size]; omega) w' hl
  have e : bt (Lib.itoa a) ++ ⟨#[58]⟩ ++ bt (Lib.itoa b) = bt (Tx.spanT 58 (a,b)) := by
    show bt _ ++ bt [58] ++ bt _ = _
    rw [bt_cat,bt_cat]
    unfold Tx.spanT
    simp
  rwa [e] at this
set_option maxRecDepth 100000 in
theorem rwrite_ok (J : Jb) (a : Option Addr) (n c : Nat) (w : World) (hj : J.check = 0) (hn : n = J.sh.length) (h : Rg w w.heap.size a J.sh) (hl : LibW w) :
    Calls Tryz.prog 9 #[.agg (jobC J (.slice a n c))] w fun e w' => e = .returned (.tuple #[.string (bt (textJ J)),.int .i64 0]) ∧ Below w.heap.size w w' := by
  have hF := check_full hj
  obtain ⟨⟨p1,p2,t1,t2,r1,r2⟩,⟨u1,u2,d1,d2,x1,x2,y1,y2⟩,le,wi,me⟩ := hF.in64
  have hsh : ∀ s ∈ J.sh,In64 s.1 ∧ In64 s.2 := fun s hs => by have := hF.sh s hs; unfold In64; omega
  have z1 := span_len p1 p2
  have z2 := span_len t1 t2
  have z3 := span_len r1 r2
  have z4 := span_len u1 u2
  have z5 := span_len d1 d2
  have z6 := span_len x1 x2
  have z7 := span_len y1 y2
  have z8 := itoa_len le
  have z9 := itoa_len wi
  have z10 := itoa_len me
  have c4 : ∀ i,(shT (J.sh.take i)).length ≤ 1000 := fun i => by
    have := shT_max (J.sh.take i) fun s hs => hsh s (List.mem_of_mem_take hs)
    have h2 : (J.sh.take i).length ≤ 4 := by rw [List.length_take]; have := hF.len; omega
    omega
  have q1 : (lineA J).length ≤ 1000 := by unfold lineA lineT; simp only [List.length_append,Tx.join_two,Lib.join_one,List.length_cons,List.length_nil,tongueW]; omega
  have q2 : (lineF J).length ≤ 1000 := by unfold lineF lineT; simp only [List.length_append,Tx.join_two,Lib.join_one,List.length_cons,List.length_nil,fileW]; omega
  refine rwrite_let (R_ := bt (textJ J)) (acc := fun i => bt (lineA J ++ lineF J ++ shT (J.sh.take i))) hj hn (by have := hF.len; omega) h hl (toOK p1 p2) (toOK t1 t2) (toOK r1 r2) (toOK u1 u2) (toOK d1 d2) (toOK x1 x2) (toOK y1 y2) (itOK le) (itOK wi) (itOK me) ⟨?_,?_,?_,?_⟩ ?_ ?_ ?_
  · simp only [bt_size]; omega
  · simp only [bt_size]; omega
  · simp only [bt_size]; omega
  · intro i
    simp only [bt_size,List.length_append]
    have := c4 i
    omega
  · show (((((((((((((((((bt [116,111,110,103,117,101,32] ++ (bt (Tx.spanT 58 (J.p1,J.p2)))) ++ bt [32]) ++ (bt (Tx.spanT 58 (J.t1,J.t2)))) ++ bt [32]) ++ (bt (Tx.spanT 58 (J.r1,J.r2)))) ++ bt [10]) ++ bt [102,105,108,101,32]) ++ (bt (Tx.spanT 58 (J.u1,J.u2)))) ++ bt [32]) ++ (bt (Tx.spanT 58 (J.d1,J.d2)))) ++ bt [32]) ++ (bt (Tx.spanT 58 (J.x1,J.x2)))) ++ bt [32]) ++ (bt (Tx.spanT 58 (J.y1,J.y2)))) ++ bt [32]) ++ (bt (Lib.itoa J.le))) ++ bt [10]) = bt _
    simp only [bt_cat]
    unfold lineA lineF lineT
    simp only [Tx.join_two,Lib.join_one,tongueW,fileW,shT,List.take_zero,List.map_nil,List.flatten_nil,List.append_nil,List.append_assoc,List.cons_append,List.nil_append]
  · show ((((((bt (lineA J ++ lineF J ++ shT (J.sh.take n))) ++ bt [112,97,115,115,32]) ++ (bt (Lib.itoa J.wi))) ++ bt [32]) ++ (bt (Lib.itoa J.me))) ++ bt [10]) = bt _
    rw [hn,List.take_length]
    simp only [bt_cat]
    unfold textJ lineA lineF lineT
    simp only [Tx.join_two,Lib.join_one,passW,List.append_assoc,List.cons_append,List.nil_append]
  · intro i hi
    rw [hn] at hi
    have hm := List.getElem_mem hi
    have hs := hsh _ hm
    refine ⟨J.sh[i],bt (Tx.spanT 58 J.sh[i]),List.getElem?_eq_getElem hi,toOK hs.1 hs.2,?_,?_⟩
    · rw [bt_size]
      have := span_len hs.1 hs.2
      exact Nat.le_trans this (by decide)
    · show bt _ ++ bt [115,104,105,102,116,32] ++ bt _ ++ bt [10] = bt _
      have e : shT [J.sh[i]] = lineT [shiftW,Tx.spanT 58 J.sh[i]] := by
        unfold shT
        rw [List.map_cons,List.map_nil,List.flatten_cons,List.flatten_nil,List.append_nil]
      rw [List.take_succ_eq_append_getElem hi,shT_app,e]
      simp only [bt_cat]
      unfold lineT
      simp only [Tx.join_two,Lib.join_one,shiftW,List.append_assoc,List.cons_append,List.nil_append]
set_option maxHeartbeats 1000000 in
set_option maxRecDepth 100000 in
theorem rwrite_bad (J : Jb) (a : Option Addr) (n c : Nat) (w : World) (hj : ¬ J.check = 0) (hn : n = J.sh.length) (hm : n ≤ 9223372036854775807) (h : Rg w w.heap.size a J.sh) :
    Calls Tryz.prog 9 #[.agg (jobC J (.slice a n c))] w fun e w' => e = .returned (.tuple #[.string (bt []),.int .i64 J.check]) ∧ Below w.heap.size w w' := by
  have Hn := hidMk hn
  have Hh := hidMk h
  have b0 := Bk.new w 30 (jobC J (.slice a n c))
  have hW : Below w.heap.size w (w.alloc (.cells (jobC J (.slice a n c)) 30)) := (Below.refl _ _).alloc (Nat.le_refl _) _
  have hcb : (J.check != 0) = true := by simpa using hj
  clear hn h
  go_enter Tryz.func9,Tryz.ntmps9
  go_wp2_with (refine wpList_load_row rfl 30 _ rfl w.heap.size rfl _ (jobC J (.slice a n c)) _ _ b0 Tryz.underlying30 rfl szJob ?_)
  refine (refCheck_any J a n c _ Hn.out hm (Hh.out.up hW)).mono ?_
  rintro e w1 ⟨rfl,hb⟩
  have hB := hW.trans (hb.mono hW.size)
  clear b0 hW hb
  go_wp2_with fail
  refine bodyPost_ret (v := .tuple #[.string (bt []),.int .i64 J.check]) (by simp [results,Tryz.results9,go_sem,bt]) rfl ⟨rfl,hB⟩
end Go.Proofs.YtljefjngmembkaaGreatDoor
