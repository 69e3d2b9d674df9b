/- Part 7 of the proof: RefC. -/
import Derived.Test.YtadmcafbffjjbaaB06
/- The contract of the reference's Check. -/
namespace Go.Proofs.Ytadmcafbffjjbaa
set_option linter.all false
open Go.RowKit
noncomputable def sndC : Code → Code
  | .seq _ c => c
  | c => c
noncomputable def ckbody : Code := Try.f39.body.getD .skip
noncomputable def ckrest1 : Code := sndC ckbody
noncomputable def ckrest2 : Code := sndC ckrest1
noncomputable def ckrest3 : Code := sndC ckrest2
noncomputable def ckrest4 : Code := sndC ckrest3
noncomputable def ckrest5 : Code := sndC ckrest4
noncomputable def ckrest6 : Code := sndC ckrest5
noncomputable def ckrest7 : Code := sndC ckrest6
noncomputable def ckrest8 : Code := sndC ckrest7
set_option maxRecDepth 1000000 in
theorem ckbody_eq : ckbody = .seq (Code.region 0 #[⟨some 1,.box 30 (.tmp 0),0,"ref.go:31",#[],none⟩,⟨some 2,.assign (.const (.int .i64 0)),39,"ref.go:31",#[],none⟩] false) ckrest1 := by kernel_rfl
set_option maxRecDepth 1000000 in
theorem ckrest1_eq : ckrest1 = .seq (.seq (Code.region 1 #[⟨some 7,.fieldAddr 30 (.tmp 1) 0,0,"ref.go:32",#[],none⟩,⟨some 8,.fieldAddr 25 (.tmp 7) 0,0,"ref.go:32",#[⟨0,.data⟩],none⟩,⟨some 9,.load 23 (.tmp 8),23,"ref.go:32",#[⟨1,.data⟩],none⟩,⟨some 10,.call { callee := .value (.func 69),args := #[.tmp 9,.const (.int .i64 (-60)),.const (.int .i64 60)],argTypes := #[23,3,3] },39,"ref.go:32",#[⟨2,.data⟩],none⟩,⟨some 3,.assign (.tmp 10),39,"ref.go:32",#[⟨3,.data⟩,⟨3,.chain⟩,⟨0,.phase⟩,⟨1,.phase⟩,⟨2,.phase⟩,⟨3,.phase⟩],none⟩] false) (.seq (Code.region 2 #[⟨some 11,.move (.tmp 3),39,"ref.go:32",#[],none⟩,⟨some 12,.binOp .neq 39 (.tmp 11) (.const (.int .i64 0)) 39,4,"ref.go:32",#[⟨0,.data⟩],none⟩] false) (.cond (.tmp 12) (.seq (Code.region 3 #[⟨some 13,.move (.tmp 3),39,"ref.go:33",#[],none⟩,⟨some 2,.assign (.tmp 13),39,"ref.go:33",#[⟨0,.data⟩,⟨0,.phase⟩],none⟩] false) .ret) .skip))) ckrest2 := by kernel_rfl
set_option maxRecDepth 1000000 in
theorem ckrest2_eq : ckrest2 = .seq (.seq (Code.region 4 #[⟨some 14,.fieldAddr 30 (.tmp 1) 0,0,"ref.go:35",#[],none⟩,⟨some 15,.fieldAddr 25 (.tmp 14) 1,0,"ref.go:35",#[⟨0,.data⟩],none⟩,⟨some 16,.load 23 (.tmp 15),23,"ref.go:35",#[⟨1,.data⟩],none⟩,⟨some 17,.fieldAddr 30 (.tmp 1) 0,0,"ref.go:35",#[],none⟩,⟨some 18,.fieldAddr 25 (.tmp 17) 2,0,"ref.go:35",#[⟨3,.data⟩],none⟩,⟨some 19,.load 23 (.tmp 18),23,"ref.go:35",#[⟨4,.data⟩],none⟩,⟨some 20,.buildSlice 28 2 #[(0,.tmp 16),(1,.tmp 19)],28,"ref.go:35",#[⟨2,.data⟩,⟨5,.data⟩],none⟩,⟨some 21,.call { callee := .value (.func 70),args := #[.tmp 20,.const (.int .i64 0),.const (.int .i64 100)],argTypes := #[28,3,3] },39,"ref.go:35",#[⟨6,.data⟩],none⟩,⟨some 4,.assign (.tmp 21),39,"ref.go:35",#[⟨7,.data⟩,⟨7,.chain⟩,⟨0,.phase⟩,⟨1,.phase⟩,⟨2,.phase⟩,⟨3,.phase⟩,⟨4,.phase⟩,⟨5,.phase⟩,⟨6,.phase⟩,⟨7,.phase⟩],none⟩] false) (.seq (Code.region 5 #[⟨some 22,.move (.tmp 4),39,"ref.go:35",#[],none⟩,⟨some 23,.binOp .neq 39 (.tmp 22) (.const (.int .i64 0)) 39,4,"ref.go:35",#[⟨0,.data⟩],none⟩] false) (.cond (.tmp 23) (.seq (Code.region 6 #[⟨some 24,.move (.tmp 4),39,"ref.go:36",#[],none⟩,⟨some 2,.assign (.tmp 24),39,"ref.go:36",#[⟨0,.data⟩,⟨0,.phase⟩],none⟩] false) .ret) .skip))) ckrest3 := by kernel_rfl
set_option maxRecDepth 1000000 in
theorem ckrest3_eq : ckrest3 = .seq (.seq (Code.region 7 #[⟨some 25,.fieldAddr 30 (.tmp 1) 1,0,"ref.go:38",#[],none⟩,⟨some 26,.fieldAddr 27 (.tmp 25) 0,0,"ref.go:38",#[⟨0,.data⟩],none⟩,⟨some 27,.load 23 (.tmp 26),23,"ref.go:38",#[⟨1,.data⟩],none⟩,⟨some 28,.fieldAddr 30 (.tmp 1) 1,0,"ref.go:38",#[],none⟩,⟨some 29,.fieldAddr 27 (.tmp 28) 1,0,"ref.go:38",#[⟨3,.data⟩],none⟩,⟨some 30,.load 23 (.tmp 29),23,"ref.go:38",#[⟨4,.data⟩],none⟩,⟨some 31,.fieldAddr 30 (.tmp 1) 1,0,"ref.go:38",#[],none⟩,⟨some 32,.fieldAddr 27 (.tmp 31) 2,0,"ref.go:38",#[⟨6,.data⟩],none⟩,⟨some 33,.load 23 (.tmp 32),23,"ref.go:38",#[⟨7,.data⟩],none⟩,⟨some 34,.fieldAddr 30 (.tmp 1) 1,0,"ref.go:38",#[],none⟩,⟨some 35,.fieldAddr 27 (.tmp 34) 3,0,"ref.go:38",#[⟨9,.data⟩],none⟩,⟨some 36,.load 23 (.tmp 35),23,"ref.go:38",#[⟨10,.data⟩],none⟩,⟨some 37,.buildSlice 28 4 #[(0,.tmp 27),(1,.tmp 30),(2,.tmp 33),(3,.tmp 36)],28,"ref.go:38",#[⟨2,.data⟩,⟨5,.data⟩,⟨8,.data⟩,⟨11,.data⟩],none⟩,⟨some 38,.call { callee := .value (.func 70),args := #[.tmp 37,.const (.int .i64 0),.const (.int .i64 12)],argTypes := #[28,3,3] },39,"ref.go:38",#[⟨12,.data⟩],none⟩,⟨some 5,.assign (.tmp 38),39,"ref.go:38",#[⟨13,.data⟩,⟨13,.chain⟩,⟨0,.phase⟩,⟨1,.phase⟩,⟨2,.phase⟩,⟨3,.phase⟩,⟨4,.phase⟩,⟨5,.phase⟩,⟨6,.phase⟩,⟨7,.phase⟩,⟨8,.phase⟩,⟨9,.phase⟩,⟨10,.phase⟩,⟨11,.phase⟩,⟨12,.phase⟩,⟨13,.phase⟩],none⟩] false) (.seq (Code.region 8 #[⟨some 39,.move (.tmp 5),39,"ref.go:38",#[],none⟩,⟨some 40,.binOp .neq 39 (.tmp 39) (.const (.int .i64 0)) 39,4,"ref.go:38",#[⟨0,.data⟩],none⟩] false) (.cond (.tmp 40) (.seq (Code.region 9 #[⟨some 41,.move (.tmp 5),39,"ref.go:39",#[],none⟩,⟨some 2,.assign (.tmp 41),39,"ref.go:39",#[⟨0,.data⟩,⟨0,.phase⟩],none⟩] false) .ret) .skip))) ckrest4 := by kernel_rfl
set_option maxRecDepth 1000000 in
theorem ckrest4_eq : ckrest4 = .seq (.seq (Code.region 10 #[⟨some 42,.fieldAddr 30 (.tmp 1) 1,0,"ref.go:41",#[],none⟩,⟨some 43,.fieldAddr 27 (.tmp 42) 4,0,"ref.go:41",#[⟨0,.data⟩],none⟩,⟨some 44,.load 3 (.tmp 43),3,"ref.go:41",#[⟨1,.data⟩],none⟩,⟨some 45,.call { callee := .value (.func 71),args := #[.tmp 44,.const (.int .i64 0),.const (.int .i64 100)],argTypes := #[3,3,3] },4,"ref.go:41",#[⟨2,.data⟩],none⟩,⟨some 46,.unOp .not 4 (.tmp 45),4,"ref.go:41",#[⟨3,.data⟩],none⟩] false) (.cond (.tmp 46) (.seq (Code.region 11 #[⟨some 2,.assign (.const (.int .i64 1)),39,"ref.go:42",#[],none⟩] false) .ret) .skip)) ckrest5 := by kernel_rfl
set_option maxRecDepth 1000000 in
theorem ckrest5_eq : ckrest5 = .seq (.seq (Code.region 12 #[⟨some 47,.fieldAddr 30 (.tmp 1) 2,0,"ref.go:44",#[],none⟩,⟨some 48,.load 28 (.tmp 47),28,"ref.go:44",#[⟨0,.data⟩],none⟩,⟨some 49,.call { callee := .builtin .len,args := #[.tmp 48],argTypes := #[28] },3,"ref.go:44",#[⟨1,.data⟩],none⟩,⟨some 50,.binOp .gtr 3 (.tmp 49) (.const (.int .i64 4)) 3,4,"ref.go:44",#[⟨2,.data⟩],none⟩] false) (.cond (.tmp 50) (.seq (Code.region 13 #[⟨some 2,.assign (.const (.int .i64 6)),39,"ref.go:45",#[],none⟩] false) .ret) .skip)) ckrest6 := by kernel_rfl
set_option maxRecDepth 1000000 in
theorem ckrest6_eq : ckrest6 = .seq (.seq (Code.region 14 #[⟨some 51,.fieldAddr 30 (.tmp 1) 2,0,"ref.go:47",#[],none⟩,⟨some 52,.load 28 (.tmp 51),28,"ref.go:47",#[⟨0,.data⟩],none⟩,⟨some 53,.call { callee := .value (.func 70),args := #[.tmp 52,.const (.int .i64 (-60)),.const (.int .i64 60)],argTypes := #[28,3,3] },39,"ref.go:47",#[⟨1,.data⟩],none⟩,⟨some 6,.assign (.tmp 53),39,"ref.go:47",#[⟨2,.data⟩,⟨2,.chain⟩,⟨0,.phase⟩,⟨1,.phase⟩,⟨2,.phase⟩],none⟩] false) (.seq (Code.region 15 #[⟨some 54,.move (.tmp 6),39,"ref.go:47",#[],none⟩,⟨some 55,.binOp .neq 39 (.tmp 54) (.const (.int .i64 0)) 39,4,"ref.go:47",#[⟨0,.data⟩],none⟩] false) (.cond (.tmp 55) (.seq (Code.region 16 #[⟨some 56,.move (.tmp 6),39,"ref.go:48",#[],none⟩,⟨some 2,.assign (.tmp 56),39,"ref.go:48",#[⟨0,.data⟩,⟨0,.phase⟩],none⟩] false) .ret) .skip))) ckrest7 := by kernel_rfl
set_option maxRecDepth 1000000 in
theorem ckrest7_eq : ckrest7 = .seq (.seq (Code.region 17 #[⟨some 57,.fieldAddr 30 (.tmp 1) 3,0,"ref.go:50",#[],none⟩,⟨some 58,.load 3 (.tmp 57),3,"ref.go:50",#[⟨0,.data⟩],none⟩,⟨some 59,.call { callee := .value (.func 71),args := #[.tmp 58,.const (.int .i64 0),.const (.int .i64 60)],argTypes := #[3,3,3] },4,"ref.go:50",#[⟨1,.data⟩],none⟩,⟨some 60,.unOp .not 4 (.tmp 59),4,"ref.go:50",#[⟨2,.data⟩],none⟩,⟨some 61,.move (.tmp 60),4,"ref.go:50",#[⟨3,.data⟩,⟨2,.chain⟩],none⟩,⟨some 62,.fieldAddr 30 (.tmp 1) 4,0,"ref.go:50",#[⟨4,.guard⟩],some (4,false)⟩,⟨some 63,.load 3 (.tmp 62),3,"ref.go:50",#[⟨5,.data⟩,⟨4,.guard⟩],some (4,false)⟩,⟨some 64,.call { callee := .value (.func 71),args := #[.tmp 63,.const (.int .i64 0),.const (.int .i64 6)],argTypes := #[3,3,3] },4,"ref.go:50",#[⟨6,.data⟩,⟨4,.chain⟩,⟨4,.guard⟩],some (4,false)⟩,⟨some 65,.unOp .not 4 (.tmp 64),4,"ref.go:50",#[⟨7,.data⟩,⟨4,.guard⟩],some (4,false)⟩,⟨some 66,.pick (.tmp 61) (.const (.bool true)) (.tmp 65),4,"ref.go:50",#[⟨4,.data⟩,⟨8,.data⟩],none⟩] false) (.cond (.tmp 66) (.seq (Code.region 18 #[⟨some 2,.assign (.const (.int .i64 1)),39,"ref.go:51",#[],none⟩] false) .ret) .skip)) ckrest8 := by kernel_rfl
set_option maxRecDepth 1000000 in
theorem ckrest8_eq : ckrest8 = .seq (Code.region 19 #[⟨some 2,.assign (.const (.int .i64 0)),39,"ref.go:53",#[],none⟩] false) .ret := by kernel_rfl

def ck7 (J : Jb) : Int := if numE J.wi 0 60 = 0 then (if numE J.me 0 6 = 0 then 0 else 1) else 1
def ck6 (J : Jb) : Int := if allE (-60) 60 J.sh = 0 then ck7 J else allE (-60) 60 J.sh
def ck5 (J : Jb) : Int := if 4 < J.sh.length then 6 else ck6 J
def ck4 (J : Jb) : Int := if numE J.le 0 100 = 0 then ck5 J else 1
def ck3 (J : Jb) : Int := if allE 0 12 [(J.u1,J.u2),(J.d1,J.d2),(J.x1,J.x2),(J.y1,J.y2)] = 0 then ck4 J else allE 0 12 [(J.u1,J.u2),(J.d1,J.d2),(J.x1,J.x2),(J.y1,J.y2)]
def ck2 (J : Jb) : Int := if allE 0 100 [(J.t1,J.t2),(J.r1,J.r2)] = 0 then ck3 J else allE 0 100 [(J.t1,J.t2),(J.r1,J.r2)]
def ck1 (J : Jb) : Int := if rngE J.p1 J.p2 (-60) 60 = 0 then ck2 J else rngE J.p1 J.p2 (-60) 60
theorem numE_01 (n lo hi : Int) : numE n lo hi = 0 ∨ numE n lo hi = 1 := by
  unfold numE
  split
  · exact .inr rfl
  · exact .inl rfl
theorem ck1_check (J : Jb) : ck1 J = J.check := by
  have q1 := numE_01 J.le 0 100
  have q2 := numE_01 J.wi 0 60
  have q3 := numE_01 J.me 0 6
  unfold ck1 ck2 ck3 ck4 ck5 ck6 ck7 Jb.check Jb.head
  simp only [allE,firstE,allE_sh]
  generalize rngE J.p1 J.p2 (-60) 60 = a1
  generalize rngE J.t1 J.t2 0 100 = a2
  generalize rngE J.r1 J.r2 0 100 = a3
  generalize rngE J.u1 J.u2 0 12 = a4
  generalize rngE J.d1 J.d2 0 12 = a5
  generalize rngE J.x1 J.x2 0 12 = a6
  generalize rngE J.y1 J.y2 0 12 = a7
  generalize numE J.le 0 100 = a8 at q1 ⊢
  generalize numE J.wi 0 60 = a9 at q2 ⊢
  generalize numE J.me 0 6 = a10 at q3 ⊢
  generalize shE J.sh = a11
  by_cases h1 : a1 = 0 <;> simp only [h1,if_true,if_false]
  by_cases h2 : a2 = 0 <;> simp only [h2,if_true,if_false]
  by_cases h3 : a3 = 0 <;> simp only [h3,if_true,if_false]
  by_cases h4 : a4 = 0 <;> simp only [h4,if_true,if_false]
  by_cases h5 : a5 = 0 <;> simp only [h5,if_true,if_false]
  by_cases h6 : a6 = 0 <;> simp only [h6,if_true,if_false]
  by_cases h7 : a7 = 0 <;> simp only [h7,if_true,if_false]
  by_cases h8 : a8 = 0 <;> simp only [h8,if_true,if_false]
  · by_cases h9 : 4 < J.sh.length <;> simp only [h9,if_true,if_false]
    by_cases h11 : a11 = 0 <;> simp only [h11,if_true,if_false]
    rcases q2 with rfl | rfl <;> rcases q3 with rfl | rfl <;> decide
  · have : a8 = 1 := by omega
    subst this
    decide
/-- What the end of the reference's Check is held to. -/
def QC (V : Int) (w0 : World) : Exit → Act → World → Prop := bodyPost Try.prog Try.f39 fun e w' => e = .returned (.int .i64 V) ∧ Below w0.heap.size w0 w'
structure CS (w0 : World) (g : Nat) (J : Jb) (a : Option Addr) (n c : Nat) (w : World) : Prop where
  job : Bk w g 30 (jobC J (.slice a n c))
  b0 : Below w0.heap.size w0 w
  rg : Rg w0 w0.heap.size a J.sh
  en : n = J.sh.length
  nm : n ≤ 9223372036854775807
theorem CS.next {w0 w w' : World} {g : Nat} {J : Jb} {a : Option Addr} {n c : Nat} (h : CS w0 g J a n c w) (hb : Below w.heap.size w w') : CS w0 g J a n c w' :=
  ⟨h.job.below hb h.job.lt,h.b0.trans (hb.mono h.b0.size),h.rg,h.en,h.nm⟩
set_option maxHeartbeats 4000000 in
set_option maxRecDepth 1000000 in
theorem ckpart7 {w0 : World} {g : Nat} {J : Jb} {a : Option Addr} {n c : Nat} {V : Int} {w : World} {u0 u2 u3 u4 u5 u6 u7 u8 u9 u10 u11 u12 u13 u14 u15 u16 u17 u18 u19 u20 u21 u22 u23 u24 u25 u26 u27 u28 u29 u30 u31 u32 u33 u34 u35 u36 u37 u38 u39 u40 u41 u42 u43 u44 u45 u46 u47 u48 u49 u50 u51 u52 u53 u54 u55 u56 u57 u58 u59 u60 u61 u62 u63 u64 u65 u66 : Value} (hs : CS w0 g J a n c w) (hv : V = ck7 J) : Code.wp Try.prog ckrest7 (QC V w0) ⟨#[u0,(.pointer (some ⟨g,0,none⟩)),u2,u3,u4,u5,u6,u7,u8,u9,u10,u11,u12,u13,u14,u15,u16,u17,u18,u19,u20,u21,u22,u23,u24,u25,u26,u27,u28,u29,u30,u31,u32,u33,u34,u35,u36,u37,u38,u39,u40,u41,u42,u43,u44,u45,u46,u47,u48,u49,u50,u51,u52,u53,u54,u55,u56,u57,u58,u59,u60,u61,u62,u63,u64,u65,u66],[]⟩ w := by
  rw [ckrest7_eq]
  have c16 := hs.job.at_ 16 (.int .i64 J.wi) rfl
  have c17 := hs.job.at_ 17 (.int .i64 J.me) rfl
  have HS := hidMk hs
  unfold ck7 at hv
  clear hs
  by_cases hz0 : numE J.wi 0 60 = 0
  · rw [if_pos hz0] at hv
    by_cases hy0 : numE J.me 0 6 = 0
    · rw [if_pos hy0] at hv
      have HV := hidMk hv
      clear hv
      have hz1 : (numE J.wi 0 60 == 0) = true := by simp [hz0]
      have hy1 : (numE J.me 0 6 == 0) = true := by simp [hy0]
      clear hz0 hy0
      unfold QC
      go_wp2_with (go_at_call 71; refine (among_any _ _ _ _).mono ?_; rintro e w2 ⟨rfl,rfl⟩)
      rw [ckrest8_eq]
      go_wp2_with fail
      go_ret
      exact ⟨ret_i HV.out.symm,HS.out.b0⟩
    · rw [if_neg hy0] at hv
      have HV := hidMk hv
      clear hv
      have hz1 : (numE J.wi 0 60 == 0) = true := by simp [hz0]
      have hy1 : (numE J.me 0 6 == 0) = false := by simp [hy0]
      clear hz0 hy0
      unfold QC
      go_wp2_with (go_at_call 71; refine (among_any _ _ _ _).mono ?_; rintro e w2 ⟨rfl,rfl⟩)
      go_ret
      exact ⟨ret_i HV.out.symm,HS.out.b0⟩
  · rw [if_neg hz0] at hv
    have HV := hidMk hv
    clear hv
    have hz1 : (numE J.wi 0 60 == 0) = false := by simp [hz0]
    clear hz0
    unfold QC
    go_wp2_with (go_at_call 71; refine (among_any _ _ _ _).mono ?_; rintro e w2 ⟨rfl,rfl⟩)
    go_ret
    exact ⟨ret_i HV.out.symm,HS.out.b0⟩
set_option maxHeartbeats 4000000 in
set_option maxRecDepth 1000000 in
theorem ckpart6 {w0 : World} {g : Nat} {J : Jb} {a : Option Addr} {n c : Nat} {V : Int} {w : World} {u0 u2 u3 u4 u5 u6 u7 u8 u9 u10 u11 u12 u13 u14 u15 u16 u17 u18 u19 u20 u21 u22 u23 u24 u25 u26 u27 u28 u29 u30 u31 u32 u33 u34 u35 u36 u37 u38 u39 u40 u41 u42 u43 u44 u45 u46 u47 u48 u49 u50 u51 u52 u53 u54 u55 u56 u57 u58 u59 u60 u61 u62 u63 u64 u65 u66 : Value} (hs : CS w0 g J a n c w) (hv : V = ck6 J) : Code.wp Try.prog ckrest6 (QC V w0) ⟨#[u0,(.pointer (some ⟨g,0,none⟩)),u2,u3,u4,u5,u6,u7,u8,u9,u10,u11,u12,u13,u14,u15,u16,u17,u18,u19,u20,u21,u22,u23,u24,u25,u26,u27,u28,u29,u30,u31,u32,u33,u34,u35,u36,u37,u38,u39,u40,u41,u42,u43,u44,u45,u46,u47,u48,u49,u50,u51,u52,u53,u54,u55,u56,u57,u58,u59,u60,u61,u62,u63,u64,u65,u66],[]⟩ w := by
  rw [ckrest6_eq]
  have c15 := hs.job.at_ 15 (.slice a n c) rfl
  have HS := hidMk hs
  unfold ck6 at hv
  clear hs
  by_cases hz0 : allE (-60) 60 J.sh = 0
  · rw [if_pos hz0] at hv
    have HV := hidMk hv
    have hz1 : (allE (-60) 60 J.sh != 0) = false := by simp [hz0]
    clear hv hz0
    go_wp2_with (go_at_call 70; refine (checkAll_any a n c J.sh (-60) 60 _ HS.out.en HS.out.nm (HS.out.rg.up HS.out.b0)).mono ?_; rintro e w2 ⟨rfl,hb⟩)
    exact ckpart7 (HS.out.next hb) HV.out
  · rw [if_neg hz0] at hv
    have HV := hidMk hv
    have hz1 : (allE (-60) 60 J.sh != 0) = true := by simp [hz0]
    clear hv hz0
    unfold QC
    go_wp2_with (go_at_call 70; refine (checkAll_any a n c J.sh (-60) 60 _ HS.out.en HS.out.nm (HS.out.rg.up HS.out.b0)).mono ?_; rintro e w2 ⟨rfl,hb⟩)
    go_ret
    exact ⟨ret_i HV.out.symm,HS.out.b0.trans (hb.mono HS.out.b0.size)⟩
set_option maxHeartbeats 4000000 in
set_option maxRecDepth 1000000 in
theorem ckpart5 {w0 : World} {g : Nat} {J : Jb} {a : Option Addr} {n c : Nat} {V : Int} {w : World} {u0 u2 u3 u4 u5 u6 u7 u8 u9 u10 u11 u12 u13 u14 u15 u16 u17 u18 u19 u20 u21 u22 u23 u24 u25 u26 u27 u28 u29 u30 u31 u32 u33 u34 u35 u36 u37 u38 u39 u40 u41 u42 u43 u44 u45 u46 u47 u48 u49 u50 u51 u52 u53 u54 u55 u56 u57 u58 u59 u60 u61 u62 u63 u64 u65 u66 : Value} (hs : CS w0 g J a n c w) (hv : V = ck5 J) : Code.wp Try.prog ckrest5 (QC V w0) ⟨#[u0,(.pointer (some ⟨g,0,none⟩)),u2,u3,u4,u5,u6,u7,u8,u9,u10,u11,u12,u13,u14,u15,u16,u17,u18,u19,u20,u21,u22,u23,u24,u25,u26,u27,u28,u29,u30,u31,u32,u33,u34,u35,u36,u37,u38,u39,u40,u41,u42,u43,u44,u45,u46,u47,u48,u49,u50,u51,u52,u53,u54,u55,u56,u57,u58,u59,u60,u61,u62,u63,u64,u65,u66],[]⟩ w := by
  rw [ckrest5_eq]
  have c15 := hs.job.at_ 15 (.slice a n c) rfl
  have HS := hidMk hs
  have hnm := hs.nm
  unfold ck5 at hv
  rw [← hs.en] at hv
  clear hs
  by_cases hz0 : 4 < n
  · rw [if_pos hz0] at hv
    have HV := hidMk hv
    clear hv
    unfold QC
    go_wp2_with fail
    go_ret
    exact ⟨ret_i HV.out.symm,HS.out.b0⟩
  · rw [if_neg hz0] at hv
    have HV := hidMk hv
    clear hv
    go_wp2_with fail
    exact ckpart6 HS.out HV.out
set_option maxHeartbeats 4000000 in
set_option maxRecDepth 1000000 in
theorem ckpart4 {w0 : World} {g : Nat} {J : Jb} {a : Option Addr} {n c : Nat} {V : Int} {w : World} {u0 u2 u3 u4 u5 u6 u7 u8 u9 u10 u11 u12 u13 u14 u15 u16 u17 u18 u19 u20 u21 u22 u23 u24 u25 u26 u27 u28 u29 u30 u31 u32 u33 u34 u35 u36 u37 u38 u39 u40 u41 u42 u43 u44 u45 u46 u47 u48 u49 u50 u51 u52 u53 u54 u55 u56 u57 u58 u59 u60 u61 u62 u63 u64 u65 u66 : Value} (hs : CS w0 g J a n c w) (hv : V = ck4 J) : Code.wp Try.prog ckrest4 (QC V w0) ⟨#[u0,(.pointer (some ⟨g,0,none⟩)),u2,u3,u4,u5,u6,u7,u8,u9,u10,u11,u12,u13,u14,u15,u16,u17,u18,u19,u20,u21,u22,u23,u24,u25,u26,u27,u28,u29,u30,u31,u32,u33,u34,u35,u36,u37,u38,u39,u40,u41,u42,u43,u44,u45,u46,u47,u48,u49,u50,u51,u52,u53,u54,u55,u56,u57,u58,u59,u60,u61,u62,u63,u64,u65,u66],[]⟩ w := by
  rw [ckrest4_eq]
  have c14 := hs.job.at_ 14 (.int .i64 J.le) rfl
  have HS := hidMk hs
  unfold ck4 at hv
  clear hs
  by_cases hz0 : numE J.le 0 100 = 0
  · rw [if_pos hz0] at hv
    have HV := hidMk hv
    have hz1 : (numE J.le 0 100 == 0) = true := by simp [hz0]
    clear hv hz0
    go_wp2_with (go_at_call 71; refine (among_any _ _ _ _).mono ?_; rintro e w2 ⟨rfl,rfl⟩)
    exact ckpart5 HS.out HV.out
  · rw [if_neg hz0] at hv
    have HV := hidMk hv
    have hz1 : (numE J.le 0 100 == 0) = false := by simp [hz0]
    clear hv hz0
    unfold QC
    go_wp2_with (go_at_call 71; refine (among_any _ _ _ _).mono ?_; rintro e w2 ⟨rfl,rfl⟩)
    go_ret
    exact ⟨ret_i HV.out.symm,HS.out.b0⟩
set_option maxHeartbeats 4000000 in
set_option maxRecDepth 1000000 in
theorem ckpart3 {w0 : World} {g : Nat} {J : Jb} {a : Option Addr} {n c : Nat} {V : Int} {w : World} {u0 u2 u3 u4 u5 u6 u7 u8 u9 u10 u11 u12 u13 u14 u15 u16 u17 u18 u19 u20 u21 u22 u23 u24 u25 u26 u27 u28 u29 u30 u31 u32 u33 u34 u35 u36 u37 u38 u39 u40 u41 u42 u43 u44 u45 u46 u47 u48 u49 u50 u51 u52 u53 u54 u55 u56 u57 u58 u59 u60 u61 u62 u63 u64 u65 u66 : Value} (hs : CS w0 g J a n c w) (hv : V = ck3 J) : Code.wp Try.prog ckrest3 (QC V w0) ⟨#[u0,(.pointer (some ⟨g,0,none⟩)),u2,u3,u4,u5,u6,u7,u8,u9,u10,u11,u12,u13,u14,u15,u16,u17,u18,u19,u20,u21,u22,u23,u24,u25,u26,u27,u28,u29,u30,u31,u32,u33,u34,u35,u36,u37,u38,u39,u40,u41,u42,u43,u44,u45,u46,u47,u48,u49,u50,u51,u52,u53,u54,u55,u56,u57,u58,u59,u60,u61,u62,u63,u64,u65,u66],[]⟩ w := by
  rw [ckrest3_eq]
  have c6 := hs.job.at_ 6 (.int .i64 J.u1) rfl
  have c7 := hs.job.at_ 7 (.int .i64 J.u2) rfl
  have c8 := hs.job.at_ 8 (.int .i64 J.d1) rfl
  have c9 := hs.job.at_ 9 (.int .i64 J.d2) rfl
  have c10 := hs.job.at_ 10 (.int .i64 J.x1) rfl
  have c11 := hs.job.at_ 11 (.int .i64 J.x2) rfl
  have c12 := hs.job.at_ 12 (.int .i64 J.y1) rfl
  have c13 := hs.job.at_ 13 (.int .i64 J.y2) rfl
  have HS := hidMk hs
  unfold ck3 at hv
  clear hs
  by_cases hz0 : allE 0 12 [(J.u1,J.u2),(J.d1,J.d2),(J.x1,J.x2),(J.y1,J.y2)] = 0
  · rw [if_pos hz0] at hv
    have HV := hidMk hv
    have hz1 : (allE 0 12 [(J.u1,J.u2),(J.d1,J.d2),(J.x1,J.x2),(J.y1,J.y2)] != 0) = false := by simp [hz0]
    clear hv hz0
    go_wp2_with (go_at_call 70; refine (checkAll_any _ 4 4 [(J.u1,J.u2),(J.d1,J.d2),(J.x1,J.x2),(J.y1,J.y2)] 0 12 _ rfl (by decide) (Rg.of_bk [(J.u1,J.u2),(J.d1,J.d2),(J.x1,J.x2),(J.y1,J.y2)] (Bk.new _ _ _) (by simp))).mono ?_; rintro e w2 ⟨rfl,hb0⟩; have hb := ((Below.refl _ w).alloc (Nat.le_refl _) _).trans (hb0.mono (by simp)); clear hb0)
    exact ckpart4 (HS.out.next hb) HV.out
  · rw [if_neg hz0] at hv
    have HV := hidMk hv
    have hz1 : (allE 0 12 [(J.u1,J.u2),(J.d1,J.d2),(J.x1,J.x2),(J.y1,J.y2)] != 0) = true := by simp [hz0]
    clear hv hz0
    unfold QC
    go_wp2_with (go_at_call 70; refine (checkAll_any _ 4 4 [(J.u1,J.u2),(J.d1,J.d2),(J.x1,J.x2),(J.y1,J.y2)] 0 12 _ rfl (by decide) (Rg.of_bk [(J.u1,J.u2),(J.d1,J.d2),(J.x1,J.x2),(J.y1,J.y2)] (Bk.new _ _ _) (by simp))).mono ?_; rintro e w2 ⟨rfl,hb0⟩; have hb := ((Below.refl _ w).alloc (Nat.le_refl _) _).trans (hb0.mono (by simp)); clear hb0)
    go_ret
    exact ⟨ret_i HV.out.symm,HS.out.b0.trans (hb.mono HS.out.b0.size)⟩
set_option maxHeartbeats 4000000 in
set_option maxRecDepth 1000000 in
theorem ckpart2 {w0 : World} {g : Nat} {J : Jb} {a : Option Addr} {n c : Nat} {V : Int} {w : World} {u0 u2 u3 u4 u5 u6 u7 u8 u9 u10 u11 u12 u13 u14 u15 u16 u17 u18 u19 u20 u21 u22 u23 u24 u25 u26 u27 u28 u29 u30 u31 u32 u33 u34 u35 u36 u37 u38 u39 u40 u41 u42 u43 u44 u45 u46 u47 u48 u49 u50 u51 u52 u53 u54 u55 u56 u57 u58 u59 u60 u61 u62 u63 u64 u65 u66 : Value} (hs : CS w0 g J a n c w) (hv : V = ck2 J) : Code.wp Try.prog ckrest2 (QC V w0) ⟨#[u0,(.pointer (some ⟨g,0,none⟩)),u2,u3,u4,u5,u6,u7,u8,u9,u10,u11,u12,u13,u14,u15,u16,u17,u18,u19,u20,u21,u22,u23,u24,u25,u26,u27,u28,u29,u30,u31,u32,u33,u34,u35,u36,u37,u38,u39,u40,u41,u42,u43,u44,u45,u46,u47,u48,u49,u50,u51,u52,u53,u54,u55,u56,u57,u58,u59,u60,u61,u62,u63,u64,u65,u66],[]⟩ w := by
  rw [ckrest2_eq]
  have c2 := hs.job.at_ 2 (.int .i64 J.t1) rfl
  have c3 := hs.job.at_ 3 (.int .i64 J.t2) rfl
  have c4 := hs.job.at_ 4 (.int .i64 J.r1) rfl
  have c5 := hs.job.at_ 5 (.int .i64 J.r2) rfl
  have HS := hidMk hs
  unfold ck2 at hv
  clear hs
  by_cases hz0 : allE 0 100 [(J.t1,J.t2),(J.r1,J.r2)] = 0
  · rw [if_pos hz0] at hv
    have HV := hidMk hv
    have hz1 : (allE 0 100 [(J.t1,J.t2),(J.r1,J.r2)] != 0) = false := by simp [hz0]
    clear hv hz0
    go_wp2_with (go_at_call 70; refine (checkAll_any _ 2 2 [(J.t1,J.t2),(J.r1,J.r2)] 0 100 _ rfl (by decide) (Rg.of_bk [(J.t1,J.t2),(J.r1,J.r2)] (Bk.new _ _ _) (by simp))).mono ?_; rintro e w2 ⟨rfl,hb0⟩; have hb := ((Below.refl _ w).alloc (Nat.le_refl _) _).trans (hb0.mono (by simp)); clear hb0)
    exact ckpart3 (HS.out.next hb) HV.out
  · rw [if_neg hz0] at hv
    have HV := hidMk hv
    have hz1 : (allE 0 100 [(J.t1,J.t2),(J.r1,J.r2)] != 0) = true := by simp [hz0]
    clear hv hz0
    unfold QC
    go_wp2_with (go_at_call 70; refine (checkAll_any _ 2 2 [(J.t1,J.t2),(J.r1,J.r2)] 0 100 _ rfl (by decide) (Rg.of_bk [(J.t1,J.t2),(J.r1,J.r2)] (Bk.new _ _ _) (by simp))).mono ?_; rintro e w2 ⟨rfl,hb0⟩; have hb := ((Below.refl _ w).alloc (Nat.le_refl _) _).trans (hb0.mono (by simp)); clear hb0)
    go_ret
    exact ⟨ret_i HV.out.symm,HS.out.b0.trans (hb.mono HS.out.b0.size)⟩
set_option maxHeartbeats 4000000 in
set_option maxRecDepth 1000000 in
theorem ckpart1 {w0 : World} {g : Nat} {J : Jb} {a : Option Addr} {n c : Nat} {V : Int} {w : World} {u0 u2 u3 u4 u5 u6 u7 u8 u9 u10 u11 u12 u13 u14 u15 u16 u17 u18 u19 u20 u21 u22 u23 u24 u25 u26 u27 u28 u29 u30 u31 u32 u33 u34 u35 u36 u37 u38 u39 u40 u41 u42 u43 u44 u45 u46 u47 u48 u49 u50 u51 u52 u53 u54 u55 u56 u57 u58 u59 u60 u61 u62 u63 u64 u65 u66 : Value} (hs : CS w0 g J a n c w) (hv : V = ck1 J) : Code.wp Try.prog ckrest1 (QC V w0) ⟨#[u0,(.pointer (some ⟨g,0,none⟩)),u2,u3,u4,u5,u6,u7,u8,u9,u10,u11,u12,u13,u14,u15,u16,u17,u18,u19,u20,u21,u22,u23,u24,u25,u26,u27,u28,u29,u30,u31,u32,u33,u34,u35,u36,u37,u38,u39,u40,u41,u42,u43,u44,u45,u46,u47,u48,u49,u50,u51,u52,u53,u54,u55,u56,u57,u58,u59,u60,u61,u62,u63,u64,u65,u66],[]⟩ w := by
  rw [ckrest1_eq]
  have c0 := hs.job.at_ 0 (.int .i64 J.p1) rfl
  have c1 := hs.job.at_ 1 (.int .i64 J.p2) rfl
  have HS := hidMk hs
  unfold ck1 at hv
  clear hs
  by_cases hz0 : rngE J.p1 J.p2 (-60) 60 = 0
  · rw [if_pos hz0] at hv
    have HV := hidMk hv
    have hz1 : (rngE J.p1 J.p2 (-60) 60 != 0) = false := by simp [hz0]
    clear hv hz0
    go_wp2_with (go_at_call 69; refine (refRange_any _ _ _ _ _).mono ?_; rintro e w2 ⟨rfl,hb⟩)
    exact ckpart2 (HS.out.next hb) HV.out
  · rw [if_neg hz0] at hv
    have HV := hidMk hv
    have hz1 : (rngE J.p1 J.p2 (-60) 60 != 0) = true := by simp [hz0]
    clear hv hz0
    unfold QC
    go_wp2_with (go_at_call 69; refine (refRange_any _ _ _ _ _).mono ?_; rintro e w2 ⟨rfl,hb⟩)
    go_ret
    exact ⟨ret_i HV.out.symm,HS.out.b0.trans (hb.mono HS.out.b0.size)⟩
set_option maxRecDepth 100000 in
theorem refCheck_any (J : Jb) (a : Option Addr) (n c : Nat) (w : World) (hn : n = J.sh.length) (hm : n ≤ 9223372036854775807) (h : Rg w w.heap.size a J.sh) :
    Calls Try.prog 39 #[.agg (jobC J (.slice a n c))] w fun e w' => e = .returned (.int .i64 J.check) ∧ Below w.heap.size w w' := by
  have hs : CS w w.heap.size J a n c (w.alloc (.cells (jobC J (.slice a n c)) 30)) := ⟨Bk.new _ _ _,(Below.refl _ _).alloc (Nat.le_refl _) _,h,hn,hm⟩
  have HS := hidMk hs
  clear hn hm h hs
  go_enter Try.func39,Try.ntmps39
  show Code.wp Try.prog ckbody (QC J.check w) _ _
  rw [ckbody_eq]
  go_wp2_with fail
  exact ckpart1 HS.out (ck1_check J).symm
end Go.Proofs.Ytadmcafbffjjbaa
