/- Part 9 of the proof: GrB. -/
import Derived.Deep.WholeRow
import Derived.Test.YtadmcafbffjjbaaB06
import Derived.Test.YtadmcafbffjjbaaB08
import Derived.Test.YtadmcafbffjjbaaB05
/- The reference of the game: reads. -/
namespace Go.Proofs.Ytadmcafbffjjbaa
set_option linter.all false
open Go.RowKit
noncomputable def rdbody : Code := Try.f80.body.getD .skip
noncomputable def rdrest1 : Code := sndB rdbody
noncomputable def rdrest2 : Code := sndB rdrest1
set_option maxRecDepth 1000000 in
theorem rdbody_eq : rdbody = .seq (Code.region 0 #[⟨some 3,.box 30 (.tmp 0),0,"game.go:25",#[],none⟩,⟨some 4,.box 25 (.tmp 1),0,"game.go:25",#[],none⟩,⟨some 6,.assign (.const (.bool false)),4,"game.go:25",#[],none⟩] false) rdrest1 := by kernel_rfl
set_option maxRecDepth 1000000 in
theorem rdrest1_eq : rdrest1 = .seq (.seq (Code.region 1 #[⟨some 9,.fieldAddr 25 (.tmp 4) 0,0,"game.go:26",#[],none⟩,⟨some 10,.fieldAddr 23 (.tmp 9) 0,0,"game.go:26",#[⟨0,.data⟩],none⟩,⟨some 11,.load 3 (.tmp 10),3,"game.go:26",#[⟨1,.data⟩],none⟩,⟨some 12,.fieldAddr 30 (.tmp 3) 4,0,"game.go:26",#[],none⟩,⟨some 13,.load 3 (.tmp 12),3,"game.go:26",#[⟨3,.data⟩],none⟩,⟨some 14,.binOp .sub 3 (.tmp 11) (.tmp 13) 3,3,"game.go:26",#[⟨2,.data⟩,⟨4,.data⟩],none⟩,⟨some 7,.assign (.tmp 14),3,"game.go:26",#[⟨5,.data⟩,⟨0,.phase⟩,⟨1,.phase⟩,⟨2,.phase⟩,⟨3,.phase⟩,⟨4,.phase⟩,⟨5,.phase⟩],none⟩] false) (.block 0 (.loop (.seq (.seq (Code.region 2 #[⟨some 15,.move (.tmp 7),3,"game.go:26",#[],none⟩,⟨some 16,.fieldAddr 25 (.tmp 4) 0,0,"game.go:26",#[],none⟩,⟨some 17,.fieldAddr 23 (.tmp 16) 1,0,"game.go:26",#[⟨1,.data⟩],none⟩,⟨some 18,.load 3 (.tmp 17),3,"game.go:26",#[⟨2,.data⟩],none⟩,⟨some 19,.fieldAddr 30 (.tmp 3) 4,0,"game.go:26",#[],none⟩,⟨some 20,.load 3 (.tmp 19),3,"game.go:26",#[⟨4,.data⟩],none⟩,⟨some 21,.binOp .add 3 (.tmp 18) (.tmp 20) 3,3,"game.go:26",#[⟨3,.data⟩,⟨5,.data⟩],none⟩,⟨some 22,.binOp .leq 3 (.tmp 15) (.tmp 21) 3,4,"game.go:26",#[⟨0,.data⟩,⟨6,.data⟩],none⟩] false) (.cond (.tmp 22) .skip (.exit 0))) (.seq (.block 1 (.seq (Code.region 4 #[⟨some 25,.load 25 (.tmp 4),25,"game.go:27",#[],none⟩,⟨some 8,.alloc 25,0,"game.go:27",#[],none⟩,⟨none,.store 25 (.tmp 8) (.tmp 25),0,"game.go:27",#[⟨1,.data⟩,⟨0,.data⟩,⟨0,.phase⟩,⟨1,.phase⟩],none⟩] false) (.seq (Code.region 5 #[⟨some 26,.fieldAddr 25 (.tmp 4) 0,0,"game.go:28",#[],none⟩,⟨some 27,.load 23 (.tmp 26),23,"game.go:28",#[⟨0,.data⟩],none⟩,⟨some 28,.move (.tmp 7),3,"game.go:28",#[],none⟩,⟨some 29,.fieldAddr 30 (.tmp 3) 4,0,"game.go:28",#[],none⟩,⟨some 30,.load 3 (.tmp 29),3,"game.go:28",#[⟨3,.data⟩],none⟩,⟨some 31,.call { callee := .value (.func 91),args := #[.tmp 27,.tmp 28,.tmp 30],argTypes := #[23,3,3] },23,"game.go:28",#[⟨1,.data⟩,⟨2,.data⟩,⟨4,.data⟩],none⟩,⟨some 32,.fieldAddr 25 (.tmp 8) 0,0,"game.go:28",#[⟨0,.phase⟩,⟨1,.phase⟩,⟨2,.phase⟩,⟨3,.phase⟩,⟨4,.phase⟩,⟨5,.phase⟩],none⟩,⟨none,.store 23 (.tmp 32) (.tmp 31),0,"game.go:28",#[⟨6,.data⟩,⟨5,.data⟩,⟨5,.chain⟩,⟨0,.phase⟩,⟨1,.phase⟩,⟨2,.phase⟩,⟨3,.phase⟩,⟨4,.phase⟩,⟨5,.phase⟩],none⟩] false) (.seq (Code.region 6 #[⟨some 33,.load 30 (.tmp 3),30,"game.go:29",#[],none⟩,⟨some 34,.load 25 (.tmp 8),25,"game.go:29",#[],none⟩,⟨some 35,.move (.tmp 2),3,"game.go:29",#[],none⟩,⟨some 36,.call { callee := .value (.func 92),args := #[.tmp 33,.tmp 34,.tmp 35],argTypes := #[30,25,3] },4,"game.go:29",#[⟨0,.data⟩,⟨1,.data⟩,⟨2,.data⟩],none⟩,⟨some 37,.unOp .not 4 (.tmp 36),4,"game.go:29",#[⟨3,.data⟩],none⟩] false) (.cond (.tmp 37) (.seq (Code.region 7 #[⟨some 6,.assign (.const (.bool false)),4,"game.go:30",#[],none⟩] false) .ret) .skip))))) (Code.region 3 #[⟨some 23,.move (.tmp 7),3,"game.go:26",#[],none⟩,⟨some 24,.binOp .add 3 (.tmp 23) (.const (.int .i64 1)) 3,3,"game.go:26",#[⟨0,.data⟩],none⟩,⟨some 7,.assign (.tmp 24),3,"game.go:26",#[⟨1,.data⟩,⟨0,.phase⟩,⟨1,.phase⟩],none⟩] false)))))) rdrest2 := by kernel_rfl
set_option maxRecDepth 1000000 in
theorem rdrest2_eq : rdrest2 = .seq (Code.region 8 #[⟨some 6,.assign (.const (.bool true)),4,"game.go:33",#[],none⟩] false) .ret := by kernel_rfl
/-- What lies about in the reference's game. -/
def KNc (G : Jb) (sa : Option Addr) (sn sc k : Nat) : Prop := ∀ (t : Tg) (w : World),TgIn k t → Rg w w.heap.size sa G.sh → Calls Try.prog 92 #[.agg (jobC G (.slice sa sn sc)),.agg (tgV t),.int .i64 (k : Int)] w fun e w' => e = .returned (.bool (knowsB G k t)) ∧ Below w.heap.size w w'
def RDc (G : Jb) (sa : Option Addr) (sn sc k : Nat) : Prop := ∀ (t : Tg) (w : World),TgIn k t → Rg w w.heap.size sa G.sh → Calls Try.prog 80 #[.agg (jobC G (.slice sa sn sc)),.agg (tgV t),.int .i64 (k : Int)] w fun e w' => e = .returned (.bool (readsB G k t)) ∧ Below w.heap.size w w'
def MKc (G : Jb) (sa : Option Addr) (sn sc k : Nat) : Prop := ∀ (t : Tg) (s : Int) (w : World),(s = 1 ∨ s = 2) → TgIn (k + 1) t → Rg w w.heap.size sa G.sh → Calls Try.prog 53 #[.agg (jobC G (.slice sa sn sc)),.agg (tgV t),.int .i64 s,.int .i64 ((k + 1 : Nat) : Int)] w fun e w' => e = .returned (.bool (makesB G k t s)) ∧ Below w.heap.size w w'

def QRD (G : Jb) (k : Nat) (t : Tg) (w0 : World) : Exit → Act → World → Prop := bodyPost Try.prog Try.f80 fun e w' => e = .returned (.bool (readsB G k t)) ∧ Below w0.heap.size w0 w'
set_option maxHeartbeats 4000000 in
set_option maxRecDepth 1000000 in
theorem reads_of {G : Jb} {sa : Option Addr} {sn sc k : Nat} (hk4 : k ≤ 4) (hme : 0 ≤ G.me ∧ G.me ≤ 6) (hkn : KNc G sa sn sc k) : RDc G sa sn sc k := by
  intro t w ht hrg
  have ht0 := ht
  obtain ⟨hin,hp⟩ := ht0
  simp only [Tg.In] at hin
  have q0 : Below w.heap.size w ((w.alloc (.cells (jobC G (.slice sa sn sc)) 30)).alloc (.cells (tgV t) 25)) := ((Below.refl _ _).alloc (Nat.le_refl _) _).alloc (by simp) _
  have b3 : Bk ((w.alloc (.cells (jobC G (.slice sa sn sc)) 30)).alloc (.cells (tgV t) 25)) w.heap.size 30 (jobC G (.slice sa sn sc)) := (Bk.new _ _ _).alloc _
  have b4 : Bk ((w.alloc (.cells (jobC G (.slice sa sn sc)) 30)).alloc (.cells (tgV t) 25)) (w.heap.size + 1) 25 (tgV t) := Bk.newAt _ _ _ _ (by simp)
  have HT := hidMk ht
  have HR := hidMk (hrg.up q0)
  have HK := hidMk hkn
  have HQ := hidMk q0
  have B3 := hidMk b3
  have B4 := hidMk b4
  clear ht hrg hkn q0 b3 b4
  go_enter Try.func80,Try.ntmps80
  show Code.wp Try.prog rdbody (QRD G k t w) _ _
  rw [rdbody_eq]
  go_wp2_with fail
  generalize hG4 : w.heap.size + 1 = g4 at B4 ⊢
  generalize hG3 : w.heap.size = g3 at B3 ⊢
  generalize hW1 : ((w.alloc (.cells (jobC G (.slice sa sn sc)) 30)).alloc (.cells (tgV t) 25)) = w1 at B3 B4 HR HQ ⊢
  have HQ' : Hid (Below w.heap.size w w1) := HQ
  clear HQ hG4 hG3 hW1
  have c0 := B4.out.at_ 0 (.int .i64 t.p1) rfl
  have c17 := B3.out.at_ 17 (.int .i64 G.me) rfl
  rw [rdrest1_eq]
  refine wp_seq_k fun K0 hK0 => ?_
  go_wp2_with fail
  clear c0 c17
  go_loopw [7] (fun rv wr => ∃ (j : Nat) (r : Int),rv = .int .i64 r ∧ Hid (r = t.p1 - G.me + (j : Int)) ∧ -1000 ≤ r ∧ r ≤ t.p2 + G.me + 1 ∧ Hid (∀ x ∈ upto t.p1 t.p2 G.me j,knowsB G k { t with p1 := x.1,p2 := x.2 } = true) ∧ Below w1.heap.size w1 wr) (fun rv _ => (t.p2 + G.me + 1 - intOf rv).toNat)
  case atStart => exact ⟨0,t.p1 - G.me,rfl,hidMk (by simp),by omega,by omega,hidMk (by intro x hx; simp [upto] at hx),Below.refl _ _⟩
  case round =>
    obtain ⟨j,r,rfl,Hr,hr1,hr2,HA,hB⟩ := hrel
    have d3 := B3.out.below hB B3.out.lt
    have d4 := B4.out.below hB B4.out.lt
    have c0 := d4.at_ 0 (.int .i64 t.p1) rfl
    have c1 := d4.at_ 1 (.int .i64 t.p2) rfl
    have c2 := d4.at_ 2 (.int .i64 t.t1) rfl
    have c3 := d4.at_ 3 (.int .i64 t.t2) rfl
    have c4 := d4.at_ 4 (.int .i64 t.r1) rfl
    have c5 := d4.at_ 5 (.int .i64 t.r2) rfl
    have c17 := d3.at_ 17 (.int .i64 G.me) rfl
    by_cases hlt : r ≤ t.p2 + G.me
    · have HB := hidMk hB
      have D3 := hidMk d3
      have D4 := hidMk d4
      have hz := hB.size
      have hl4 := d4.lt
      have hl3 := d3.lt
      have hmem : heardR t.p1 t.p2 r G.me ∈ readsL t.p1 t.p2 G.me := List.mem_map.2 ⟨j,List.mem_range.2 (by have := Hr.out; omega),by rw [Hr.out]⟩
      have HM := hidMk hmem
      clear d3 d4 hB hmem
      obtain ⟨x1,hx1⟩ : ∃ x,x = (heardR t.p1 t.p2 r G.me).1 := ⟨_,rfl⟩
      obtain ⟨x2,hx2⟩ : ∃ x,x = (heardR t.p1 t.p2 r G.me).2 := ⟨_,rfl⟩
      have HX := hidMk (And.intro hx1 hx2)
      go_wp2_with fail
      refine (refHeard_any _ _ _ _ _ (by omega)).mono ?_
      rintro e w5 ⟨rfl,hb5⟩
      rw [← hx1,← hx2]
      have hz5 := hb5.size
      simp only [World.size_alloc] at hz5
      have e8 : Bk w5 wr.heap.size 25 (tgV t) := (Bk.new wr 25 (tgV t)).below hb5 (by simp)
      have y0 := e8.at_ 0 (.int .i64 t.p1) rfl
      have y1 := e8.at_ 1 (.int .i64 t.p2) rfl
      have f0 := e8.free 0
      have f1 := e8.free 1
      have n3 : g3 ≠ wr.heap.size := by omega
      have n4 : g4 ≠ wr.heap.size := by omega
      have D3' : Bk ((w5.setCell ⟨wr.heap.size,0,none⟩ (.int .i64 x1)).setCell ⟨wr.heap.size,1,none⟩ (.int .i64 x2)) g3 30 (jobC G (.slice sa sn sc)) := (((D3.out.alloc _).below hb5 (by simp; omega)).other (p := ⟨wr.heap.size,0,none⟩) n3 _).other (p := ⟨wr.heap.size,1,none⟩) n3 _
      have E8 : Bk ((w5.setCell ⟨wr.heap.size,0,none⟩ (.int .i64 x1)).setCell ⟨wr.heap.size,1,none⟩ (.int .i64 x2)) wr.heap.size 25 (tgV { t with p1 := x1,p2 := x2 }) := (e8.put 0 (.int .i64 x1)).put 1 (.int .i64 x2)
      have q5 : Below wr.heap.size wr ((w5.setCell ⟨wr.heap.size,0,none⟩ (.int .i64 x1)).setCell ⟨wr.heap.size,1,none⟩ (.int .i64 x2)) := ((((Below.refl _ _).alloc (Nat.le_refl _) _).trans (hb5.mono (by simp))).setCell (p := ⟨wr.heap.size,0,none⟩) (Nat.le_refl _) _).setCell (p := ⟨wr.heap.size,1,none⟩) (Nat.le_refl _) _
      have HD3 := hidMk D3'
      have HE8 := hidMk E8
      have HQ5 := hidMk q5
      have z0 := E8.at_ 0 (.int .i64 x1) rfl
      have z1 := E8.at_ 1 (.int .i64 x2) rfl
      have z2 := E8.at_ 2 (.int .i64 t.t1) rfl
      have z3 := E8.at_ 3 (.int .i64 t.t2) rfl
      have z4 := E8.at_ 4 (.int .i64 t.r1) rfl
      have z5 := E8.at_ 5 (.int .i64 t.r2) rfl
      have HX2 := hidMk hx1
      clear hx1 hx2 D3' E8 q5 e8 hb5 c0 c1 c2 c3 c4 c5
      go_wp2_with (refine wpList_load_row rfl 30 _ rfl g3 rfl _ (jobC G (.slice sa sn sc)) _ _ HD3.out Try.underlying30 rfl szJob ?_)
      have ht1 : TgIn k { t with p1 := x1,p2 := x2 } := by
        have hr := reads_in hp hme.1 HM.out
        rw [← HX.out.1,← HX.out.2] at hr
        obtain ⟨q1,q2,q3⟩ := hr
        refine ⟨?_,q2⟩
        simp only [Tg.In]
        omega
      have HBB := hidMk (HB.out.trans (HQ5.out.mono hz))
      refine (HK.out { t with p1 := x1,p2 := x2 } _ ht1 (HR.out.up HBB.out)).mono ?_
      rintro e w6 ⟨rfl,hb6⟩
      have HB6 := hidMk (HBB.out.trans (hb6.mono HBB.out.size))
      have HT1 := hidMk ht1
      clear hb6 ht1
      obtain ⟨b,hb⟩ : ∃ b,b = knowsB G k { t with p1 := x1,p2 := x2 } := ⟨_,rfl⟩
      rw [← hb]
      have HV := hidMk hb
      clear hb z0 z1 z2 z3 z4 z5 y0 y1 f0 f1
      cases b with
      | true =>
        go_wp2_with fail
        go_roundw
        case rel =>
          refine ⟨j + 1,r + 1,by go_num,hidMk (by rw [Hr.out]; push_cast; omega),by omega,by omega,hidMk ?_,HB6.out⟩
          intro x hx
          rw [upto_succ,List.mem_append,List.mem_singleton] at hx
          rcases hx with hx | rfl
          · exact HA.out x hx
          · rw [← Hr.out,← HX.out.1,← HX.out.2]; exact HV.out.symm
        case measure => simp [intOf]; omega
      | false =>
        go_wp2_with fail
        go_ret
        refine ⟨?_,HQ'.out.trans (HB6.out.mono HQ'.out.size)⟩
        have e : readsB G k t = false := by
          rw [Bool.eq_false_iff]
          intro h
          have h2 := List.all_eq_true.1 h _ HM.out
          rw [← HX.out.1,← HX.out.2,← HV.out] at h2
          cases h2
        rw [e]
        rfl
    · have HB := hidMk hB
      clear hB
      go_wp2_with fail
      rw [rdrest2_eq]
      go_wp2_with fail
      go_ret
      refine ⟨?_,HQ'.out.trans (HB.out.mono HQ'.out.size)⟩
      have e : readsB G k t = true := by
        unfold readsB
        rw [List.all_eq_true,upto_all]
        intro x hx
        refine HA.out x ?_
        have e : (t.p2 + G.me - (t.p1 - G.me) + 1).toNat = j := by have := Hr.out; omega
        rw [e] at hx
        exact hx
      rw [e]
      rfl
end Go.Proofs.Ytadmcafbffjjbaa
