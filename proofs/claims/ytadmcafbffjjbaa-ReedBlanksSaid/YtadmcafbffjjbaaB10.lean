/- Part 10 of the proof: GrC. -/
import Derived.Deep.WholeRow
import Derived.Test.YtadmcafbffjjbaaB09
/- The reference of the game: makes. -/
namespace Go.Proofs.Ytadmcafbffjjbaa
set_option linter.all false
open Go.RowKit
noncomputable def mkbody : Code := Try.f53.body.getD .skip
noncomputable def mkrest1 : Code := sndB mkbody
noncomputable def mkrest2 : Code := sndB mkrest1
set_option maxRecDepth 1000000 in
theorem mkbody_eq : mkbody = .seq (Code.region 0 #[⟨some 4,.box 30 (.tmp 0),0,"game.go:19",#[],none⟩,⟨some 5,.box 25 (.tmp 1),0,"game.go:19",#[],none⟩,⟨some 8,.assign (.const (.bool false)),4,"game.go:19",#[],none⟩] false) mkrest1 := by kernel_rfl
set_option maxRecDepth 1000000 in
theorem mkrest1_eq : mkrest1 = .seq (Code.region 1 #[⟨some 10,.fieldAddr 30 (.tmp 4) 1,0,"game.go:20",#[],none⟩,⟨some 11,.load 27 (.tmp 10),27,"game.go:20",#[⟨0,.data⟩],none⟩,⟨some 12,.load 25 (.tmp 5),25,"game.go:20",#[],none⟩,⟨some 13,.move (.tmp 2),3,"game.go:20",#[],none⟩,⟨some 14,.call { callee := .value (.func 82),args := #[.tmp 11,.tmp 12,.tmp 13],argTypes := #[27,25,3] },25,"game.go:20",#[⟨1,.data⟩,⟨2,.data⟩,⟨3,.data⟩],none⟩,⟨some 9,.alloc 25,0,"game.go:20",#[],none⟩,⟨none,.store 25 (.tmp 9) (.tmp 14),0,"game.go:20",#[⟨5,.data⟩,⟨4,.data⟩,⟨4,.chain⟩,⟨0,.phase⟩,⟨1,.phase⟩,⟨2,.phase⟩,⟨3,.phase⟩,⟨4,.phase⟩,⟨5,.phase⟩],none⟩] false) mkrest2 := by kernel_rfl
set_option maxRecDepth 1000000 in
theorem mkrest2_eq : mkrest2 = .seq (Code.region 2 #[⟨some 15,.fieldAddr 30 (.tmp 4) 1,0,"game.go:21",#[],none⟩,⟨some 16,.load 27 (.tmp 15),27,"game.go:21",#[⟨0,.data⟩],none⟩,⟨some 17,.load 25 (.tmp 9),25,"game.go:21",#[],none⟩,⟨some 18,.call { callee := .value (.func 83),args := #[.tmp 16,.tmp 17],argTypes := #[27,25] },3,"game.go:21",#[⟨1,.data⟩,⟨2,.data⟩],none⟩,⟨some 19,.binOp .eql 3 (.tmp 18) (.const (.int .i64 2)) 3,4,"game.go:21",#[⟨3,.data⟩],none⟩,⟨some 20,.move (.tmp 19),4,"game.go:21",#[⟨4,.data⟩,⟨3,.chain⟩],none⟩,⟨some 21,.load 30 (.tmp 4),30,"game.go:21",#[⟨5,.guard⟩],some (5,true)⟩,⟨some 22,.load 25 (.tmp 9),25,"game.go:21",#[⟨5,.guard⟩],some (5,true)⟩,⟨some 23,.move (.tmp 3),3,"game.go:21",#[⟨5,.guard⟩],some (5,true)⟩,⟨some 24,.binOp .sub 3 (.tmp 23) (.const (.int .i64 1)) 3,3,"game.go:21",#[⟨8,.data⟩,⟨5,.guard⟩],some (5,true)⟩,⟨some 25,.call { callee := .value (.func 80),args := #[.tmp 21,.tmp 22,.tmp 24],argTypes := #[30,25,3] },4,"game.go:21",#[⟨6,.data⟩,⟨7,.data⟩,⟨9,.data⟩,⟨5,.chain⟩,⟨5,.guard⟩],some (5,true)⟩,⟨some 26,.pick (.tmp 20) (.tmp 25) (.const (.bool false)),4,"game.go:21",#[⟨5,.data⟩,⟨10,.data⟩],none⟩,⟨some 8,.assign (.tmp 26),4,"game.go:21",#[⟨11,.data⟩,⟨10,.chain⟩,⟨0,.phase⟩,⟨1,.phase⟩,⟨2,.phase⟩,⟨3,.phase⟩,⟨4,.phase⟩,⟨5,.phase⟩,⟨6,.phase⟩,⟨7,.phase⟩,⟨8,.phase⟩,⟨9,.phase⟩,⟨10,.phase⟩,⟨11,.phase⟩],none⟩] false) .ret := by kernel_rfl
/-- What lies about in makes and knows. -/
structure KS (G : Jb) (t : Tg) (sa : Option Addr) (sn sc : Nat) (w0 : World) (g3 g4 : Nat) (w : World) : Prop where
  ns : NS G sa sn sc w0 g3 w
  tg : Bk w g4 25 (tgV t)
theorem KS.next {G : Jb} {t : Tg} {sa : Option Addr} {sn sc : Nat} {w0 : World} {g3 g4 : Nat} {w w' : World} (h : KS G t sa sn sc w0 g3 g4 w) (hb : Below w.heap.size w w') : KS G t sa sn sc w0 g3 g4 w' := ⟨h.ns.next hb,h.tg.below hb h.tg.lt⟩
theorem KS.mk0 {G : Jb} {t : Tg} {sa : Option Addr} {sn sc : Nat} {w : World} (hrg : Rg w w.heap.size sa G.sh) : KS G t sa sn sc w w.heap.size (w.heap.size + 1) ((w.alloc (.cells (jobC G (.slice sa sn sc)) 30)).alloc (.cells (tgV t) 25)) :=
  have q0 : Below w.heap.size w ((w.alloc (.cells (jobC G (.slice sa sn sc)) 30)).alloc (.cells (tgV t) 25)) := ((Below.refl _ _).alloc (Nat.le_refl _) _).alloc (by simp) _
  ⟨⟨q0,(Bk.new _ _ _).alloc _,hrg.below q0⟩,Bk.newAt _ _ _ _ (by simp)⟩

def QMK (G : Jb) (k : Nat) (t : Tg) (s : Int) (w0 : World) : Exit → Act → World → Prop := bodyPost Try.prog Try.f53 fun e w' => e = .returned (.bool (makesB G k t s)) ∧ Below w0.heap.size w0 w'
set_option maxHeartbeats 4000000 in
set_option maxRecDepth 1000000 in
theorem makes_of {G : Jb} {sa : Option Addr} {sn sc k : Nat} (hk4 : k ≤ 3) (hJ : G.In 200) (hu : G.u1 ≤ G.u2 ∧ G.d1 ≤ G.d2) (hrd : RDc G sa sn sc k) : MKc G sa sn sc k := by
  intro t s w hs ht hrg
  have HN := hidMk (tg_next (st := s) (hJ.mono (by decide)) hu ht)
  have HT : Hid (t.In 1000) := hidMk (ht.1.mono (by push_cast; omega))
  have HJ := hidMk hJ
  have HR := hidMk hrd
  have HZ := hidMk hs
  have HS := hidMk (KS.mk0 (t := t) (sn := sn) (sc := sc) hrg)
  clear hrg hs ht hu hJ hrd
  go_enter Try.func53,Try.ntmps53
  show Code.wp Try.prog mkbody (QMK G k t s w) _ _
  rw [mkbody_eq]
  go_wp2_with fail
  generalize hG4 : w.heap.size + 1 = g4 at HS ⊢
  generalize hG3 : w.heap.size = g3 at HS ⊢
  generalize hW1 : ((w.alloc (.cells (jobC G (.slice sa sn sc)) 30)).alloc (.cells (tgV t) 25)) = w1 at HS ⊢
  clear hG4 hG3 hW1
  rw [mkrest1_eq]
  refine wp_seq_k fun K0 hK0 => ?_
  have c0 := HS.out.tg.at_ 0 (.int .i64 t.p1) rfl; have c1 := HS.out.tg.at_ 1 (.int .i64 t.p2) rfl; have c2 := HS.out.tg.at_ 2 (.int .i64 t.t1) rfl; have c3 := HS.out.tg.at_ 3 (.int .i64 t.t2) rfl; have c4 := HS.out.tg.at_ 4 (.int .i64 t.r1) rfl; have c5 := HS.out.tg.at_ 5 (.int .i64 t.r2) rfl
  have d6 := HS.out.ns.job.at_ 6 (.int .i64 G.u1) rfl; have d7 := HS.out.ns.job.at_ 7 (.int .i64 G.u2) rfl; have d8 := HS.out.ns.job.at_ 8 (.int .i64 G.d1) rfl; have d9 := HS.out.ns.job.at_ 9 (.int .i64 G.d2) rfl; have d10 := HS.out.ns.job.at_ 10 (.int .i64 G.x1) rfl; have d11 := HS.out.ns.job.at_ 11 (.int .i64 G.x2) rfl; have d12 := HS.out.ns.job.at_ 12 (.int .i64 G.y1) rfl; have d13 := HS.out.ns.job.at_ 13 (.int .i64 G.y2) rfl; have d14 := HS.out.ns.job.at_ 14 (.int .i64 G.le) rfl
  go_wp2_with fail
  clear c0 c1 c2 c3 c4 c5 d6 d7 d8 d9 d10 d11 d12 d13 d14
  show Calls Try.prog _ #[.agg (fileV G),.agg (tgV t),.int .i64 s] _ _
  refine (refStroke_any G t s HZ.out _ (HJ.out.mono (by decide)) HT.out).mono ?_
  rintro e w5 ⟨rfl,hb5⟩
  have HS5 := hidMk (HS.out.next hb5)
  clear hb5
  obtain ⟨n,hn⟩ : ∃ n,n = strk G t s := ⟨_,rfl⟩
  rw [← hn]
  have eT : tgV n = #[.int .i64 n.p1,.int .i64 n.p2,.int .i64 n.t1,.int .i64 n.t2,.int .i64 n.r1,.int .i64 n.r2] := rfl
  rw [eT]
  have HNN := hidMk hn
  clear hn eT
  go_wp2_with fail
  have HB9 : Hid (Bk (w5.alloc (.cells #[.int .i64 n.p1,.int .i64 n.p2,.int .i64 n.t1,.int .i64 n.t2,.int .i64 n.r1,.int .i64 n.r2] 25)) w5.heap.size 25 #[.int .i64 n.p1,.int .i64 n.p2,.int .i64 n.t1,.int .i64 n.t2,.int .i64 n.r1,.int .i64 n.r2]) := hidMk (Bk.new _ _ _)
  have HS6 : Hid (KS G t sa sn sc w g3 g4 (w5.alloc (.cells #[.int .i64 n.p1,.int .i64 n.p2,.int .i64 n.t1,.int .i64 n.t2,.int .i64 n.r1,.int .i64 n.r2] 25))) := hidMk (HS5.out.next ((Below.refl _ _).alloc (Nat.le_refl _) _))
  generalize hW6 : w5.alloc (.cells #[.int .i64 n.p1,.int .i64 n.p2,.int .i64 n.t1,.int .i64 n.t2,.int .i64 n.r1,.int .i64 n.r2] 25) = w6 at HB9 HS6 ⊢
  generalize hG9 : w5.heap.size = g9 at HB9 ⊢
  clear hW6 hG9 HS HS5
  have HMB : Hid (makesB G k t s = (decide (spoilI G.le n = 2) && readsB G k n)) := hidMk (by rw [HNN.out]; rfl)
  have HTN : Hid (TgIn k n) := hidMk (by rw [HNN.out]; exact HN.out)
  rw [mkrest2_eq]
  have c0 := HB9.out.at_ 0 (.int .i64 n.p1) rfl; have c1 := HB9.out.at_ 1 (.int .i64 n.p2) rfl; have c2 := HB9.out.at_ 2 (.int .i64 n.t1) rfl; have c3 := HB9.out.at_ 3 (.int .i64 n.t2) rfl; have c4 := HB9.out.at_ 4 (.int .i64 n.r1) rfl; have c5 := HB9.out.at_ 5 (.int .i64 n.r2) rfl
  have d6 := HS6.out.ns.job.at_ 6 (.int .i64 G.u1) rfl; have d7 := HS6.out.ns.job.at_ 7 (.int .i64 G.u2) rfl; have d8 := HS6.out.ns.job.at_ 8 (.int .i64 G.d1) rfl; have d9 := HS6.out.ns.job.at_ 9 (.int .i64 G.d2) rfl; have d10 := HS6.out.ns.job.at_ 10 (.int .i64 G.x1) rfl; have d11 := HS6.out.ns.job.at_ 11 (.int .i64 G.x2) rfl; have d12 := HS6.out.ns.job.at_ 12 (.int .i64 G.y1) rfl; have d13 := HS6.out.ns.job.at_ 13 (.int .i64 G.y2) rfl; have d14 := HS6.out.ns.job.at_ 14 (.int .i64 G.le) rfl
  go_wp2_with fail
  clear d6 d7 d8 d9 d10 d11 d12 d13 d14 c0 c1 c2 c3 c4 c5
  show Calls Try.prog _ #[.agg (fileV G),.agg (tgV n)] _ _
  refine (refSpoiled_any G n _).mono ?_
  rintro e w7 ⟨rfl,hb7⟩
  have HB9' := hidMk (HB9.out.below hb7 HB9.out.lt)
  have HS7 := hidMk (HS6.out.next hb7)
  clear hb7
  obtain ⟨x,hx⟩ : ∃ x,x = spoilI G.le n := ⟨_,rfl⟩
  rw [← hx]
  rw [← hx] at HMB
  clear hx
  by_cases h2 : x = 2
  · have e2 : (x == 2) = true := by simp [h2]
    have HMB2 : Hid (makesB G k t s = readsB G k n) := hidMk (by rw [HMB.out,h2]; rfl)
    clear HMB h2
    have c0 := HB9'.out.at_ 0 (.int .i64 n.p1) rfl; have c1 := HB9'.out.at_ 1 (.int .i64 n.p2) rfl; have c2 := HB9'.out.at_ 2 (.int .i64 n.t1) rfl; have c3 := HB9'.out.at_ 3 (.int .i64 n.t2) rfl; have c4 := HB9'.out.at_ 4 (.int .i64 n.r1) rfl; have c5 := HB9'.out.at_ 5 (.int .i64 n.r2) rfl
    have d0 := HS7.out.ns.job.at_ 0 (.int .i64 G.p1) rfl; have d1 := HS7.out.ns.job.at_ 1 (.int .i64 G.p2) rfl; have d2 := HS7.out.ns.job.at_ 2 (.int .i64 G.t1) rfl; have d3 := HS7.out.ns.job.at_ 3 (.int .i64 G.t2) rfl; have d4 := HS7.out.ns.job.at_ 4 (.int .i64 G.r1) rfl; have d5 := HS7.out.ns.job.at_ 5 (.int .i64 G.r2) rfl; have d6 := HS7.out.ns.job.at_ 6 (.int .i64 G.u1) rfl; have d7 := HS7.out.ns.job.at_ 7 (.int .i64 G.u2) rfl; have d8 := HS7.out.ns.job.at_ 8 (.int .i64 G.d1) rfl; have d9 := HS7.out.ns.job.at_ 9 (.int .i64 G.d2) rfl; have d10 := HS7.out.ns.job.at_ 10 (.int .i64 G.x1) rfl; have d11 := HS7.out.ns.job.at_ 11 (.int .i64 G.x2) rfl; have d12 := HS7.out.ns.job.at_ 12 (.int .i64 G.y1) rfl; have d13 := HS7.out.ns.job.at_ 13 (.int .i64 G.y2) rfl; have d14 := HS7.out.ns.job.at_ 14 (.int .i64 G.le) rfl; have d15 := HS7.out.ns.job.at_ 15 (.slice sa sn sc) rfl; have d16 := HS7.out.ns.job.at_ 16 (.int .i64 G.wi) rfl; have d17 := HS7.out.ns.job.at_ 17 (.int .i64 G.me) rfl
    go_wp2_with fail
    clear c0 c1 c2 c3 c4 c5 d0 d1 d2 d3 d4 d5 d6 d7 d8 d9 d10 d11 d12 d13 d14 d15 d16 d17
    show Calls Try.prog 80 #[.agg (jobC G (.slice sa sn sc)),.agg (tgV n),.int .i64 (k : Int)] _ _
    refine (HR.out n _ HTN.out HS7.out.ns.rg).mono ?_
    rintro e w8 ⟨rfl,hb8⟩
    have HS8 := hidMk (HS7.out.next hb8)
    clear hb8
    obtain ⟨b,hb⟩ : ∃ b,b = readsB G k n := ⟨_,rfl⟩
    rw [← hb]
    rw [← hb] at HMB2
    clear hb
    cases b with
    | true =>
      go_wp2_with fail
      go_ret
      exact ⟨by rw [HMB2.out]; rfl,HS8.out.ns.b0⟩
    | false =>
      go_wp2_with fail
      go_ret
      exact ⟨by rw [HMB2.out]; rfl,HS8.out.ns.b0⟩
  · have e2 : (x == 2) = false := by simp [h2]
    have HMB2 : Hid (makesB G k t s = false) := hidMk (by rw [HMB.out,decide_eq_false h2]; rfl)
    clear HMB h2
    go_wp2_with fail
    go_ret
    exact ⟨by rw [HMB2.out]; rfl,HS7.out.ns.b0⟩
end Go.Proofs.Ytadmcafbffjjbaa
