/- Part 11 of the proof: GrD, GrE, GrF, StepL. -/
import Derived.Deep.WholeRow
import Derived.OwnWalk
import Derived.Test.YtadmcafbffjjbaaG10
import Derived.Test.YtadmcafbffjjbaaG01
import Derived.Test.YtadmcafbffjjbaaG07
import Derived.Test.YtadmcafbffjjbaaG05
/- The reference of the game: knows. -/
namespace Go.Proofs.Ytadmcafbffjjbaa
set_option linter.all false
open Go.RowKit Go.Shelf
noncomputable def knbody : Code := Try.f92.body.getD .skip
noncomputable def knrest1 : Code := sndB knbody
noncomputable def knrest2 : Code := sndB knrest1
noncomputable def knrest3 : Code := sndB knrest2
set_option maxRecDepth 1000000 in
theorem knbody_eq : knbody = .seq (Code.region 0 #[⟨some 3,.box 30 (.tmp 0),0,"game.go:6",#[],none⟩,⟨some 4,.box 25 (.tmp 1),0,"game.go:6",#[],none⟩,⟨some 6,.assign (.const (.bool false)),4,"game.go:6",#[],none⟩] false) knrest1 := by kernel_rfl
set_option maxRecDepth 1000000 in
theorem knrest1_eq : knrest1 = .seq (.seq (Code.region 1 #[⟨some 8,.fieldAddr 25 (.tmp 4) 0,0,"game.go:7",#[],none⟩,⟨some 9,.load 23 (.tmp 8),23,"game.go:7",#[⟨0,.data⟩],none⟩,⟨some 10,.load 30 (.tmp 3),30,"game.go:7",#[],none⟩,⟨some 11,.call { callee := .value (.func 52),args := #[.tmp 10],argTypes := #[30] },23,"game.go:7",#[⟨2,.data⟩],none⟩,⟨some 12,.call { callee := .value (.func 51),args := #[.tmp 9,.tmp 11],argTypes := #[23,23] },4,"game.go:7",#[⟨1,.data⟩,⟨3,.data⟩,⟨3,.chain⟩],none⟩] true) (.cond (.tmp 12) (.seq (Code.region 2 #[⟨some 6,.assign (.const (.bool true)),4,"game.go:8",#[],none⟩] false) .ret) .skip)) knrest2 := by kernel_rfl
set_option maxRecDepth 1000000 in
theorem knrest2_eq : knrest2 = .seq (.seq (Code.region 3 #[⟨some 7,.assign (.const (.int .i64 1)),3,"game.go:10",#[],none⟩] false) (.block 0 (.loop (.seq (.seq (Code.region 4 #[⟨some 13,.move (.tmp 7),3,"game.go:10",#[],none⟩,⟨some 14,.binOp .leq 3 (.tmp 13) (.const (.int .i64 2)) 3,4,"game.go:10",#[⟨0,.data⟩],none⟩,⟨some 15,.move (.tmp 14),4,"game.go:10",#[⟨1,.data⟩],none⟩,⟨some 16,.move (.tmp 2),3,"game.go:10",#[⟨2,.guard⟩],some (2,true)⟩,⟨some 17,.binOp .gtr 3 (.tmp 16) (.const (.int .i64 0)) 3,4,"game.go:10",#[⟨3,.data⟩,⟨2,.guard⟩],some (2,true)⟩,⟨some 18,.pick (.tmp 15) (.tmp 17) (.const (.bool false)),4,"game.go:10",#[⟨2,.data⟩,⟨4,.data⟩],none⟩] false) (.cond (.tmp 18) .skip (.exit 0))) (.seq (.block 1 (.seq (Code.region 6 #[⟨some 21,.load 30 (.tmp 3),30,"game.go:11",#[],none⟩,⟨some 22,.load 25 (.tmp 4),25,"game.go:11",#[],none⟩,⟨some 23,.move (.tmp 7),3,"game.go:11",#[],none⟩,⟨some 24,.move (.tmp 2),3,"game.go:11",#[],none⟩,⟨some 25,.call { callee := .value (.func 53),args := #[.tmp 21,.tmp 22,.tmp 23,.tmp 24],argTypes := #[30,25,3,3] },4,"game.go:11",#[⟨0,.data⟩,⟨1,.data⟩,⟨2,.data⟩,⟨3,.data⟩],none⟩] false) (.cond (.tmp 25) (.seq (Code.region 7 #[⟨some 6,.assign (.const (.bool true)),4,"game.go:12",#[],none⟩] false) .ret) .skip))) (Code.region 5 #[⟨some 19,.move (.tmp 7),3,"game.go:10",#[],none⟩,⟨some 20,.binOp .add 3 (.tmp 19) (.const (.int .i64 1)) 3,3,"game.go:10",#[⟨0,.data⟩],none⟩,⟨some 7,.assign (.tmp 20),3,"game.go:10",#[⟨1,.data⟩,⟨0,.phase⟩,⟨1,.phase⟩],none⟩] false)))))) knrest3 := by kernel_rfl
set_option maxRecDepth 1000000 in
theorem knrest3_eq : knrest3 = .seq (Code.region 8 #[⟨some 6,.assign (.const (.bool false)),4,"game.go:15",#[],none⟩] false) .ret := by kernel_rfl

def QKN (G : Jb) (k : Nat) (t : Tg) (w0 : World) : Exit → Act → World → Prop := bodyPost Try.prog Try.f92 fun e w' => e = .returned (.bool (knowsB G k t)) ∧ Below w0.heap.size w0 w'
theorem KS.drew {G : Jb} {t : Tg} {sa : Option Addr} {sn sc : Nat} {w0 : World} {g3 g4 : Nat} {w : World} (h : KS G t sa sn sc w0 g3 g4 w) : KS G t sa sn sc w0 g3 g4 w.drew := h.next (Below.refl _ _).drew
set_option maxHeartbeats 4000000 in
set_option maxRecDepth 1000000 in
theorem knows_of {G : Jb} {sa : Option Addr} {sn sc k : Nat} (hk4 : k ≤ 4) (hn : sn = G.sh.length) (hJ : G.In 200) (hmk : ∀ k',k = k' + 1 → MKc G sa sn sc k') : KNc G sa sn sc k := by
  intro t w ht hrg
  have HN := hidMk hn
  have HJ := hidMk hJ
  have HM := hidMk hmk
  have HT := hidMk ht
  have HS := hidMk (KS.mk0 (t := t) (sn := sn) (sc := sc) hrg)
  clear hrg hn hJ ht hmk
  obtain ⟨iw,hiw⟩ : ∃ b,b = inW G t := ⟨_,rfl⟩
  have HIW := hidMk hiw
  clear hiw
  go_enter Try.func92,Try.ntmps92
  show Code.wp Try.prog knbody (QKN G k t w) _ _
  rw [knbody_eq]
  go_wp2_with fail
  generalize hG4 : w.heap.size + 1 = g4 at HS ⊢
  generalize hG3 : w.heap.size = g3 at HS ⊢
  generalize hW1 : ((w.alloc (.cells (jobC G (.slice sa sn sc)) 30)).alloc (.cells (tgV t) 25)) = w1 at HS ⊢
  clear hG4 hG3 hW1
  rw [knrest1_eq]
  refine wp_seq_k fun K0 hK0 => ?_
  refine wp_seq_k fun K1 hK1 => ?_
  refine region_via (R := fun a e a' w' => e = .normal ∧ ∃ (v8 v9 v10 v11 : Value),a' = (((((a.put (some 8) v8).put (some 9) v9).put (some 10) v10).put (some 11) v11).put (some 12) (.bool iw)) ∧ KS G t sa sn sc w g3 g4 w') ?_ ?_
  rotate_left
  · rintro e a' w2 ⟨rfl,v8,v9,v10,v11,rfl,hS2⟩
    clear HS
    have HS := hidMk hS2
    clear hS2
    simp only [Act.put,aT,aZ,aS]
    refine hK1 _ _ ?_
    cases iw with
    | true =>
      go_wp2_with fail
      go_ret
      have e : knowsB G k t = true := by
        cases k with
        | zero => exact HIW.out.symm
        | succ k => rw [knowsB_succ,← HIW.out]; simp
      exact ⟨by rw [e]; rfl,HS.out.ns.b0⟩
    | false =>
      go_wp2_with fail
      rw [knrest2_eq]
      refine wp_seq_k fun K2 hK2 => ?_
      go_wp2_with fail
      generalize hV : w2 = wz at HS ⊢
      clear hV
      have hSz := HS.out
      clear HS
      go_loopw [7] (fun rv wr => ∃ (i : Int),rv = .int .i64 i ∧ 1 ≤ i ∧ i ≤ 3 ∧ Hid (∀ k',k = k' + 1 → ∀ x : Int,1 ≤ x → x < i → makesB G k' t x = false) ∧ KS G t sa sn sc w g3 g4 wr) (fun rv _ => (3 - intOf rv).toNat)
      case atStart => exact ⟨1,rfl,by omega,by omega,hidMk (fun _ _ x h1 h2 => by omega),hSz⟩
      case round =>
        clear hSz
        obtain ⟨i,rfl,hi1,hi3,HA,hS⟩ := hrel
        have HS := hidMk hS
        clear hS
        by_cases hi : i ≤ 2
        · have d1 : decide (i ≤ 2) = true := decide_eq_true hi
          by_cases h0 : 0 < k
          · have d2 : decide ((0 : Int) < (k : Int)) = true := decide_eq_true (by omega)
            obtain ⟨k',hk'⟩ : ∃ k',k = k' + 1 := ⟨k - 1,by omega⟩
            have HK := hidMk hk'
            clear hk'
            have c0 := HS.out.tg.at_ 0 (.int .i64 t.p1) rfl; have c1 := HS.out.tg.at_ 1 (.int .i64 t.p2) rfl; have c2 := HS.out.tg.at_ 2 (.int .i64 t.t1) rfl; have c3 := HS.out.tg.at_ 3 (.int .i64 t.t2) rfl; have c4 := HS.out.tg.at_ 4 (.int .i64 t.r1) rfl; have c5 := HS.out.tg.at_ 5 (.int .i64 t.r2) rfl
            go_wp2_with (refine wpList_load_row rfl 30 _ rfl g3 rfl _ (jobC G (.slice sa sn sc)) _ _ HS.out.ns.job Try.underlying30 rfl szJob ?_)
            clear c0 c1 c2 c3 c4 c5
            have h12 : i = 1 ∨ i = 2 := by omega
            have hc := HM.out k' HK.out t i wr h12 (by rw [← HK.out]; exact HT.out) HS.out.ns.rg
            rw [← HK.out] at hc
            refine hc.mono ?_
            clear hc
            rintro e w8 ⟨rfl,hb8⟩
            have HS8 := hidMk (HS.out.next hb8)
            clear hb8 HS
            obtain ⟨b,hb⟩ : ∃ b,b = makesB G k' t i := ⟨_,rfl⟩
            rw [← hb]
            have HV := hidMk hb
            clear hb
            cases b with
            | true =>
              go_wp2_with fail
              go_ret
              have e : knowsB G k t = true := by
                rw [HK.out,knowsB_succ]
                rcases h12 with rfl | rfl
                · rw [← HV.out]; simp
                · rw [← HV.out]; simp
              exact ⟨by rw [e]; rfl,HS8.out.ns.b0⟩
            | false =>
              go_wp2_with fail
              go_roundw
              case rel =>
                refine ⟨i + 1,by go_num,by omega,by omega,hidMk ?_,HS8.out⟩
                intro q hq x h1 h2
                have : q = k' := by have := HK.out; omega
                subst this
                by_cases hx : x < i
                · exact HA.out q hq x h1 hx
                · have : x = i := by omega
                  rw [this]; exact HV.out.symm
              case measure => simp [intOf]; omega
          · have d2 : decide ((0 : Int) < (k : Int)) = false := decide_eq_false (by omega)
            go_wp2_with fail
            rw [knrest3_eq]
            go_wp2_with fail
            go_ret
            have e : knowsB G k t = false := by
              obtain rfl : k = 0 := by omega
              exact HIW.out.symm
            exact ⟨by rw [e]; rfl,HS.out.ns.b0⟩
        · have d1 : decide (i ≤ 2) = false := decide_eq_false hi
          go_wp2_with fail
          rw [knrest3_eq]
          go_wp2_with fail
          go_ret
          have e : knowsB G k t = false := by
            cases k with
            | zero => exact HIW.out.symm
            | succ k => rw [knowsB_succ,← HIW.out,HA.out k rfl 1 (by omega) (by omega),HA.out k rfl 2 (by omega) (by omega)]; rfl
          exact ⟨by rw [e]; rfl,HS.out.ns.b0⟩
  have hS := HS.out.drew
  refine wp_region_held_drew (S := (fun w' => KS G t sa sn sc w g3 g4 w')) (by kernel_rfl) hS (fun hS0 => ?_)
  generalize hWd : w1.drew = wd at hS0 hS ⊢
  clear hWd
  refine wpAnyH_take (i := 0) (oi := ⟨some 8,.fieldAddr 25 (.tmp 4) 0,0,"game.go:7",#[],none⟩) (v := ?_) rfl (by kernel_rfl) (by kernel_rfl) (by kernel_rfl) (fun _ _ _ h => by cases h.1) (.inl ⟨by rfl,?_⟩) (by assumption) ?_
  rotate_left
  · (intro w' hSw; (try dsimp only at hSw); skip; go_simp <;> with_reducible rfl)
  (try simp only [Act.put,aT,aZ,aS])
  refine wpAnyH_take (i := 1) (oi := ⟨some 9,.load 23 (.tmp 8),23,"game.go:7",#[⟨0,.data⟩],none⟩) (v := ?_) rfl (by kernel_rfl) (by kernel_rfl) (by kernel_rfl) (fun _ _ _ h => by cases h.1) (.inl ⟨by rfl,?_⟩) (by assumption) ?_
  rotate_left
  · (intro w' hSw; (try dsimp only at hSw); (have c0 := hSw.tg.at_ 0 (.int .i64 t.p1) rfl; have c1 := hSw.tg.at_ 1 (.int .i64 t.p2) rfl); go_simp <;> with_reducible rfl)
  (try simp only [Act.put,aT,aZ,aS])
  refine wpAnyH_take (i := 2) (oi := ⟨some 10,.load 30 (.tmp 3),30,"game.go:7",#[],none⟩) rfl (by kernel_rfl) (by kernel_rfl) (by kernel_rfl) (fun _ _ _ h => by cases h.1) (yields_row (by rfl) 30 _ rfl g3 (jobC G (.slice sa sn sc)) rfl 30 (fun w' hw => hw.ns.job) Try.underlying30 szJob) (by assumption) ?_
  (try simp only [Act.put,aT,aZ,aS])
  refine wpAnyH_ready (rs := [3]) (by kernel_rfl) (by simp) ?_
  refine AllReadyH.cons (o := ⟨some 11,.call { callee := .value (.func 52),args := #[.tmp 10],argTypes := #[30] },23,"game.go:7",#[⟨2,.data⟩],none⟩) rfl (fun K hK => ?_) ?_
  · go_simp
    go_at_call 52
    refine (refWindow0_any G HJ.out sa sn sc _ HN.out hS.ns.rg).mono ?_
    rintro e w2 ⟨rfl,hb2⟩
    have hS_ := hS.next hb2
    clear hS hb2
    have hS := hS_
    clear hS_
    go_wp2_with fail
    refine hK.out _ _ hS (fun _ => ?_)
    clear hK K
    (try simp only [Act.put,aT,aZ,aS])
    refine wpAnyH_ready (rs := [4]) (by kernel_rfl) (by simp) ?_
    refine AllReadyH.cons (o := ⟨some 12,.call { callee := .value (.func 51),args := #[.tmp 9,.tmp 11],argTypes := #[23,23] },4,"game.go:7",#[⟨1,.data⟩,⟨3,.data⟩,⟨3,.chain⟩],none⟩) rfl (fun K hK => ?_) ?_
    · go_simp
      go_at_call 51
      refine (inside_any _ _ _ _ _).mono ?_
      rintro e w2 ⟨he,hb2⟩
      have he2 : e = .returned (.bool iw) := he.trans (by rw [HIW.out]; rfl)
      clear he
      subst he2
      have hS_ := hS.next hb2
      clear hS hb2
      have hS := hS_
      clear hS_
      go_wp2_with fail
      refine hK.out _ _ hS (fun _ => ?_)
      clear hK K
      (try simp only [Act.put,aT,aZ,aS])
      refine wpAnyH_done (by kernel_rfl) ?_ _
      exact ⟨rfl,_,_,_,_,rfl,hS⟩
    exact AllReadyH.nil
  exact AllReadyH.nil
/-- The reference's game, on a job within bounds. -/
theorem game_all {G : Jb} {sa : Option Addr} {sn sc : Nat} (hn : sn = G.sh.length) (hJ : G.In 200) (hu : G.u1 ≤ G.u2 ∧ G.d1 ≤ G.d2) (hme : 0 ≤ G.me ∧ G.me ≤ 6) : ∀ k : Nat,k ≤ 4 → KNc G sa sn sc k ∧ RDc G sa sn sc k
  | 0,_ =>
    have a := knows_of (k := 0) (sa := sa) (sc := sc) (by omega) hn hJ (fun k' e => by cases e)
    ⟨a,reads_of (by omega) hme a⟩
  | k + 1,hk =>
    have b := (game_all hn hJ hu hme k (by omega)).2
    have a := knows_of (k := k + 1) (sa := sa) (sc := sc) hk hn hJ (fun k' e => by obtain rfl : k = k' := by omega
                                                                                   exact makes_of (by omega) hJ hu b)
    ⟨a,reads_of hk hme a⟩
end Go.Proofs.Ytadmcafbffjjbaa
/- The reference of the game: guided, Guided. -/
namespace Go.Proofs.Ytadmcafbffjjbaa
set_option linter.all false
open Go.RowKit
noncomputable def gubody : Code := Try.f50.body.getD .skip
noncomputable def gurest1 : Code := sndB gubody
noncomputable def gurest2 : Code := sndB gurest1
set_option maxRecDepth 1000000 in
theorem gubody_eq : gubody = .seq (Code.region 0 #[⟨some 1,.box 30 (.tmp 0),0,"game.go:37",#[],none⟩,⟨some 2,.assign (.const (.int .i64 0)),3,"game.go:37",#[],none⟩] false) gurest1 := by kernel_rfl
set_option maxRecDepth 1000000 in
theorem gurest1_eq : gurest1 = .seq (.seq (Code.region 1 #[⟨some 3,.assign (.const (.int .i64 0)),3,"game.go:38",#[],none⟩] false) (.block 0 (.loop (.seq (.seq (Code.region 2 #[⟨some 4,.move (.tmp 3),3,"game.go:38",#[],none⟩,⟨some 5,.binOp .leq 3 (.tmp 4) (.const (.int .i64 4)) 3,4,"game.go:38",#[⟨0,.data⟩],none⟩] false) (.cond (.tmp 5) .skip (.exit 0))) (.seq (.block 1 (.seq (Code.region 4 #[⟨some 8,.load 30 (.tmp 1),30,"game.go:39",#[],none⟩,⟨some 9,.fieldAddr 30 (.tmp 1) 0,0,"game.go:39",#[],none⟩,⟨some 10,.load 25 (.tmp 9),25,"game.go:39",#[⟨1,.data⟩],none⟩,⟨some 11,.move (.tmp 3),3,"game.go:39",#[],none⟩,⟨some 12,.call { callee := .value (.func 80),args := #[.tmp 8,.tmp 10,.tmp 11],argTypes := #[30,25,3] },4,"game.go:39",#[⟨0,.data⟩,⟨2,.data⟩,⟨3,.data⟩],none⟩] false) (.cond (.tmp 12) (.seq (Code.region 5 #[⟨some 13,.move (.tmp 3),3,"game.go:40",#[],none⟩,⟨some 2,.assign (.tmp 13),3,"game.go:40",#[⟨0,.data⟩,⟨0,.phase⟩],none⟩] false) .ret) .skip))) (Code.region 3 #[⟨some 6,.move (.tmp 3),3,"game.go:38",#[],none⟩,⟨some 7,.binOp .add 3 (.tmp 6) (.const (.int .i64 1)) 3,3,"game.go:38",#[⟨0,.data⟩],none⟩,⟨some 3,.assign (.tmp 7),3,"game.go:38",#[⟨1,.data⟩,⟨0,.phase⟩,⟨1,.phase⟩],none⟩] false)))))) gurest2 := by kernel_rfl
set_option maxRecDepth 1000000 in
theorem gurest2_eq : gurest2 = .seq (Code.region 6 #[⟨some 2,.assign (.const (.int .i64 (-1))),3,"game.go:43",#[],none⟩] false) .ret := by kernel_rfl

def QGU (G : Jb) (w0 : World) : Exit → Act → World → Prop := bodyPost Try.prog Try.f50 fun e w' => e = .returned (.int .i64 (rguide G)) ∧ Below w0.heap.size w0 w'
/-- The reference's game, on a valid job. -/
theorem game_ok {G : Jb} {sa : Option Addr} {sn sc : Nat} (hc : G.check = 0) (hn : sn = G.sh.length) (k : Nat) (hk : k ≤ 4) : KNc G sa sn sc k ∧ RDc G sa sn sc k :=
  game_all hn ((check_ok hc).inn.mono (by decide)) ⟨(check_ok hc).u,(check_ok hc).d⟩ (check_me hc) k hk
theorem tg_le4 {G : Jb} (hc : G.check = 0) (k : Nat) (hk : k ≤ 4) : TgIn k G.tg := ⟨(tg_in4 (check_ok hc)).1.mono (by push_cast; omega),(tg_in4 (check_ok hc)).2⟩
theorem make_ok {G : Jb} {sa : Option Addr} {sn sc : Nat} (hc : G.check = 0) (hn : sn = G.sh.length) (k : Nat) (hk : k ≤ 3) : MKc G sa sn sc k :=
  makes_of hk ((check_ok hc).inn.mono (by decide)) ⟨(check_ok hc).u,(check_ok hc).d⟩ (game_ok hc hn k (by omega)).2
set_option maxHeartbeats 4000000 in
set_option maxRecDepth 1000000 in
theorem rguided_any {G : Jb} {sa : Option Addr} {sn sc : Nat} (hc : G.check = 0) (hn : sn = G.sh.length) (w : World) (hrg : Rg w w.heap.size sa G.sh) :
    Calls Try.prog 50 #[.agg (jobC G (.slice sa sn sc))] w fun e w' => e = .returned (.int .i64 (rguide G)) ∧ Below w.heap.size w w' := by
  have HC := hidMk hc
  clear hc
  have q0 : Below w.heap.size w (w.alloc (.cells (jobC G (.slice sa sn sc)) 30)) := (Below.refl _ _).alloc (Nat.le_refl _) _
  have hs : NS G sa sn sc w w.heap.size (w.alloc (.cells (jobC G (.slice sa sn sc)) 30)) := ⟨q0,Bk.new _ _ _,hrg.below q0⟩
  have HS := hidMk hs
  have HN := hidMk hn
  clear q0 hs hrg hn
  go_enter Try.func50,Try.ntmps50
  show Code.wp Try.prog gubody (QGU G w) _ _
  rw [gubody_eq]
  go_wp2_with fail
  generalize hG3 : w.heap.size = g3 at HS ⊢
  generalize hW1 : (w.alloc (.cells (jobC G (.slice sa sn sc)) 30)) = w1 at HS ⊢
  clear hG3 hW1
  rw [gurest1_eq]
  refine wp_seq_k fun K2 hK2 => ?_
  go_wp2_with fail
  generalize hV : w1 = wz at HS ⊢
  clear hV
  have hSz := HS.out
  clear HS
  go_loopw [3] (fun rv wr => ∃ (i : Nat),rv = .int .i64 i ∧ i ≤ 5 ∧ Hid (∀ q,q < i → readsB G q G.tg = false) ∧ NS G sa sn sc w g3 wr) (fun rv _ => (5 - intOf rv).toNat)
  case atStart => exact ⟨0,rfl,by omega,hidMk (fun q h => by omega),hSz⟩
  case round =>
    clear hSz
    obtain ⟨i,rfl,hi5,HA,hS⟩ := hrel
    have HS := hidMk hS
    clear hS
    by_cases hi : i ≤ 4
    · have d1 : decide ((i : Int) ≤ 4) = true := decide_eq_true (by omega)
      have c0 := HS.out.job.at_ 0 (.int .i64 G.p1) rfl; have c1 := HS.out.job.at_ 1 (.int .i64 G.p2) rfl; have c2 := HS.out.job.at_ 2 (.int .i64 G.t1) rfl; have c3 := HS.out.job.at_ 3 (.int .i64 G.t2) rfl; have c4 := HS.out.job.at_ 4 (.int .i64 G.r1) rfl; have c5 := HS.out.job.at_ 5 (.int .i64 G.r2) rfl
      go_wp2_with (refine wpList_load_row rfl 30 _ rfl g3 rfl _ (jobC G (.slice sa sn sc)) _ _ HS.out.job Try.underlying30 rfl szJob ?_)
      clear c0 c1 c2 c3 c4 c5
      show Calls Try.prog 80 #[.agg (jobC G (.slice sa sn sc)),.agg (tgV G.tg),.int .i64 (i : Int)] _ _
      refine ((game_ok (sa := sa) (sc := sc) HC.out HN.out i hi).2 G.tg _ (tg_le4 HC.out i hi) HS.out.rg).mono ?_
      rintro e w8 ⟨rfl,hb8⟩
      have HS8 := hidMk (HS.out.next hb8)
      clear hb8 HS
      have HG := hidMk (reads_guide (check_full HC.out) i hi)
      obtain ⟨b,hb⟩ : ∃ b,b = readsB G i G.tg := ⟨_,rfl⟩
      rw [← hb]
      rw [← hb] at HG
      have HV := hidMk hb
      clear hb
      cases b with
      | true =>
        go_wp2_with fail
        go_ret
        have e : rguide G = i := by
          have h1 := HG.out.1 (by trivial)
          have h2 : ¬ guideI G < i := by
            intro h
            have h3 := guide_nn G
            have h4 := (reads_guide (check_full HC.out) (i - 1) (by omega)).2 (by omega)
            rw [HA.out (i - 1) (by omega)] at h4
            cases h4
          unfold rguide
          rw [if_neg (by omega)]
          omega
        exact ⟨by rw [e]; rfl,HS8.out.b0⟩
      | false =>
        go_wp2_with fail
        go_roundw
        case rel =>
          refine ⟨i + 1,by go_num,by omega,hidMk ?_,HS8.out⟩
          intro q hq
          by_cases hx : q < i
          · exact HA.out q hx
          · have : q = i := by omega
            rw [this]; exact HV.out.symm
        case measure => simp [intOf]; omega
    · have d1 : decide ((i : Int) ≤ 4) = false := decide_eq_false (by omega)
      go_wp2_with fail
      rw [gurest2_eq]
      go_wp2_with fail
      go_ret
      have e : rguide G = -1 := by
        have h1 := guide_top G
        have h4 : ¬ guideI G ≤ (4 : Nat) := by
          intro h
          have h4 := (reads_guide (check_full HC.out) 4 (by omega)).2 h
          rw [HA.out 4 (by omega)] at h4
          cases h4
        unfold rguide
        rw [if_pos (by omega)]
      exact ⟨by rw [e]; rfl,HS.out.b0⟩
noncomputable def rgbody : Code := Try.f13.body.getD .skip
noncomputable def rgrest1 : Code := sndB rgbody
noncomputable def rgrest2 : Code := sndB rgrest1
noncomputable def rgrest3 : Code := sndB rgrest2
noncomputable def rgrest4 : Code := sndB rgrest3
set_option maxRecDepth 1000000 in
theorem rgbody_eq : rgbody = .seq (Code.region 0 #[⟨some 1,.box 30 (.tmp 0),0,"game.go:47",#[],none⟩,⟨some 2,.assign (.const (.int .i64 0)),3,"game.go:47",#[],none⟩,⟨some 3,.assign (.const (.int .i64 0)),39,"game.go:47",#[⟨1,.chain⟩],none⟩] false) rgrest1 := by kernel_rfl
set_option maxRecDepth 1000000 in
theorem rgrest1_eq : rgrest1 = .seq (.seq (Code.region 1 #[⟨some 6,.load 30 (.tmp 1),30,"game.go:48",#[],none⟩,⟨some 7,.call { callee := .value (.func 39),args := #[.tmp 6],argTypes := #[30] },39,"game.go:48",#[⟨0,.data⟩],none⟩,⟨some 4,.assign (.tmp 7),39,"game.go:48",#[⟨1,.data⟩,⟨1,.chain⟩,⟨0,.phase⟩,⟨1,.phase⟩],none⟩] false) (.seq (Code.region 2 #[⟨some 8,.move (.tmp 4),39,"game.go:48",#[],none⟩,⟨some 9,.binOp .neq 39 (.tmp 8) (.const (.int .i64 0)) 39,4,"game.go:48",#[⟨0,.data⟩],none⟩] false) (.cond (.tmp 9) (.seq (Code.region 3 #[⟨some 10,.move (.tmp 4),39,"game.go:49",#[⟨1,.gcOnly .lateStores⟩],none⟩,⟨some 2,.assign (.const (.int .i64 0)),3,"game.go:49",#[⟨0,.textOnly .lateStores⟩],none⟩,⟨some 3,.assign (.tmp 10),39,"game.go:49",#[⟨0,.data⟩,⟨1,.chain⟩,⟨0,.phase⟩,⟨1,.phase⟩],none⟩] false) .ret) .skip))) rgrest2 := by kernel_rfl
set_option maxRecDepth 1000000 in
theorem rgrest2_eq : rgrest2 = .seq (Code.region 4 #[⟨some 11,.load 30 (.tmp 1),30,"game.go:51",#[],none⟩,⟨some 12,.call { callee := .value (.func 50),args := #[.tmp 11],argTypes := #[30] },3,"game.go:51",#[⟨0,.data⟩],none⟩,⟨some 5,.assign (.tmp 12),3,"game.go:51",#[⟨1,.data⟩,⟨1,.chain⟩,⟨0,.phase⟩,⟨1,.phase⟩],none⟩] false) rgrest3 := by kernel_rfl
set_option maxRecDepth 1000000 in
theorem rgrest3_eq : rgrest3 = .seq (.seq (Code.region 5 #[⟨some 13,.move (.tmp 5),3,"game.go:52",#[],none⟩,⟨some 14,.binOp .lss 3 (.tmp 13) (.const (.int .i64 0)) 3,4,"game.go:52",#[⟨0,.data⟩],none⟩] false) (.cond (.tmp 14) (.seq (Code.region 6 #[⟨some 2,.assign (.const (.int .i64 0)),3,"game.go:53",#[],none⟩,⟨some 3,.assign (.const (.int .i64 11)),39,"game.go:53",#[⟨0,.chain⟩,⟨0,.phase⟩],none⟩] false) .ret) .skip)) rgrest4 := by kernel_rfl
set_option maxRecDepth 1000000 in
theorem rgrest4_eq : rgrest4 = .seq (Code.region 7 #[⟨some 15,.move (.tmp 5),3,"game.go:55",#[],none⟩,⟨some 2,.assign (.tmp 15),3,"game.go:55",#[⟨0,.data⟩,⟨0,.phase⟩],none⟩,⟨some 3,.assign (.const (.int .i64 0)),39,"game.go:55",#[⟨1,.chain⟩,⟨0,.phase⟩,⟨1,.phase⟩],none⟩] false) .ret := by kernel_rfl

def QRG (G : Jb) (w0 : World) : Exit → Act → World → Prop := bodyPost Try.prog Try.f13 fun e w' => e = .returned (.tuple #[.int .i64 (guidedI G).1,.int .i64 (guidedI G).2]) ∧ Below w0.heap.size w0 w'
set_option maxHeartbeats 4000000 in
set_option maxRecDepth 1000000 in
theorem refGuided_any {G : Jb} {sa : Option Addr} {sn sc : Nat} (hn : sn = G.sh.length) (hm : sn ≤ 9223372036854775807) (w : World) (hrg : Rg w w.heap.size sa G.sh) :
    Calls Try.prog 13 #[.agg (jobC G (.slice sa sn sc))] w fun e w' => e = .returned (.tuple #[.int .i64 (guidedI G).1,.int .i64 (guidedI G).2]) ∧ Below w.heap.size w w' := by
  have q0 : Below w.heap.size w (w.alloc (.cells (jobC G (.slice sa sn sc)) 30)) := (Below.refl _ _).alloc (Nat.le_refl _) _
  have hs : NS G sa sn sc w w.heap.size (w.alloc (.cells (jobC G (.slice sa sn sc)) 30)) := ⟨q0,Bk.new _ _ _,hrg.below q0⟩
  have HS := hidMk hs
  have HN := hidMk hn
  clear q0 hs hrg hn
  go_enter Try.func13,Try.ntmps13
  show Code.wp Try.prog rgbody (QRG G w) _ _
  rw [rgbody_eq]
  go_wp2_with fail
  generalize hG3 : w.heap.size = g3 at HS ⊢
  generalize hW1 : (w.alloc (.cells (jobC G (.slice sa sn sc)) 30)) = w1 at HS ⊢
  clear hG3 hW1
  rw [rgrest1_eq]
  go_wp2_with (refine wpList_load_row rfl 30 _ rfl g3 rfl _ (jobC G (.slice sa sn sc)) _ _ HS.out.job Try.underlying30 rfl szJob ?_)
  refine (refCheck_any G sa sn sc _ HN.out hm HS.out.rg).mono ?_
  rintro e w5 ⟨rfl,hb5⟩
  have HS5 := hidMk (HS.out.next hb5)
  clear hb5 HS
  by_cases hc : G.check = 0
  · have hb0 : (G.check != 0) = false := by simp [hc]
    have HC := hidMk hc
    clear hc
    go_wp2_with fail
    rw [rgrest2_eq]
    go_wp2_with (refine wpList_load_row rfl 30 _ rfl g3 rfl _ (jobC G (.slice sa sn sc)) _ _ HS5.out.job Try.underlying30 rfl szJob ?_)
    refine (rguided_any HC.out HN.out _ HS5.out.rg).mono ?_
    rintro e w6 ⟨rfl,hb6⟩
    have HS6 := hidMk (HS5.out.next hb6)
    clear hb6 HS5
    have HE : Hid (guidedI G = if guideI G = 5 then (0,11) else (guideI G,0)) := hidMk (by unfold guidedI; rw [if_pos HC.out])
    have HNN := hidMk (guide_nn G)
    by_cases h5 : guideI G = 5
    · have e : rguide G = -1 := by unfold rguide; rw [if_pos h5]
      rw [e]
      have HE2 : Hid (guidedI G = (0,11)) := hidMk (by rw [HE.out,if_pos h5])
      clear e h5 HE
      go_wp2_with fail
      rw [rgrest3_eq]
      go_wp2_with fail
      go_ret2
      exact ⟨by rw [HE2.out]; rfl,HS6.out.b0⟩
    · have e : rguide G = guideI G := by unfold rguide; rw [if_neg h5]
      rw [e]
      have HE2 : Hid (guidedI G = (guideI G,0)) := hidMk (by rw [HE.out,if_neg h5])
      have d1 : decide (guideI G < 0) = false := decide_eq_false (by have := HNN.out; omega)
      clear e h5 HE
      go_wp2_with fail
      rw [rgrest3_eq]
      go_wp2_with fail
      rw [rgrest4_eq]
      go_wp2_with fail
      go_ret2
      exact ⟨by rw [HE2.out]; rfl,HS6.out.b0⟩
  · have hb0 : (G.check != 0) = true := by simpa using hc
    have HE2 : Hid (guidedI G = (0,G.check)) := hidMk (by unfold guidedI; rw [if_neg hc])
    clear hc
    go_wp2_with fail
    go_ret2
    exact ⟨by rw [HE2.out]; rfl,HS5.out.b0⟩
end Go.Proofs.Ytadmcafbffjjbaa
/- The reference of the game: Next. -/
namespace Go.Proofs.Ytadmcafbffjjbaa
set_option linter.all false
open Go.RowKit Go.Shelf
noncomputable def rnbody : Code := Try.f15.body.getD .skip
noncomputable def rnrest1 : Code := sndB rnbody
noncomputable def rnrest2 : Code := sndB rnrest1
noncomputable def rnrest3 : Code := sndB rnrest2
noncomputable def rnrest4 : Code := sndB rnrest3
set_option maxRecDepth 1000000 in
theorem rnbody_eq : rnbody = .seq (Code.region 0 #[⟨some 1,.box 30 (.tmp 0),0,"game.go:59",#[],none⟩,⟨some 2,.assign (.const (.int .i64 0)),3,"game.go:59",#[],none⟩,⟨some 3,.assign (.const (.int .i64 0)),3,"game.go:59",#[⟨1,.chain⟩],none⟩,⟨some 4,.assign (.const (.int .i64 0)),39,"game.go:59",#[⟨2,.chain⟩],none⟩] false) rnrest1 := by kernel_rfl
set_option maxRecDepth 1000000 in
theorem rnrest1_eq : rnrest1 = .seq (.seq (Code.region 1 #[⟨some 8,.load 30 (.tmp 1),30,"game.go:60",#[],none⟩,⟨some 9,.call { callee := .value (.func 39),args := #[.tmp 8],argTypes := #[30] },39,"game.go:60",#[⟨0,.data⟩],none⟩,⟨some 5,.assign (.tmp 9),39,"game.go:60",#[⟨1,.data⟩,⟨1,.chain⟩,⟨0,.phase⟩,⟨1,.phase⟩],none⟩] false) (.seq (Code.region 2 #[⟨some 10,.move (.tmp 5),39,"game.go:60",#[],none⟩,⟨some 11,.binOp .neq 39 (.tmp 10) (.const (.int .i64 0)) 39,4,"game.go:60",#[⟨0,.data⟩],none⟩] false) (.cond (.tmp 11) (.seq (Code.region 3 #[⟨some 12,.move (.tmp 5),39,"game.go:61",#[⟨2,.gcOnly .lateStores⟩],none⟩,⟨some 2,.assign (.const (.int .i64 0)),3,"game.go:61",#[⟨0,.textOnly .lateStores⟩],none⟩,⟨some 3,.assign (.const (.int .i64 0)),3,"game.go:61",#[⟨1,.chain⟩,⟨0,.textOnly .lateStores⟩,⟨1,.phase⟩],none⟩,⟨some 4,.assign (.tmp 12),39,"game.go:61",#[⟨0,.data⟩,⟨2,.chain⟩,⟨0,.phase⟩,⟨1,.phase⟩,⟨2,.phase⟩],none⟩] false) .ret) .skip))) rnrest2 := by kernel_rfl
set_option maxRecDepth 1000000 in
theorem rnrest2_eq : rnrest2 = .seq (.seq (Code.region 4 #[⟨some 13,.fieldAddr 30 (.tmp 1) 0,0,"game.go:63",#[],none⟩,⟨some 14,.fieldAddr 25 (.tmp 13) 0,0,"game.go:63",#[⟨0,.data⟩],none⟩,⟨some 15,.load 23 (.tmp 14),23,"game.go:63",#[⟨1,.data⟩],none⟩,⟨some 16,.load 30 (.tmp 1),30,"game.go:63",#[],none⟩,⟨some 17,.call { callee := .value (.func 52),args := #[.tmp 16],argTypes := #[30] },23,"game.go:63",#[⟨3,.data⟩],none⟩,⟨some 18,.call { callee := .value (.func 51),args := #[.tmp 15,.tmp 17],argTypes := #[23,23] },4,"game.go:63",#[⟨2,.data⟩,⟨4,.data⟩,⟨4,.chain⟩],none⟩] true) (.cond (.tmp 18) (.seq (Code.region 5 #[⟨some 2,.assign (.const (.int .i64 0)),3,"game.go:64",#[],none⟩,⟨some 3,.assign (.const (.int .i64 0)),3,"game.go:64",#[⟨0,.chain⟩,⟨0,.phase⟩],none⟩,⟨some 4,.assign (.const (.int .i64 0)),39,"game.go:64",#[⟨1,.chain⟩,⟨0,.phase⟩,⟨1,.phase⟩],none⟩] false) .ret) .skip)) rnrest3 := by kernel_rfl
set_option maxRecDepth 1000000 in
theorem rnrest3_eq : rnrest3 = .seq (.seq (Code.region 6 #[⟨some 6,.assign (.const (.int .i64 1)),3,"game.go:66",#[],none⟩] false) (.block 0 (.loop (.seq (.seq (Code.region 7 #[⟨some 19,.move (.tmp 6),3,"game.go:66",#[],none⟩,⟨some 20,.binOp .leq 3 (.tmp 19) (.const (.int .i64 4)) 3,4,"game.go:66",#[⟨0,.data⟩],none⟩] false) (.cond (.tmp 20) .skip (.exit 0))) (.seq (.block 1 (.seq (Code.region 9 #[⟨some 7,.assign (.const (.int .i64 1)),3,"game.go:67",#[],none⟩] false) (.block 2 (.loop (.seq (.seq (Code.region 10 #[⟨some 23,.move (.tmp 7),3,"game.go:67",#[],none⟩,⟨some 24,.binOp .leq 3 (.tmp 23) (.const (.int .i64 2)) 3,4,"game.go:67",#[⟨0,.data⟩],none⟩] false) (.cond (.tmp 24) .skip (.exit 2))) (.seq (.block 3 (.seq (Code.region 12 #[⟨some 27,.load 30 (.tmp 1),30,"game.go:68",#[],none⟩,⟨some 28,.fieldAddr 30 (.tmp 1) 0,0,"game.go:68",#[],none⟩,⟨some 29,.load 25 (.tmp 28),25,"game.go:68",#[⟨1,.data⟩],none⟩,⟨some 30,.move (.tmp 7),3,"game.go:68",#[],none⟩,⟨some 31,.move (.tmp 6),3,"game.go:68",#[],none⟩,⟨some 32,.call { callee := .value (.func 53),args := #[.tmp 27,.tmp 29,.tmp 30,.tmp 31],argTypes := #[30,25,3,3] },4,"game.go:68",#[⟨0,.data⟩,⟨2,.data⟩,⟨3,.data⟩,⟨4,.data⟩],none⟩] false) (.cond (.tmp 32) (.seq (Code.region 13 #[⟨some 33,.move (.tmp 7),3,"game.go:69",#[],none⟩,⟨some 34,.move (.tmp 6),3,"game.go:69",#[⟨2,.gcOnly .lateStores⟩],none⟩,⟨some 2,.assign (.tmp 33),3,"game.go:69",#[⟨0,.data⟩,⟨0,.phase⟩,⟨1,.textOnly .lateStores⟩],none⟩,⟨some 3,.assign (.tmp 34),3,"game.go:69",#[⟨1,.data⟩,⟨2,.chain⟩,⟨0,.phase⟩,⟨1,.phase⟩,⟨2,.phase⟩],none⟩,⟨some 4,.assign (.const (.int .i64 0)),39,"game.go:69",#[⟨3,.chain⟩,⟨0,.phase⟩,⟨1,.phase⟩,⟨2,.phase⟩,⟨3,.phase⟩],none⟩] false) .ret) .skip))) (Code.region 11 #[⟨some 25,.move (.tmp 7),3,"game.go:67",#[],none⟩,⟨some 26,.binOp .add 3 (.tmp 25) (.const (.int .i64 1)) 3,3,"game.go:67",#[⟨0,.data⟩],none⟩,⟨some 7,.assign (.tmp 26),3,"game.go:67",#[⟨1,.data⟩,⟨0,.phase⟩,⟨1,.phase⟩],none⟩] false))))))) (Code.region 8 #[⟨some 21,.move (.tmp 6),3,"game.go:66",#[],none⟩,⟨some 22,.binOp .add 3 (.tmp 21) (.const (.int .i64 1)) 3,3,"game.go:66",#[⟨0,.data⟩],none⟩,⟨some 6,.assign (.tmp 22),3,"game.go:66",#[⟨1,.data⟩,⟨0,.phase⟩,⟨1,.phase⟩],none⟩] false)))))) rnrest4 := by kernel_rfl
set_option maxRecDepth 1000000 in
theorem rnrest4_eq : rnrest4 = .seq (Code.region 14 #[⟨some 2,.assign (.const (.int .i64 0)),3,"game.go:73",#[],none⟩,⟨some 3,.assign (.const (.int .i64 0)),3,"game.go:73",#[⟨0,.chain⟩,⟨0,.phase⟩],none⟩,⟨some 4,.assign (.const (.int .i64 11)),39,"game.go:73",#[⟨1,.chain⟩,⟨0,.phase⟩,⟨1,.phase⟩],none⟩] false) .ret := by kernel_rfl

def QRN (G : Jb) (w0 : World) : Exit → Act → World → Prop := bodyPost Try.prog Try.f15 fun e w' => e = .returned (.tuple #[.int .i64 (nextI G).1,.int .i64 (nextI G).2.1,.int .i64 (nextI G).2.2]) ∧ Below w0.heap.size w0 w'
theorem next_in {J : Jb} (h : J.check = 0) (hw : inW J J.tg = true) : nextI J = (0,0,0) := by
  have c : (win J.wi J.sh).1 ≤ J.tg.p1 ∧ J.tg.p2 ≤ (win J.wi J.sh).2 := of_decide_eq_true hw
  have hn : nextI J = if (bestM J 4 J.tg).2 = 5 then (0,0,11) else ((bestM J 4 J.tg).1,(bestM J 4 J.tg).2,0) := by unfold nextI; rw [if_pos h]
  rw [hn,best_in c]
  rfl
set_option maxHeartbeats 4000000 in
set_option maxRecDepth 1000000 in
theorem refNext_any {G : Jb} {sa : Option Addr} {sn sc : Nat} (hn : sn = G.sh.length) (hm : sn ≤ 9223372036854775807) (w : World) (hrg : Rg w w.heap.size sa G.sh) :
    Calls Try.prog 15 #[.agg (jobC G (.slice sa sn sc))] w fun e w' => e = .returned (.tuple #[.int .i64 (nextI G).1,.int .i64 (nextI G).2.1,.int .i64 (nextI G).2.2]) ∧ Below w.heap.size w w' := by
  have q0 : Below w.heap.size w (w.alloc (.cells (jobC G (.slice sa sn sc)) 30)) := (Below.refl _ _).alloc (Nat.le_refl _) _
  have hs : NS G sa sn sc w w.heap.size (w.alloc (.cells (jobC G (.slice sa sn sc)) 30)) := ⟨q0,Bk.new _ _ _,hrg.below q0⟩
  have HS := hidMk hs
  have HN := hidMk hn
  clear q0 hs hrg hn
  go_enter Try.func15,Try.ntmps15
  show Code.wp Try.prog rnbody (QRN G w) _ _
  rw [rnbody_eq]
  go_wp2_with fail
  generalize hG3 : w.heap.size = g3 at HS ⊢
  generalize hW1 : (w.alloc (.cells (jobC G (.slice sa sn sc)) 30)) = w1 at HS ⊢
  clear hG3 hW1
  rw [rnrest1_eq]
  go_wp2_with (refine wpList_load_row rfl 30 _ rfl g3 rfl _ (jobC G (.slice sa sn sc)) _ _ HS.out.job Try.underlying30 rfl szJob ?_)
  refine (refCheck_any G sa sn sc _ HN.out hm HS.out.rg).mono ?_
  rintro e w5 ⟨rfl,hb5⟩
  have HS5 := hidMk (HS.out.next hb5)
  clear hb5 HS
  by_cases hc : G.check = 0
  · have hb0 : (G.check != 0) = false := by simp [hc]
    have HC := hidMk hc
    have HJ : Hid (G.In 200) := hidMk ((check_ok hc).inn.mono (by decide))
    clear hc
    obtain ⟨iw,hiw⟩ : ∃ b,b = inW G G.tg := ⟨_,rfl⟩
    have HIW := hidMk hiw
    clear hiw
    go_wp2_with fail
    rw [rnrest2_eq]
    refine wp_seq_k fun K0 hK0 => ?_
    refine wp_seq_k fun K1 hK1 => ?_
    refine region_via (R := fun a e a' w' => e = .normal ∧ ∃ (v13 v14 v15 v16 v17 : Value),a' = ((((((a.put (some 13) v13).put (some 14) v14).put (some 15) v15).put (some 16) v16).put (some 17) v17).put (some 18) (.bool iw)) ∧ NS G sa sn sc w g3 w') ?_ ?_
    rotate_left
    · rintro e a' w2 ⟨rfl,v13,v14,v15,v16,v17,rfl,hS2⟩
      clear HS5
      have HS := hidMk hS2
      clear hS2
      simp only [Act.put,aT,aZ,aS]
      refine hK1 _ _ ?_
      cases iw with
      | true =>
        go_wp2_with fail
        go_ret3
        have e := next_in HC.out HIW.out.symm
        exact ⟨by rw [e]; rfl,HS.out.b0⟩
      | false =>
        have HX := hidMk (next_ref HC.out HIW.out.symm)
        go_wp2_with fail
        rw [rnrest3_eq]
        refine wp_seq_k fun K2 hK2 => ?_
        go_wp2_with fail
        generalize hV : w2 = wz at HS ⊢
        clear hV
        have hSz := HS.out
        clear HS
        go_loopw [6] (fun rv wr => ∃ (n : Nat),rv = .int .i64 n ∧ 1 ≤ n ∧ n ≤ 5 ∧ Hid (∀ m : Nat,1 ≤ m → m < n → ∀ x : Int,(x = 1 ∨ x = 2) → makesB G (m - 1) G.tg x = false) ∧ NS G sa sn sc w g3 wr) (fun rv _ => (5 - intOf rv).toNat)
        case atStart => exact ⟨1,rfl,by omega,by omega,hidMk (fun m h1 h2 => by omega),hSz⟩
        case round =>
          clear hSz
          obtain ⟨n,rfl,hn1,hn5,HA,hS⟩ := hrel
          have HS := hidMk hS
          clear hS
          by_cases hi : n ≤ 4
          · have d1 : decide ((n : Int) ≤ 4) = true := decide_eq_true (by omega)
            go_wp2_with fail
            generalize hV : wr = wy at HS ⊢
            clear hV
            have hSz := HS.out
            clear HS
            go_loopw [7] (fun rv wr => ∃ (i : Int),rv = .int .i64 i ∧ 1 ≤ i ∧ i ≤ 3 ∧ Hid (∀ x : Int,1 ≤ x → x < i → makesB G (n - 1) G.tg x = false) ∧ NS G sa sn sc w g3 wr) (fun rv _ => (3 - intOf rv).toNat)
            case atStart => exact ⟨1,rfl,by omega,by omega,hidMk (fun x h1 h2 => by omega),hSz⟩
            case round =>
              clear hSz
              obtain ⟨i,rfl,hi1,hi3,HB,hS⟩ := hrel
              have HS := hidMk hS
              clear hS
              by_cases hi2 : i ≤ 2
              · have d2 : decide (i ≤ 2) = true := decide_eq_true hi2
                have h12 : i = 1 ∨ i = 2 := by omega
                have c0 := HS.out.job.at_ 0 (.int .i64 G.p1) rfl; have c1 := HS.out.job.at_ 1 (.int .i64 G.p2) rfl; have c2 := HS.out.job.at_ 2 (.int .i64 G.t1) rfl; have c3 := HS.out.job.at_ 3 (.int .i64 G.t2) rfl; have c4 := HS.out.job.at_ 4 (.int .i64 G.r1) rfl; have c5 := HS.out.job.at_ 5 (.int .i64 G.r2) rfl
                go_wp2_with (refine wpList_load_row rfl 30 _ rfl g3 rfl _ (jobC G (.slice sa sn sc)) _ _ HS.out.job Try.underlying30 rfl szJob ?_)
                clear c0 c1 c2 c3 c4 c5
                have hc := make_ok (sa := sa) (sc := sc) HC.out HN.out (n - 1) (by omega) G.tg i _ h12 (tg_le4 HC.out _ (by omega)) HS.out.rg
                have hnn : n - 1 + 1 = n := by omega
                rw [hnn] at hc
                refine hc.mono ?_
                clear hc hnn
                rintro e w8 ⟨rfl,hb8⟩
                have HS8 := hidMk (HS.out.next hb8)
                clear hb8 HS
                obtain ⟨b,hb⟩ : ∃ b,b = makesB G (n - 1) G.tg i := ⟨_,rfl⟩
                rw [← hb]
                have HV := hidMk hb
                clear hb
                cases b with
                | true =>
                  go_wp2_with fail
                  go_ret3
                  have e := HX.out.1 n hn1 hi i h12 HA.out (fun x h1 h2 => HB.out x (by omega) h2) HV.out.symm
                  exact ⟨by rw [e]; rfl,HS8.out.b0⟩
                | false =>
                  go_wp2_with fail
                  go_roundw
                  case rel =>
                    refine ⟨i + 1,by go_num,by omega,by omega,hidMk ?_,HS8.out⟩
                    intro x h1 h2
                    by_cases hx : x < i
                    · exact HB.out x h1 hx
                    · have : x = i := by omega
                      rw [this]; exact HV.out.symm
                  case measure => simp [intOf]; omega
              · have d2 : decide (i ≤ 2) = false := decide_eq_false hi2
                go_wp2_with fail
                go_roundw
                case rel =>
                  refine ⟨n + 1,by go_num,by omega,by omega,hidMk ?_,HS.out⟩
                  intro m h1 h2 x hx
                  by_cases hmn : m < n
                  · exact HA.out m h1 hmn x hx
                  · have : m = n := by omega
                    rw [this]; exact HB.out x (by omega) (by omega)
                case measure => simp [intOf]; omega
          · have d1 : decide ((n : Int) ≤ 4) = false := decide_eq_false (by omega)
            go_wp2_with fail
            rw [rnrest4_eq]
            go_wp2_with fail
            go_ret3
            have e := HX.out.2 (fun m h1 h4 => HA.out m h1 (by omega))
            exact ⟨by rw [e]; rfl,HS.out.b0⟩
    have hS : NS G sa sn sc w g3 w5.drew := HS5.out.next (Below.refl _ _).drew
    refine wp_region_held_drew (S := fun w' => NS G sa sn sc w g3 w') (by kernel_rfl) hS (fun hS0 => ?_)
    generalize hWd : w5.drew = wd at hS0 hS ⊢
    clear hWd
    refine wpAnyH_take (i := 0) (oi := ⟨some 13,.fieldAddr 30 (.tmp 1) 0,0,"game.go:63",#[],none⟩) (v := ?_) rfl (by kernel_rfl) (by kernel_rfl) (by kernel_rfl) (fun _ _ _ h => by cases h.1) (.inl ⟨by rfl,?_⟩) (by assumption) ?_
    rotate_left
    · (intro w' hSw; (try dsimp only at hSw); skip; go_simp <;> with_reducible rfl)
    (try simp only [Act.put,aT,aZ,aS])
    refine wpAnyH_take (i := 1) (oi := ⟨some 14,.fieldAddr 25 (.tmp 13) 0,0,"game.go:63",#[⟨0,.data⟩],none⟩) (v := ?_) rfl (by kernel_rfl) (by kernel_rfl) (by kernel_rfl) (fun _ _ _ h => by cases h.1) (.inl ⟨by rfl,?_⟩) (by assumption) ?_
    rotate_left
    · (intro w' hSw; (try dsimp only at hSw); skip; go_simp <;> with_reducible rfl)
    (try simp only [Act.put,aT,aZ,aS])
    refine wpAnyH_take (i := 2) (oi := ⟨some 15,.load 23 (.tmp 14),23,"game.go:63",#[⟨1,.data⟩],none⟩) (v := ?_) rfl (by kernel_rfl) (by kernel_rfl) (by kernel_rfl) (fun _ _ _ h => by cases h.1) (.inl ⟨by rfl,?_⟩) (by assumption) ?_
    rotate_left
    · (intro w' hSw; (try dsimp only at hSw); (have c0 := hSw.job.at_ 0 (.int .i64 G.p1) rfl; have c1 := hSw.job.at_ 1 (.int .i64 G.p2) rfl); go_simp <;> with_reducible rfl)
    (try simp only [Act.put,aT,aZ,aS])
    refine wpAnyH_take (i := 3) (oi := ⟨some 16,.load 30 (.tmp 1),30,"game.go:63",#[],none⟩) rfl (by kernel_rfl) (by kernel_rfl) (by kernel_rfl) (fun _ _ _ h => by cases h.1) (yields_row (by rfl) 30 _ rfl g3 (jobC G (.slice sa sn sc)) rfl 30 (fun w' hw => hw.job) Try.underlying30 szJob) (by assumption) ?_
    (try simp only [Act.put,aT,aZ,aS])
    refine wpAnyH_ready (rs := [4]) (by kernel_rfl) (by simp) ?_
    refine AllReadyH.cons (o := ⟨some 17,.call { callee := .value (.func 52),args := #[.tmp 16],argTypes := #[30] },23,"game.go:63",#[⟨3,.data⟩],none⟩) rfl (fun K hK => ?_) ?_
    · go_simp
      go_at_call 52
      refine (refWindow0_any G HJ.out sa sn sc _ HN.out hS.rg).mono ?_
      rintro e w2 ⟨rfl,hb2⟩
      have hS_ := hS.next hb2
      clear hS hb2
      have hS := hS_
      clear hS_
      go_wp2_with fail
      refine hK.out _ _ hS (fun _ => ?_)
      clear hK K
      (try simp only [Act.put,aT,aZ,aS])
      refine wpAnyH_ready (rs := [5]) (by kernel_rfl) (by simp) ?_
      refine AllReadyH.cons (o := ⟨some 18,.call { callee := .value (.func 51),args := #[.tmp 15,.tmp 17],argTypes := #[23,23] },4,"game.go:63",#[⟨2,.data⟩,⟨4,.data⟩,⟨4,.chain⟩],none⟩) rfl (fun K hK => ?_) ?_
      · go_simp
        go_at_call 51
        refine (inside_any _ _ _ _ _).mono ?_
        rintro e w2 ⟨he,hb2⟩
        have he2 : e = .returned (.bool iw) := he.trans (by rw [HIW.out]; rfl)
        clear he
        subst he2
        have hS_ := hS.next hb2
        clear hS hb2
        have hS := hS_
        clear hS_
        go_wp2_with fail
        refine hK.out _ _ hS (fun _ => ?_)
        clear hK K
        (try simp only [Act.put,aT,aZ,aS])
        refine wpAnyH_done (by kernel_rfl) ?_ _
        exact ⟨rfl,_,_,_,_,_,rfl,hS⟩
      exact AllReadyH.nil
    exact AllReadyH.nil
  · have hb0 : (G.check != 0) = true := by simpa using hc
    have HE2 : Hid (nextI G = (0,0,G.check)) := hidMk (by unfold nextI; rw [if_neg hc])
    clear hc
    go_wp2_with fail
    go_ret3
    exact ⟨by rw [HE2.out]; rfl,HS5.out.b0⟩
end Go.Proofs.Ytadmcafbffjjbaa
/- Regions that do not draw, one law a step. -/
namespace Go.Proofs.Ytadmcafbffjjbaa
set_option linter.all false
open Go.RowKit
section
variable {P : Program} {ops : Array Oper} {Q : Exit → Act → World → Prop} {a : Act} {w : World} {i : Nat} {rest : List Nat} {o : Oper}
theorem wp_region_l {id : Nat} (l : List Nat) (hl : List.range ops.size = l) (h : wpOps P ops Q l a w) : (Code.region id ops false).wp P Q a w := wp_region (by rw [hl]; exact h)
theorem opsL_take {v : Value} (ho : ops[i]? = some o) (hw : Region.wanted o (yielded ops a.tmps) = true) (hv : (execOp a.eval o).run P w = .ok (.value v) w) (h : wpOps P ops Q rest (a.put o.dst v) w) : wpOps P ops Q (i :: rest) a w := by
  simp only [wpOps,ho,hw,if_true]
  exact .inl (by simp only [Oper.wp,hv,Oper.upon]; exact h)
theorem opsL_skip (ho : ops[i]? = some o) (hw : Region.wanted o (yielded ops a.tmps) = false) (h : wpOps P ops Q rest (a.put o.dst undef) w) : wpOps P ops Q (i :: rest) a w := by
  simp only [wpOps,ho,hw,if_false,Bool.false_eq_true]
  exact h
theorem opsL_step (ho : ops[i]? = some o) (h : ∀ K' : Act → World → Prop,Shut (∀ a w,wpOps P ops Q rest a w → K' a w) → if Region.wanted o (yielded ops a.tmps) = true then Oper.wp P o a w K' Q else K' (a.put o.dst undef) w) : wpOps P ops Q (i :: rest) a w := by
  have := h (wpOps P ops Q rest) (fun _ _ h => h)
  simp only [wpOps,ho]
  split
  · rename_i hw
    rw [if_pos hw] at this
    exact .inl this
  · rename_i hw
    rw [if_neg hw] at this
    exact this
end
end Go.Proofs.Ytadmcafbffjjbaa
