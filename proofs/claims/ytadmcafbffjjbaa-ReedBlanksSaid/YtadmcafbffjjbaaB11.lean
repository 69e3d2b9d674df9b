/- Part 11 of the proof: GrD, GrE, KitJ, Pot, PotK, LawK. -/
import Derived.Deep.WholeRow
import Derived.OwnWalk
import Derived.Test.YtadmcafbffjjbaaProg
import Derived.WalkKit
import Derived.WalkLawsBesides
import Derived.Deep.RegionHeld3
import Derived.Test.YtadmcafbffjjbaaB10
import Derived.Test.YtadmcafbffjjbaaB01
import Derived.Test.YtadmcafbffjjbaaB07
import Derived.Test.YtadmcafbffjjbaaB00
/- The reference of the game: knows. -/
namespace Go.Proofs.Ytadmcafbffjjbaa
set_option linter.all false
open Go.RowKit Go.Shelf
noncomputable def knbody : Code := Try.f92.body.getD .skip
noncomputable def knrest1 : Code := sndB knbody
noncomputable def knrest2 : Code := sndB knrest1
noncomputable def knrest3 : Code := sndB knrest2
set_option maxRecDepth 1000000 in
theorem knbody_eq : knbody = .seq (Code.region 0 #[⟨some 3,.box 30 (.tmp 0),0,"game.go:6",#[],none⟩,⟨some 4,.box 25 (.tmp 1),0,"game.go:6",#[],none⟩,⟨some 6,.assign (.const (.bool false)),4,"game.go:6",#[],none⟩] false) knrest1 := by kernel_rfl
set_option maxRecDepth 1000000 in
theorem knrest1_eq : knrest1 = .seq (.seq (Code.region 1 #[⟨some 8,.fieldAddr 25 (.tmp 4) 0,0,"game.go:7",#[],none⟩,⟨some 9,.load 23 (.tmp 8),23,"game.go:7",#[⟨0,.data⟩],none⟩,⟨some 10,.load 30 (.tmp 3),30,"game.go:7",#[],none⟩,⟨some 11,.call { callee := .value (.func 52),args := #[.tmp 10],argTypes := #[30] },23,"game.go:7",#[⟨2,.data⟩],none⟩,⟨some 12,.call { callee := .value (.func 51),args := #[.tmp 9,.tmp 11],argTypes := #[23,23] },4,"game.go:7",#[⟨1,.data⟩,⟨3,.data⟩,⟨3,.chain⟩],none⟩] true) (.cond (.tmp 12) (.seq (Code.region 2 #[⟨some 6,.assign (.const (.bool true)),4,"game.go:8",#[],none⟩] false) .ret) .skip)) knrest2 := by kernel_rfl
set_option maxRecDepth 1000000 in
theorem knrest2_eq : knrest2 = .seq (.seq (Code.region 3 #[⟨some 7,.assign (.const (.int .i64 1)),3,"game.go:10",#[],none⟩] false) (.block 0 (.loop (.seq (.seq (Code.region 4 #[⟨some 13,.move (.tmp 7),3,"game.go:10",#[],none⟩,⟨some 14,.binOp .leq 3 (.tmp 13) (.const (.int .i64 2)) 3,4,"game.go:10",#[⟨0,.data⟩],none⟩,⟨some 15,.move (.tmp 14),4,"game.go:10",#[⟨1,.data⟩],none⟩,⟨some 16,.move (.tmp 2),3,"game.go:10",#[⟨2,.guard⟩],some (2,true)⟩,⟨some 17,.binOp .gtr 3 (.tmp 16) (.const (.int .i64 0)) 3,4,"game.go:10",#[⟨3,.data⟩,⟨2,.guard⟩],some (2,true)⟩,⟨some 18,.pick (.tmp 15) (.tmp 17) (.const (.bool false)),4,"game.go:10",#[⟨2,.data⟩,⟨4,.data⟩],none⟩] false) (.cond (.tmp 18) .skip (.exit 0))) (.seq (.block 1 (.seq (Code.region 6 #[⟨some 21,.load 30 (.tmp 3),30,"game.go:11",#[],none⟩,⟨some 22,.load 25 (.tmp 4),25,"game.go:11",#[],none⟩,⟨some 23,.move (.tmp 7),3,"game.go:11",#[],none⟩,⟨some 24,.move (.tmp 2),3,"game.go:11",#[],none⟩,⟨some 25,.call { callee := .value (.func 53),args := #[.tmp 21,.tmp 22,.tmp 23,.tmp 24],argTypes := #[30,25,3,3] },4,"game.go:11",#[⟨0,.data⟩,⟨1,.data⟩,⟨2,.data⟩,⟨3,.data⟩],none⟩] false) (.cond (.tmp 25) (.seq (Code.region 7 #[⟨some 6,.assign (.const (.bool true)),4,"game.go:12",#[],none⟩] false) .ret) .skip))) (Code.region 5 #[⟨some 19,.move (.tmp 7),3,"game.go:10",#[],none⟩,⟨some 20,.binOp .add 3 (.tmp 19) (.const (.int .i64 1)) 3,3,"game.go:10",#[⟨0,.data⟩],none⟩,⟨some 7,.assign (.tmp 20),3,"game.go:10",#[⟨1,.data⟩,⟨0,.phase⟩,⟨1,.phase⟩],none⟩] false)))))) knrest3 := by kernel_rfl
set_option maxRecDepth 1000000 in
theorem knrest3_eq : knrest3 = .seq (Code.region 8 #[⟨some 6,.assign (.const (.bool false)),4,"game.go:15",#[],none⟩] false) .ret := by kernel_rfl

def QKN (G : Jb) (k : Nat) (t : Tg) (w0 : World) : Exit → Act → World → Prop := bodyPost Try.prog Try.f92 fun e w' => e = .returned (.bool (knowsB G k t)) ∧ Below w0.heap.size w0 w'
theorem KS.drew {G : Jb} {t : Tg} {sa : Option Addr} {sn sc : Nat} {w0 : World} {g3 g4 : Nat} {w : World} (h : KS G t sa sn sc w0 g3 g4 w) : KS G t sa sn sc w0 g3 g4 w.drew := h.next (Below.refl _ _).drew
set_option maxHeartbeats 4000000 in
set_option maxRecDepth 1000000 in
theorem knows_of {G : Jb} {sa : Option Addr} {sn sc k : Nat} (hk4 : k ≤ 4) (hn : sn = G.sh.length) (hJ : G.In 200) (hmk : ∀ k',k = k' + 1 → MKc G sa sn sc k') : KNc G sa sn sc k := by
  intro t w ht hrg
  have HN := hidMk hn
  have HJ := hidMk hJ
  have HM := hidMk hmk
  have HT := hidMk ht
  have HS := hidMk (KS.mk0 (t := t) (sn := sn) (sc := sc) hrg)
  clear hrg hn hJ ht hmk
  obtain ⟨iw,hiw⟩ : ∃ b,b = inW G t := ⟨_,rfl⟩
  have HIW := hidMk hiw
  clear hiw
  go_enter Try.func92,Try.ntmps92
  show Code.wp Try.prog knbody (QKN G k t w) _ _
  rw [knbody_eq]
  go_wp2_with fail
  generalize hG4 : w.heap.size + 1 = g4 at HS ⊢
  generalize hG3 : w.heap.size = g3 at HS ⊢
  generalize hW1 : ((w.alloc (.cells (jobC G (.slice sa sn sc)) 30)).alloc (.cells (tgV t) 25)) = w1 at HS ⊢
  clear hG4 hG3 hW1
  rw [knrest1_eq]
  refine wp_seq_k fun K0 hK0 => ?_
  refine wp_seq_k fun K1 hK1 => ?_
  refine region_via (R := fun a e a' w' => e = .normal ∧ ∃ (v8 v9 v10 v11 : Value),a' = (((((a.put (some 8) v8).put (some 9) v9).put (some 10) v10).put (some 11) v11).put (some 12) (.bool iw)) ∧ KS G t sa sn sc w g3 g4 w') ?_ ?_
  rotate_left
  · rintro e a' w2 ⟨rfl,v8,v9,v10,v11,rfl,hS2⟩
    clear HS
    have HS := hidMk hS2
    clear hS2
    simp only [Act.put,aT,aZ,aS]
    refine hK1 _ _ ?_
    cases iw with
    | true =>
      go_wp2_with fail
      go_ret
      have e : knowsB G k t = true := by
        cases k with
        | zero => exact HIW.out.symm
        | succ k => rw [knowsB_succ,← HIW.out]; simp
      exact ⟨by rw [e]; rfl,HS.out.ns.b0⟩
    | false =>
      go_wp2_with fail
      rw [knrest2_eq]
      refine wp_seq_k fun K2 hK2 => ?_
      go_wp2_with fail
      generalize hV : w2 = wz at HS ⊢
      clear hV
      have hSz := HS.out
      clear HS
      go_loopw [7] (fun rv wr => ∃ (i : Int),rv = .int .i64 i ∧ 1 ≤ i ∧ i ≤ 3 ∧ Hid (∀ k',k = k' + 1 → ∀ x : Int,1 ≤ x → x < i → makesB G k' t x = false) ∧ KS G t sa sn sc w g3 g4 wr) (fun rv _ => (3 - intOf rv).toNat)
      case atStart => exact ⟨1,rfl,by omega,by omega,hidMk (fun _ _ x h1 h2 => by omega),hSz⟩
      case round =>
        clear hSz
        obtain ⟨i,rfl,hi1,hi3,HA,hS⟩ := hrel
        have HS := hidMk hS
        clear hS
        by_cases hi : i ≤ 2
        · have d1 : decide (i ≤ 2) = true := decide_eq_true hi
          by_cases h0 : 0 < k
          · have d2 : decide ((0 : Int) < (k : Int)) = true := decide_eq_true (by omega)
            obtain ⟨k',hk'⟩ : ∃ k',k = k' + 1 := ⟨k - 1,by omega⟩
            have HK := hidMk hk'
            clear hk'
            have c0 := HS.out.tg.at_ 0 (.int .i64 t.p1) rfl; have c1 := HS.out.tg.at_ 1 (.int .i64 t.p2) rfl; have c2 := HS.out.tg.at_ 2 (.int .i64 t.t1) rfl; have c3 := HS.out.tg.at_ 3 (.int .i64 t.t2) rfl; have c4 := HS.out.tg.at_ 4 (.int .i64 t.r1) rfl; have c5 := HS.out.tg.at_ 5 (.int .i64 t.r2) rfl
            go_wp2_with (refine wpList_load_row rfl 30 _ rfl g3 rfl _ (jobC G (.slice sa sn sc)) _ _ HS.out.ns.job Try.underlying30 rfl szJob ?_)
            clear c0 c1 c2 c3 c4 c5
            have h12 : i = 1 ∨ i = 2 := by omega
            have hc := HM.out k' HK.out t i wr h12 (by rw [← HK.out]; exact HT.out) HS.out.ns.rg
            rw [← HK.out] at hc
            refine hc.mono ?_
            clear hc
            rintro e w8 ⟨rfl,hb8⟩
            have HS8 := hidMk (HS.out.next hb8)
            clear hb8 HS
            obtain ⟨b,hb⟩ : ∃ b,b = makesB G k' t i := ⟨_,rfl⟩
            rw [← hb]
            have HV := hidMk hb
            clear hb
            cases b with
            | true =>
              go_wp2_with fail
              go_ret
              have e : knowsB G k t = true := by
                rw [HK.out,knowsB_succ]
                rcases h12 with rfl | rfl
                · rw [← HV.out]; simp
                · rw [← HV.out]; simp
              exact ⟨by rw [e]; rfl,HS8.out.ns.b0⟩
            | false =>
              go_wp2_with fail
              go_roundw
              case rel =>
                refine ⟨i + 1,by go_num,by omega,by omega,hidMk ?_,HS8.out⟩
                intro q hq x h1 h2
                have : q = k' := by have := HK.out; omega
                subst this
                by_cases hx : x < i
                · exact HA.out q hq x h1 hx
                · have : x = i := by omega
                  rw [this]; exact HV.out.symm
              case measure => simp [intOf]; omega
          · have d2 : decide ((0 : Int) < (k : Int)) = false := decide_eq_false (by omega)
            go_wp2_with fail
            rw [knrest3_eq]
            go_wp2_with fail
            go_ret
            have e : knowsB G k t = false := by
              obtain rfl : k = 0 := by omega
              exact HIW.out.symm
            exact ⟨by rw [e]; rfl,HS.out.ns.b0⟩
        · have d1 : decide (i ≤ 2) = false := decide_eq_false hi
          go_wp2_with fail
          rw [knrest3_eq]
          go_wp2_with fail
          go_ret
          have e : knowsB G k t = false := by
            cases k with
            | zero => exact HIW.out.symm
            | succ k => rw [knowsB_succ,← HIW.out,HA.out k rfl 1 (by omega) (by omega),HA.out k rfl 2 (by omega) (by omega)]; rfl
          exact ⟨by rw [e]; rfl,HS.out.ns.b0⟩
  have hS := HS.out.drew
  refine wp_region_held_drew (S := (fun w' => KS G t sa sn sc w g3 g4 w')) (by kernel_rfl) hS (fun hS0 => ?_)
  generalize hWd : w1.drew = wd at hS0 hS ⊢
  clear hWd
  refine wpAnyH_take (i := 0) (oi := ⟨some 8,.fieldAddr 25 (.tmp 4) 0,0,"game.go:7",#[],none⟩) (v := ?_) rfl (by kernel_rfl) (by kernel_rfl) (by kernel_rfl) (fun _ _ _ h => by cases h.1) (.inl ⟨by rfl,?_⟩) (by assumption) ?_
  rotate_left
  · (intro w' hSw; (try dsimp only at hSw); skip; go_simp <;> with_reducible rfl)
  (try simp only [Act.put,aT,aZ,aS])
  refine wpAnyH_take (i := 1) (oi := ⟨some 9,.load 23 (.tmp 8),23,"game.go:7",#[⟨0,.data⟩],none⟩) (v := ?_) rfl (by kernel_rfl) (by kernel_rfl) (by kernel_rfl) (fun _ _ _ h => by cases h.1) (.inl ⟨by rfl,?_⟩) (by assumption) ?_
  rotate_left
  · (intro w' hSw; (try dsimp only at hSw); (have c0 := hSw.tg.at_ 0 (.int .i64 t.p1) rfl; have c1 := hSw.tg.at_ 1 (.int .i64 t.p2) rfl); go_simp <;> with_reducible rfl)
  (try simp only [Act.put,aT,aZ,aS])
  refine wpAnyH_take (i := 2) (oi := ⟨some 10,.load 30 (.tmp 3),30,"game.go:7",#[],none⟩) rfl (by kernel_rfl) (by kernel_rfl) (by kernel_rfl) (fun _ _ _ h => by cases h.1) (yields_row (by rfl) 30 _ rfl g3 (jobC G (.slice sa sn sc)) rfl 30 (fun w' hw => hw.ns.job) Try.underlying30 szJob) (by assumption) ?_
  (try simp only [Act.put,aT,aZ,aS])
  refine wpAnyH_ready (rs := [3]) (by kernel_rfl) (by simp) ?_
  refine AllReadyH.cons (o := ⟨some 11,.call { callee := .value (.func 52),args := #[.tmp 10],argTypes := #[30] },23,"game.go:7",#[⟨2,.data⟩],none⟩) rfl (fun K hK => ?_) ?_
  · go_simp
    go_at_call 52
    refine (refWindow0_any G HJ.out sa sn sc _ HN.out hS.ns.rg).mono ?_
    rintro e w2 ⟨rfl,hb2⟩
    have hS_ := hS.next hb2
    clear hS hb2
    have hS := hS_
    clear hS_
    go_wp2_with fail
    refine hK.out _ _ hS (fun _ => ?_)
    clear hK K
    (try simp only [Act.put,aT,aZ,aS])
    refine wpAnyH_ready (rs := [4]) (by kernel_rfl) (by simp) ?_
    refine AllReadyH.cons (o := ⟨some 12,.call { callee := .value (.func 51),args := #[.tmp 9,.tmp 11],argTypes := #[23,23] },4,"game.go:7",#[⟨1,.data⟩,⟨3,.data⟩,⟨3,.chain⟩],none⟩) rfl (fun K hK => ?_) ?_
    · go_simp
      go_at_call 51
      refine (inside_any _ _ _ _ _).mono ?_
      rintro e w2 ⟨he,hb2⟩
      have he2 : e = .returned (.bool iw) := he.trans (by rw [HIW.out]; rfl)
      clear he
      subst he2
      have hS_ := hS.next hb2
      clear hS hb2
      have hS := hS_
      clear hS_
      go_wp2_with fail
      refine hK.out _ _ hS (fun _ => ?_)
      clear hK K
      (try simp only [Act.put,aT,aZ,aS])
      refine wpAnyH_done (by kernel_rfl) ?_ _
      exact ⟨rfl,_,_,_,_,rfl,hS⟩
    exact AllReadyH.nil
  exact AllReadyH.nil
/-- The reference's game, on a job within bounds. -/
theorem game_all {G : Jb} {sa : Option Addr} {sn sc : Nat} (hn : sn = G.sh.length) (hJ : G.In 200) (hu : G.u1 ≤ G.u2 ∧ G.d1 ≤ G.d2) (hme : 0 ≤ G.me ∧ G.me ≤ 6) : ∀ k : Nat,k ≤ 4 → KNc G sa sn sc k ∧ RDc G sa sn sc k
  | 0,_ =>
    have a := knows_of (k := 0) (sa := sa) (sc := sc) (by omega) hn hJ (fun k' e => by cases e)
    ⟨a,reads_of (by omega) hme a⟩
  | k + 1,hk =>
    have b := (game_all hn hJ hu hme k (by omega)).2
    have a := knows_of (k := k + 1) (sa := sa) (sc := sc) hk hn hJ (fun k' e => by obtain rfl : k = k' := by omega
                                                                                   exact makes_of (by omega) hJ hu b)
    ⟨a,reads_of hk hme a⟩
end Go.Proofs.Ytadmcafbffjjbaa
/- The reference of the game: guided, Guided. -/
namespace Go.Proofs.Ytadmcafbffjjbaa
set_option linter.all false
open Go.RowKit
noncomputable def gubody : Code := Try.f50.body.getD .skip
noncomputable def gurest1 : Code := sndB gubody
noncomputable def gurest2 : Code := sndB gurest1
set_option maxRecDepth 1000000 in
theorem gubody_eq : gubody = .seq (Code.region 0 #[⟨some 1,.box 30 (.tmp 0),0,"game.go:37",#[],none⟩,⟨some 2,.assign (.const (.int .i64 0)),3,"game.go:37",#[],none⟩] false) gurest1 := by kernel_rfl
set_option maxRecDepth 1000000 in
theorem gurest1_eq : gurest1 = .seq (.seq (Code.region 1 #[⟨some 3,.assign (.const (.int .i64 0)),3,"game.go:38",#[],none⟩] false) (.block 0 (.loop (.seq (.seq (Code.region 2 #[⟨some 4,.move (.tmp 3),3,"game.go:38",#[],none⟩,⟨some 5,.binOp .leq 3 (.tmp 4) (.const (.int .i64 4)) 3,4,"game.go:38",#[⟨0,.data⟩],none⟩] false) (.cond (.tmp 5) .skip (.exit 0))) (.seq (.block 1 (.seq (Code.region 4 #[⟨some 8,.load 30 (.tmp 1),30,"game.go:39",#[],none⟩,⟨some 9,.fieldAddr 30 (.tmp 1) 0,0,"game.go:39",#[],none⟩,⟨some 10,.load 25 (.tmp 9),25,"game.go:39",#[⟨1,.data⟩],none⟩,⟨some 11,.move (.tmp 3),3,"game.go:39",#[],none⟩,⟨some 12,.call { callee := .value (.func 80),args := #[.tmp 8,.tmp 10,.tmp 11],argTypes := #[30,25,3] },4,"game.go:39",#[⟨0,.data⟩,⟨2,.data⟩,⟨3,.data⟩],none⟩] false) (.cond (.tmp 12) (.seq (Code.region 5 #[⟨some 13,.move (.tmp 3),3,"game.go:40",#[],none⟩,⟨some 2,.assign (.tmp 13),3,"game.go:40",#[⟨0,.data⟩,⟨0,.phase⟩],none⟩] false) .ret) .skip))) (Code.region 3 #[⟨some 6,.move (.tmp 3),3,"game.go:38",#[],none⟩,⟨some 7,.binOp .add 3 (.tmp 6) (.const (.int .i64 1)) 3,3,"game.go:38",#[⟨0,.data⟩],none⟩,⟨some 3,.assign (.tmp 7),3,"game.go:38",#[⟨1,.data⟩,⟨0,.phase⟩,⟨1,.phase⟩],none⟩] false)))))) gurest2 := by kernel_rfl
set_option maxRecDepth 1000000 in
theorem gurest2_eq : gurest2 = .seq (Code.region 6 #[⟨some 2,.assign (.const (.int .i64 (-1))),3,"game.go:43",#[],none⟩] false) .ret := by kernel_rfl

def QGU (G : Jb) (w0 : World) : Exit → Act → World → Prop := bodyPost Try.prog Try.f50 fun e w' => e = .returned (.int .i64 (rguide G)) ∧ Below w0.heap.size w0 w'
/-- The reference's game, on a valid job. -/
theorem game_ok {G : Jb} {sa : Option Addr} {sn sc : Nat} (hc : G.check = 0) (hn : sn = G.sh.length) (k : Nat) (hk : k ≤ 4) : KNc G sa sn sc k ∧ RDc G sa sn sc k :=
  game_all hn ((check_ok hc).inn.mono (by decide)) ⟨(check_ok hc).u,(check_ok hc).d⟩ (check_me hc) k hk
theorem tg_le4 {G : Jb} (hc : G.check = 0) (k : Nat) (hk : k ≤ 4) : TgIn k G.tg := ⟨(tg_in4 (check_ok hc)).1.mono (by push_cast; omega),(tg_in4 (check_ok hc)).2⟩
set_option maxHeartbeats 4000000 in
set_option maxRecDepth 1000000 in
theorem rguided_any {G : Jb} {sa : Option Addr} {sn sc : Nat} (hc : G.check = 0) (hn : sn = G.sh.length) (w : World) (hrg : Rg w w.heap.size sa G.sh) :
    Calls Try.prog 50 #[.agg (jobC G (.slice sa sn sc))] w fun e w' => e = .returned (.int .i64 (rguide G)) ∧ Below w.heap.size w w' := by
  have HC := hidMk hc
  clear hc
  have q0 : Below w.heap.size w (w.alloc (.cells (jobC G (.slice sa sn sc)) 30)) := (Below.refl _ _).alloc (Nat.le_refl _) _
  have hs : NS G sa sn sc w w.heap.size (w.alloc (.cells (jobC G (.slice sa sn sc)) 30)) := ⟨q0,Bk.new _ _ _,hrg.below q0⟩
  have HS := hidMk hs
  have HN := hidMk hn
  clear q0 hs hrg hn
  go_enter Try.func50,Try.ntmps50
  show Code.wp Try.prog gubody (QGU G w) _ _
  rw [gubody_eq]
  go_wp2_with fail
  generalize hG3 : w.heap.size = g3 at HS ⊢
  generalize hW1 : (w.alloc (.cells (jobC G (.slice sa sn sc)) 30)) = w1 at HS ⊢
  clear hG3 hW1
  rw [gurest1_eq]
  refine wp_seq_k fun K2 hK2 => ?_
  go_wp2_with fail
  generalize hV : w1 = wz at HS ⊢
  clear hV
  have hSz := HS.out
  clear HS
  go_loopw [3] (fun rv wr => ∃ (i : Nat),rv = .int .i64 i ∧ i ≤ 5 ∧ Hid (∀ q,q < i → readsB G q G.tg = false) ∧ NS G sa sn sc w g3 wr) (fun rv _ => (5 - intOf rv).toNat)
  case atStart => exact ⟨0,rfl,by omega,hidMk (fun q h => by omega),hSz⟩
  case round =>
    clear hSz
    obtain ⟨i,rfl,hi5,HA,hS⟩ := hrel
    have HS := hidMk hS
    clear hS
    by_cases hi : i ≤ 4
    · have d1 : decide ((i : Int) ≤ 4) = true := decide_eq_true (by omega)
      have c0 := HS.out.job.at_ 0 (.int .i64 G.p1) rfl; have c1 := HS.out.job.at_ 1 (.int .i64 G.p2) rfl; have c2 := HS.out.job.at_ 2 (.int .i64 G.t1) rfl; have c3 := HS.out.job.at_ 3 (.int .i64 G.t2) rfl; have c4 := HS.out.job.at_ 4 (.int .i64 G.r1) rfl; have c5 := HS.out.job.at_ 5 (.int .i64 G.r2) rfl
      go_wp2_with (refine wpList_load_row rfl 30 _ rfl g3 rfl _ (jobC G (.slice sa sn sc)) _ _ HS.out.job Try.underlying30 rfl szJob ?_)
      clear c0 c1 c2 c3 c4 c5
      show Calls Try.prog 80 #[.agg (jobC G (.slice sa sn sc)),.agg (tgV G.tg),.int .i64 (i : Int)] _ _
      refine ((game_ok (sa := sa) (sc := sc) HC.out HN.out i hi).2 G.tg _ (tg_le4 HC.out i hi) HS.out.rg).mono ?_
      rintro e w8 ⟨rfl,hb8⟩
      have HS8 := hidMk (HS.out.next hb8)
      clear hb8 HS
      have HG := hidMk (reads_guide (check_full HC.out) i hi)
      obtain ⟨b,hb⟩ : ∃ b,b = readsB G i G.tg := ⟨_,rfl⟩
      rw [← hb]
      rw [← hb] at HG
      have HV := hidMk hb
      clear hb
      cases b with
      | true =>
        go_wp2_with fail
        go_ret
        have e : rguide G = i := by
          have h1 := HG.out.1 (by trivial)
          have h2 : ¬ guideI G < i := by
            intro h
            have h3 := guide_nn G
            have h4 := (reads_guide (check_full HC.out) (i - 1) (by omega)).2 (by omega)
            rw [HA.out (i - 1) (by omega)] at h4
            cases h4
          unfold rguide
          rw [if_neg (by omega)]
          omega
        exact ⟨by rw [e]; rfl,HS8.out.b0⟩
      | false =>
        go_wp2_with fail
        go_roundw
        case rel =>
          refine ⟨i + 1,by go_num,by omega,hidMk ?_,HS8.out⟩
          intro q hq
          by_cases hx : q < i
          · exact HA.out q hx
          · have : q = i := by omega
            rw [this]; exact HV.out.symm
        case measure => simp [intOf]; omega
    · have d1 : decide ((i : Int) ≤ 4) = false := decide_eq_false (by omega)
      go_wp2_with fail
      rw [gurest2_eq]
      go_wp2_with fail
      go_ret
      have e : rguide G = -1 := by
        have h1 := guide_top G
        have h4 : ¬ guideI G ≤ (4 : Nat) := by
          intro h
          have h4 := (reads_guide (check_full HC.out) 4 (by omega)).2 h
          rw [HA.out 4 (by omega)] at h4
          cases h4
        unfold rguide
        rw [if_pos (by omega)]
      exact ⟨by rw [e]; rfl,HS.out.b0⟩
end Go.Proofs.Ytadmcafbffjjbaa
/- Contracts of the kit's copies and comparisons of jobs. -/
namespace Go.Proofs.Ytadmcafbffjjbaa
set_option linter.all false
open Go.RowKit

theorem rg_one (l : List R2) : ∀ u ∈ rgCells l,u.oneCell' = true := by
  induction l with
  | nil => intro u h; cases h
  | cons x l ih =>
    intro u h
    rcases List.mem_cons.1 h with rfl | h
    · rfl
    · rcases List.mem_cons.1 h with rfl | h
      · rfl
      · exact ih u h
theorem rg_news {W : World} {B : Nat} {ad : Addr} {l : List R2} (h : Rg W B (some ad) l) : ∀ j u,(rgCells l)[j]? = some u → W.cell? (ad.add j) = some u := by
  intro j u hj
  have hjl := (List.getElem?_eq_some_iff.1 hj).1
  rw [rgCells_len] at hjl
  have hk : j / 2 < l.length := by omega
  obtain ⟨b,off,e,_,e0,e1⟩ := h (j / 2) l[j / 2] (List.getElem?_eq_getElem hk)
  cases e
  obtain ⟨h0,h1⟩ := rgCells_at l (j / 2) l[j / 2] (List.getElem?_eq_getElem hk)
  have ha : ∀ k,(⟨b,off,none⟩ : Addr).add k = ⟨b,off + k,none⟩ := by
    intro k
    unfold Addr.add
    split
    · rename_i hk0; subst hk0; rfl
    · rfl
  rw [ha]
  rcases Nat.mod_two_eq_zero_or_one j with hm | hm
  · have : j = j / 2 * 2 := by omega
    rw [this] at hj ⊢
    rw [h0] at hj
    cases hj
    exact e0
  · have hj' : j = j / 2 * 2 + 1 := by omega
    have h2 : W.cell? ⟨b,off + j,none⟩ = W.cell? ⟨b,off + j / 2 * 2 + 1,none⟩ := by
      have : off + j = off + j / 2 * 2 + 1 := by omega
      rw [this]
    rw [h2,e1,← h1,← hj',hj]
theorem Rg.of_own {w : World} {B e n : Nat} {v : Value} {l : List R2} (h : w.ownsRow B e 2 v n (rgCells l)) : ∃ a c,v = .slice a n c ∧ n = l.length ∧ Rg w w.heap.size a l := by
  have hl := h.1
  rw [rgCells_len] at hl
  rcases h.2 with ⟨rfl,rfl⟩ | ⟨g,cap,cur,rfl,hb,hg,hnc,hcm,hcs,htk⟩
  · have e : l = [] := List.length_eq_zero_iff.1 (by omega)
    subst e
    exact ⟨none,0,rfl,rfl,Rg.nil _ _ _⟩
  · refine ⟨some ⟨g,0,none⟩,cap,rfl,by omega,fun k x hk => ⟨g,0,rfl,(Array.getElem?_eq_some_iff.1 hg).1,?_,?_⟩⟩
    all_goals
      have hkl := (List.getElem?_eq_some_iff.1 hk).1
      obtain ⟨h0,h1⟩ := rgCells_at l k x hk
    · rw [cell_of_row w g (0 + k * 2) cur e (0,0) hg,Nat.zero_add,← Array.getElem?_toList]
      have h2 : (cur.toList.take (n * 2))[k * 2]? = some (.int .i64 x.1) := by rw [htk]; exact h0
      rw [List.getElem?_take_of_lt (by omega)] at h2
      exact h2
    · rw [cell_of_row w g (0 + k * 2 + 1) cur e (0,0) hg,Nat.zero_add,← Array.getElem?_toList]
      have h2 : (cur.toList.take (n * 2))[k * 2 + 1]? = some (.int .i64 x.2) := by rw [htk]; exact h1
      rw [List.getElem?_take_of_lt (by omega)] at h2
      exact h2
theorem own_lo {w : World} {B B' e n : Nat} {v : Value} {xs : List Value} (h : w.ownsRow B e 2 v n xs) (hB : B' ≤ B) : w.ownsRow B' e 2 v n xs :=
  ⟨h.1,h.2.imp id fun ⟨g,cap,cur,a,b,c⟩ => ⟨g,cap,cur,a,Nat.le_trans hB b,c⟩⟩
theorem own_keep {w w' : World} {B e n : Nat} {v : Value} {xs : List Value} (h : w.ownsRow B e 2 v n xs) (hk : ∀ g,B ≤ g → w'.heap[g]? = w.heap[g]?) : w'.ownsRow B e 2 v n xs :=
  ⟨h.1,h.2.imp id fun ⟨g,cap,cur,a,b,c,d⟩ => ⟨g,cap,cur,a,b,(hk g b).trans c,d⟩⟩
set_option maxHeartbeats 1000000 in
set_option maxRecDepth 100000 in
theorem ranges_some (ad : Addr) (n c : Nat) (l : List R2) (w : World) (hn : n = l.length) (hm : n ≤ 1000) (h : Rg w w.heap.size (some ad) l) :
    Calls Try.prog 46 #[.slice (some ad) n c] w fun e w' => ∃ v,e = .returned v ∧ w'.ownsRow w.heap.size 23 2 v n (rgCells l) ∧ Below w.heap.size w w' := by
  obtain ⟨i0,hi,hz0,hz1,hz2⟩ := info_parts infoRange
  have Hi : Hid (Try.prog.info? 23 = some i0) := hi
  have Hz0 := hidMk hz0
  have Hz1 := hidMk hz1
  have Hz2 := hidMk hz2
  clear hi hz0 hz1 hz2
  have Hn := hidMk hn
  have Hh := hidMk h
  clear hn h
  go_enter Try.func46,Try.ntmps46
  have own0 : (w.alloc (.cells #[] 23)).ownsRow w.heap.size 23 2 (.slice (some ⟨w.heap.size,0,none⟩) 0 0) 0 [] :=
    ⟨rfl,.inr ⟨w.heap.size,0,#[],rfl,Nat.le_refl _,Bk.new _ _ _,Nat.le_refl _,Nat.zero_le _,rfl,rfl⟩⟩
  have Ho := hidMk own0
  clear own0
  go_wp2_with (at_builtin; refine wpList_append_own_at _ rfl (.tmp 3) (.tmp 4) 28 rfl w.heap.size 23 i0 (.agg #[.int .i64 0,.int .i64 0]) 2 16 Try.underlying28 Hi.out Hz0.out Hz1.out Hz2.out rfl (by decide) _ 0 [] rfl Ho.out ad n c (rgCells l) rfl (by rw [rgCells_len,Hn.out]) (rg_news (Hh.out.up ((Below.refl _ _).alloc (Nat.le_refl _) _))) (rg_one l) (by unfold maxLen; omega) (by omega) (by simp) ?_; intro v' w3 own' hg _ at_)
  go_ret
  refine ⟨v',rfl,by simpa using own',?_⟩
  exact ((Below.refl _ _).alloc (Nat.le_refl _) (.cells #[] 23)).grown hg (by simp) (fun g e => by cases e; exact Nat.le_refl _)
theorem ranges_none (n c : Nat) (hn : n = 0) (w : World) :
    Calls Try.prog 46 #[.slice none n c] w fun e w' => ∃ v,e = .returned v ∧ w'.ownsRow w.heap.size 23 2 v n [] ∧ Below w.heap.size w w' := by
  subst hn
  go_enter Try.func46,Try.ntmps46
  go_wp2_with fail
  go_ret
  exact ⟨_,rfl,⟨rfl,.inr ⟨w.heap.size,0,#[],rfl,Nat.le_refl _,Bk.new _ _ _,Nat.le_refl _,Nat.zero_le _,rfl,rfl⟩⟩,(Below.refl _ _).alloc (Nat.le_refl _) _⟩
theorem ranges_any (a : Option Addr) (n c : Nat) (l : List R2) (w : World) (hn : n = l.length) (hm : n ≤ 1000) (h : Rg w w.heap.size a l) :
    Calls Try.prog 46 #[.slice a n c] w fun e w' => ∃ v,e = .returned v ∧ w'.ownsRow w.heap.size 23 2 v n (rgCells l) ∧ Below w.heap.size w w' := by
  cases a with
  | some ad => exact ranges_some ad n c l w hn hm h
  | none =>
    have hl : l = [] := by
      cases l with
      | nil => rfl
      | cons x l =>
        obtain ⟨b,off,e,_⟩ := h 0 x rfl
        cases e
    subst hl
    exact ranges_none n c (by simpa using hn) w
set_option maxHeartbeats 1000000 in
set_option maxRecDepth 100000 in
theorem copyJob_any (J : Jb) (a : Option Addr) (n c : Nat) (w : World) (hn : n = J.sh.length) (hm : n ≤ 1000) (h : Rg w w.heap.size a J.sh) :
    Calls Try.prog 11 #[.agg (jobC J (.slice a n c))] w fun e w' => ∃ a' c',e = .returned (.agg (jobC J (.slice a' n c'))) ∧ w'.ownsRow w.heap.size 23 2 (.slice a' n c') n (rgCells J.sh) ∧ Below w.heap.size w w' := by
  have Hn := hidMk hn
  have Hh := hidMk h
  clear hn h
  have b0 : Bk ((w.alloc (.cells (jobC J (.slice a n c)) 30)).alloc (.cells (jobC zeroJ (.slice none 0 0)) 30)) w.heap.size 30 (jobC J (.slice a n c)) := (Bk.new w _ _).alloc _
  have b1 : Bk ((w.alloc (.cells (jobC J (.slice a n c)) 30)).alloc (.cells (jobC zeroJ (.slice none 0 0)) 30)) (w.heap.size + 1) 30 (jobC zeroJ (.slice none 0 0)) := Bk.newAt _ _ _ _ (by simp)
  have hW : Below w.heap.size w ((w.alloc (.cells (jobC J (.slice a n c)) 30)).alloc (.cells (jobC zeroJ (.slice none 0 0)) 30)) := ((Below.refl _ _).alloc (Nat.le_refl _) _).alloc (by simp) _
  have s15 := b0.at_ 15 (.slice a n c) rfl
  go_enter Try.func11,Try.ntmps11
  go_wp2_with fail
  refine (ranges_any a n c J.sh _ Hn.out hm (Hh.out.up hW)).mono ?_
  rintro e w1 ⟨v,rfl,own,hb1⟩
  obtain ⟨a',c',rfl,-,-⟩ := Rg.of_own own
  have hz1 := hb1.size
  simp only [World.size_alloc] at hz1
  have k0 := b0.below hb1 (by simp; omega)
  have k1 := b1.below hb1 (by simp)
  have hB1 : Below w.heap.size w w1 := hW.trans (hb1.mono (by simp; omega))
  have own1 : w1.ownsRow (w.heap.size + 1 + 1) 23 2 (.slice a' n c') n (rgCells J.sh) := by simpa using own
  have Own := hidMk own1
  have d15 := k0.at_ 15 (.slice a n c) rfl
  have f15 := k0.free 15
  clear own own1 hb1 b0 b1 hW s15
  have k0' : Bk (w1.setCell ⟨w.heap.size,15,none⟩ (.slice a' n c')) w.heap.size 30 (jobC J (.slice a' n c')) := k0.put 15 _
  have k1' : Bk (w1.setCell ⟨w.heap.size,15,none⟩ (.slice a' n c')) (w.heap.size + 1) 30 (jobC zeroJ (.slice none 0 0)) := k1.other (by simp) _
  go_wp2_with (first | (refine wpList_load_row rfl 30 _ rfl w.heap.size rfl _ (jobC J (.slice a' n c')) _ _ k0' Try.underlying30 rfl szJob ?_) | (refine wpList_store_row rfl 30 _ _ rfl (w.heap.size + 1) (jobC J (.slice a' n c')) rfl rfl _ _ k1' szJob rfl (oneJob _ _ _ _) ?_))
  refine bodyPost_ret (v := .agg (jobC J (.slice a' n c'))) (results_cell_row Try.results11 _ _ _ _ _ _ _ rfl (k1'.row _) Try.underlying30 rfl szJob) rfl ⟨a',c',rfl,?_,?_⟩
  · exact own_lo (own_keep Own.out fun g hg => (setRow_other _ _ _ _ (by omega)).trans (Below.heap_setCell _ _ _ _ (by show g ≠ w.heap.size; omega))) (by omega)
  · exact below_setRow (hB1.setCell (by simp) _) (by simp) _
end Go.Proofs.Ytadmcafbffjjbaa
/- Pots: step and Upto. -/
namespace Go.Proofs.Ytadmcafbffjjbaa
set_option linter.all false
open Go.RowKit
def stepS (s : Int) : Int := IntKind.u64.wrap (IntKind.u64.wrap (s * 6364136223846793005) + 1442695040888963407)
def mixA (x c : Int) : Int := IntKind.u64.wrap (bits BinOp.xor IntKind.u64 x (x / 8589934592) * c)
def stepX (s : Int) : Int := bits BinOp.xor IntKind.u64 (mixA (mixA (stepS s) 18397679294719823053) 14181476777654086739) (mixA (mixA (stepS s) 18397679294719823053) 14181476777654086739 / 8589934592)
set_option maxHeartbeats 400000 in
theorem step_any (b : Nat) (s : Int) (w : World) (h : w.cell? ⟨b,0,none⟩ = some (.int .u64 s)) (hf : w.frozen? ⟨b,0,none⟩ = false) :
    Calls Try.prog 57 #[.pointer (some ⟨b,0,none⟩)] w fun e w' => e = .returned (.int .u64 (stepX s)) ∧ w' = w.setCell ⟨b,0,none⟩ (.int .u64 (stepS s)) := by
  go_enter Try.func57,Try.ntmps57
  go_wp2
  go_ret
  exact ⟨rfl,rfl⟩
/-- What Upto answers, and what the pot is then. -/
def uptoF (s m : Int) : Int := if m < 1 then 0 else wrap64 ((stepX s / 2048).tmod (m + 1))
def uptoS (s m : Int) : Int := if m < 1 then s else stepS s
theorem stepX_in (s : Int) : 0 ≤ stepX s ∧ stepX s ≤ 18446744073709551615 := bits_within .xor .u64 _ _
theorem uptoF_in (s m : Int) (h : m ≤ 1000) : 0 ≤ uptoF s m ∧ (uptoF s m ≤ m ∨ uptoF s m = 0) := by
  unfold uptoF
  by_cases h1 : m < 1
  · rw [if_pos h1]; omega
  · rw [if_neg h1]
    have h2 := stepX_in s
    have h3 : 0 ≤ stepX s / 2048 := by omega
    have h4 : (stepX s / 2048).tmod (m + 1) = (stepX s / 2048) % (m + 1) := Int.tmod_eq_emod_of_nonneg h3
    have h5 := Int.emod_nonneg (stepX s / 2048) (show m + 1 ≠ 0 by omega)
    have h6 := Int.emod_lt_of_pos (stepX s / 2048) (show 0 < m + 1 by omega)
    rw [h4,show wrap64 ((stepX s / 2048) % (m + 1)) = (stepX s / 2048) % (m + 1) from IntWalk.wrap64_in _ (by omega)]
    omega
/-- The pot's cell is another one, or nothing is. -/
def Put (w w' : World) (b : Nat) (s s' : Int) : Prop := w' = w.setCell ⟨b,0,none⟩ (.int .u64 s') ∨ (w' = w ∧ s' = s)
theorem Put.cell {w w' : World} {b q p : Nat} {s s' : Int} {v : Value} (h : Put w w' b s s') (hbq : b ≠ q) (hv : w.cell? ⟨q,p,none⟩ = some v) : w'.cell? ⟨q,p,none⟩ = some v := by
  rcases h with rfl | ⟨rfl,_⟩
  · exact (World.cell?_setCell_other w _ _ _ (by intro e; cases e; exact hbq rfl)).trans hv
  · exact hv
set_option maxHeartbeats 400000 in
theorem upto_less (b : Nat) (m : Int) (w : World) (hm : m < 1) :
    Calls Try.prog 22 #[.pointer (some ⟨b,0,none⟩),.int .i64 m] w fun e w' => e = .returned (.int .i64 0) ∧ w' = w := by
  go_enter Try.func22,Try.ntmps22
  go_wp2
  go_ret
  exact ⟨rfl,rfl⟩
set_option maxHeartbeats 400000 in
theorem upto_more (b : Nat) (s m : Int) (w : World) (hm : 1 ≤ m ∧ m ≤ 1000) (h : w.cell? ⟨b,0,none⟩ = some (.int .u64 s)) (hf : w.frozen? ⟨b,0,none⟩ = false) :
    Calls Try.prog 22 #[.pointer (some ⟨b,0,none⟩),.int .i64 m] w fun e w' => e = .returned (.int .i64 (wrap64 ((stepX s / 2048).tmod (m + 1)))) ∧ w' = w.setCell ⟨b,0,none⟩ (.int .u64 (stepS s)) := by
  obtain ⟨h1,h2⟩ := hm
  have hz : ¬ m < 1 := by omega
  go_enter Try.func22,Try.ntmps22
  go_wp2_with (go_at_call 57; refine (step_any _ _ _ h hf).mono ?_; rintro e w1 ⟨rfl,rfl⟩)
  go_ret
  exact ⟨rfl,rfl⟩
theorem upto_any (b : Nat) (s m : Int) (w : World) (hm : m ≤ 1000) (h : w.cell? ⟨b,0,none⟩ = some (.int .u64 s)) (hf : w.frozen? ⟨b,0,none⟩ = false) :
    Calls Try.prog 22 #[.pointer (some ⟨b,0,none⟩),.int .i64 m] w fun e w' => e = .returned (.int .i64 (uptoF s m)) ∧ Put w w' b s (uptoS s m) := by
  unfold uptoF uptoS
  by_cases h1 : m < 1
  · rw [if_pos h1,if_pos h1]
    exact (upto_less b m w h1).mono fun e w' ⟨he,hw⟩ => ⟨he,.inr ⟨hw,rfl⟩⟩
  · rw [if_neg h1,if_neg h1]
    exact (upto_more b s m w (by omega) h hf).mono fun e w' ⟨he,hw⟩ => ⟨he,.inl hw⟩
def pick3 (x y z u : Int) : Int := if u = 0 then x else if u = 1 then y else z
set_option maxHeartbeats 400000 in
theorem of3_any (b q o : Nat) (s x y z : Int) (w : World) (h : w.cell? ⟨b,0,none⟩ = some (.int .u64 s)) (hf : w.frozen? ⟨b,0,none⟩ = false) (hbq : b ≠ q)
    (h0 : w.cell? ⟨q,o,none⟩ = some (.int .i64 x)) (h1 : w.cell? ⟨q,o + 1,none⟩ = some (.int .i64 y)) (h2 : w.cell? ⟨q,o + 2,none⟩ = some (.int .i64 z)) :
    Calls Try.prog 21 #[.pointer (some ⟨b,0,none⟩),.slice (some ⟨q,o,none⟩) 3 3] w fun e w' => e = .returned (.int .i64 (pick3 x y z (uptoF s 2))) ∧ Put w w' b s (uptoS s 2) := by
  have hu := uptoF_in s 2 (by omega)
  have hcase : uptoF s 2 = 0 ∨ uptoF s 2 = 1 ∨ uptoF s 2 = 2 := by omega
  rcases hcase with e0 | e0 | e0
  · have he : pick3 x y z (uptoF s 2) = x := by rw [e0]; rfl
    clear hu
    go_enter Try.func21,Try.ntmps21
    go_wp2_with (go_at_call 22; refine (upto_any _ _ _ _ (by decide) h hf).mono ?_; rintro e w1 ⟨rfl,hp⟩; have g0 := hp.cell hbq h0; have g1 := hp.cell hbq h1; have g2 := hp.cell hbq h2)
    go_ret
    exact ⟨by rw [he]; rfl,hp⟩
  · have he : pick3 x y z (uptoF s 2) = y := by rw [e0]; rfl
    clear hu
    go_enter Try.func21,Try.ntmps21
    go_wp2_with (go_at_call 22; refine (upto_any _ _ _ _ (by decide) h hf).mono ?_; rintro e w1 ⟨rfl,hp⟩; have g0 := hp.cell hbq h0; have g1 := hp.cell hbq h1; have g2 := hp.cell hbq h2)
    go_ret
    exact ⟨by rw [he]; rfl,hp⟩
  · have he : pick3 x y z (uptoF s 2) = z := by rw [e0]; rfl
    clear hu
    go_enter Try.func21,Try.ntmps21
    go_wp2_with (go_at_call 22; refine (upto_any _ _ _ _ (by decide) h hf).mono ?_; rintro e w1 ⟨rfl,hp⟩; have g0 := hp.cell hbq h0; have g1 := hp.cell hbq h1; have g2 := hp.cell hbq h2)
    go_ret
    exact ⟨by rw [he]; rfl,hp⟩
end Go.Proofs.Ytadmcafbffjjbaa
/- Contracts of what a pot hands out: which numbers, and what is changed. -/
namespace Go.Proofs.Ytadmcafbffjjbaa
set_option linter.all false
open Go.RowKit

/-- Block b is a pot. -/
def Pt (w : World) (b : Nat) : Prop := ∃ t s,Bk w b t #[.int .u64 s]
/-- Of what lay under B, the pot alone may have been changed. -/
structure PB (b B : Nat) (w w' : World) : Prop where
  os : w'.os = w.os
  tape : w'.tape = w.tape
  output : w'.output = w.output
  size : w.heap.size ≤ w'.heap.size
  heap : ∀ k,k < B → k ≠ b → w'.heap[k]? = w.heap[k]?
section
variable {b B B' : Nat} {w w' w'' : World} {t : TypeId} {s : Int} {p : Addr}
theorem Pt.lt (h : Pt w b) : b < w.heap.size := by obtain ⟨t,s,h⟩ := h; exact h.lt
theorem Pt.alloc (h : Pt w b) (o : Obj) : Pt (w.alloc o) b := by obtain ⟨t,s,h⟩ := h; exact ⟨t,s,h.alloc o⟩
theorem Pt.drew (h : Pt w b) : Pt w.drew b := h
theorem Pt.other (h : Pt w b) (hp : b ≠ p.block) (u : Value) : Pt (w.setCell p u) b := by obtain ⟨t,s,h⟩ := h; exact ⟨t,s,h.other hp u⟩
theorem Pt.below (h : Pt w b) (hb : Below B w w') (hg : b < B) : Pt w' b := by obtain ⟨t,s,h⟩ := h; exact ⟨t,s,h.below hb hg⟩
theorem Pt.grown {row : Option Nat} (h : Pt w b) (hb : w.grownBy w' row) (hg : some b ≠ row) : Pt w' b := by obtain ⟨t,s,h⟩ := h; exact ⟨t,s,h.grown hb hg⟩
theorem PB.refl (b B : Nat) (w : World) : PB b B w w := ⟨rfl,rfl,rfl,Nat.le_refl _,fun _ _ _ => rfl⟩
theorem PB.trans (h : PB b B w w') (h' : PB b B' w' w'') (hB : B ≤ B') : PB b B w w'' := ⟨h'.os.trans h.os,h'.tape.trans h.tape,h'.output.trans h.output,Nat.le_trans h.size h'.size,fun k hk hb => (h'.heap k (Nat.lt_of_lt_of_le hk hB) hb).trans (h.heap k hk hb)⟩
theorem PB.below (h : PB b B w w') (h' : Below B' w' w'') (hB : B ≤ B') : PB b B w w'' := ⟨h'.os.trans h.os,h'.tape.trans h.tape,h'.output.trans h.output,Nat.le_trans h.size h'.size,fun k hk hb => (h'.block k (Nat.lt_of_lt_of_le hk hB)).trans (h.heap k hk hb)⟩
theorem PB.of (h : Below B w w') : PB b B w w' := ⟨h.os,h.tape,h.output,h.size,fun k hk _ => h.block k hk⟩
theorem PB.toBelow (h : PB b B w w') (hB : B ≤ b) : Below B w w' := ⟨h.os,h.tape,h.output,h.size,fun k hk => h.heap k hk (by omega)⟩
theorem PB.mono (h : PB b B w w') (hB : B' ≤ B) : PB b B' w w' := ⟨h.os,h.tape,h.output,h.size,fun k hk => h.heap k (by omega)⟩
theorem PB.alloc (h : PB b B w w') (hB : B ≤ w'.heap.size) (o : Obj) : PB b B w (w'.alloc o) := h.below ((Below.refl _ _).alloc hB o) (Nat.le_refl _)
theorem PB.setCell (h : PB b B w w') (hp : B ≤ p.block) (u : Value) : PB b B w (w'.setCell p u) := h.below ((Below.refl _ _).setCell hp u) (Nat.le_refl _)
/-- Blocks, ranges and numbers that are no pot are as they were. -/
theorem Bk.pb {g : Nat} {cs : Array Value} (h : Bk w g t cs) (hk : PB b B w w') (hg : g < B) (hb : g ≠ b) : Bk w' g t cs := (hk.heap g hg hb).trans h
theorem Pt.cell {i : Nat} {v : Value} (h : Pt w b) (hc : w.cell? ⟨b,i,none⟩ = some v) : ∃ s,v = .int .u64 s := by
  obtain ⟨t,s,h⟩ := h
  rw [cell_of_row w b i _ t (0,0) h] at hc
  cases i with
  | zero => exact ⟨s,by simpa using hc.symm⟩
  | succ i => simp at hc
theorem PB.cell (h : PB b B w w') (hp : p.block < B) (hb : p.block ≠ b) : w'.cell? p = w.cell? p := World.cell?_of_block (h.heap _ hp hb)
theorem Rg.pb {a : Option Addr} {l : List R2} (h : Rg w w.heap.size a l) (hp : Pt w b) (hk : PB b w.heap.size w w') : Rg w' w'.heap.size a l := fun k r hr => by
  obtain ⟨g,off,e,hg,h1,h2⟩ := h k r hr
  have hne : g ≠ b := by
    rintro rfl
    obtain ⟨s,e⟩ := hp.cell h1
    cases e
  have := hk.size
  exact ⟨g,off,e,by omega,(hk.cell hg hne).trans h1,(hk.cell hg hne).trans h2⟩
theorem Is.pb {a : Option Addr} {l : List Int} (h : Is w w.heap.size a l) (hp : Pt w b) (hk : PB b w.heap.size w w') : Is w' w'.heap.size a l := fun k r hr => by
  obtain ⟨g,off,e,hg,h1⟩ := h k r hr
  have hne : g ≠ b := by
    rintro rfl
    obtain ⟨s,e⟩ := hp.cell h1
    cases e
  have := hk.size
  exact ⟨g,off,e,by omega,(hk.cell hg hne).trans h1⟩
theorem Put.pb {s' : Int} (hb : Bk w b t #[.int .u64 s]) (h : Put w w' b s s') : PB b w.heap.size w w' ∧ Pt w' b := by
  rcases h with rfl | ⟨rfl,_⟩
  · exact ⟨⟨rfl,rfl,rfl,by simp,fun k hk hkb => Below.heap_setCell w _ _ k hkb⟩,t,s',hb.put1 _⟩
  · exact ⟨PB.refl _ _ _,t,s,hb⟩
end

/-- What is said of a call that takes numbers out of a pot. -/
def PotEnd (b : Nat) (w : World) (P : Int → Prop) (e : Ending) (w' : World) : Prop := ∃ x,e = .returned (.int .i64 x) ∧ P x ∧ PB b w.heap.size w w' ∧ Pt w' b
theorem uptoP (b : Nat) (m : Int) (w : World) (hp : Pt w b) (hm : 0 ≤ m ∧ m ≤ 1000) : Calls Try.prog 22 #[.pointer (some ⟨b,0,none⟩),.int .i64 m] w (PotEnd b w fun x => 0 ≤ x ∧ x ≤ m) := by
  obtain ⟨t,s,hb⟩ := hp
  refine (upto_any b s m w hm.2 (hb.at_ 0 _ rfl) (hb.free 0)).mono ?_
  rintro e w' ⟨rfl,hput⟩
  have h1 := uptoF_in s m hm.2
  have h2 := hput.pb hb
  exact ⟨_,rfl,by omega,h2.1,h2.2⟩
set_option maxHeartbeats 400000 in
theorem withinP (b : Nat) (lo hi : Int) (w : World) (hp : Pt w b) (h : -400 ≤ lo ∧ lo ≤ hi ∧ hi ≤ 400) : Calls Try.prog 17 #[.pointer (some ⟨b,0,none⟩),.int .i64 lo,.int .i64 hi] w (PotEnd b w fun x => lo ≤ x ∧ x ≤ hi) := by
  obtain ⟨h1,h2,h3⟩ := h
  go_enter Try.func17,Try.ntmps17
  go_wp2_with (go_at_call 22; refine (uptoP _ _ _ hp (by omega)).mono ?_; rintro e w1 ⟨x,rfl,hx,hk,hp1⟩; obtain ⟨hx1,hx2⟩ := hx)
  go_ret
  exact ⟨_,rfl,by omega,hk,hp1⟩
end Go.Proofs.Ytadmcafbffjjbaa
/- What the laws take from pots and jobs made of numbers. -/
namespace Go.Proofs.Ytadmcafbffjjbaa
set_option linter.all false
open Go.RowKit
theorem Rg.hi {w : World} {g : Nat} {a : Option Addr} {l : List R2} (h : Rg w g a l) (hg : g ≤ w.heap.size) : Rg w w.heap.size a l := h.keep hg (fun _ _ => rfl)
end Go.Proofs.Ytadmcafbffjjbaa
