/- Part 5 of the proof: NX, GdA. -/
import Derived.OwnWalk
import Derived.Test.YtadmcafbffjjbaaE04
import Derived.Test.YtadmcafbffjjbaaE00
import Derived.Test.YtadmcafbffjjbaaE01
namespace Go.Proofs.Ytadmcafbffjjbaa
set_option linter.all false
open Go.RowKit Go.Shelf
noncomputable def nxbody : Code := Try.f14.body.getD .skip
noncomputable def nxrest1 : Code := sndB nxbody
noncomputable def nxrest2 : Code := sndB nxrest1
noncomputable def nxrest3 : Code := sndB nxrest2
noncomputable def nxrest4 : Code := sndB nxrest3
set_option maxRecDepth 1000000 in
theorem nxbody_eq : nxbody = .seq (Code.region 0 #[⟨some 1,.box 30 (.tmp 0),0,"game.go:40",#[],none⟩,⟨some 2,.assign (.const (.int .i64 0)),3,"game.go:40",#[],none⟩,⟨some 3,.assign (.const (.int .i64 0)),3,"game.go:40",#[⟨1,.chain⟩],none⟩,⟨some 4,.assign (.const (.int .i64 0)),39,"game.go:40",#[⟨2,.chain⟩],none⟩] false) nxrest1 := by kernel_rfl
set_option maxRecDepth 1000000 in
theorem nxrest1_eq : nxrest1 = .seq (.seq (Code.region 1 #[⟨some 7,.load 30 (.tmp 1),30,"game.go:41",#[],none⟩,⟨some 8,.call { callee := .value (.func 47),args := #[.tmp 7],argTypes := #[30] },39,"game.go:41",#[⟨0,.data⟩],none⟩,⟨some 5,.assign (.tmp 8),39,"game.go:41",#[⟨1,.data⟩,⟨1,.chain⟩,⟨0,.phase⟩,⟨1,.phase⟩],none⟩] false) (.seq (Code.region 2 #[⟨some 9,.move (.tmp 5),39,"game.go:41",#[],none⟩,⟨some 10,.binOp .neq 39 (.tmp 9) (.const (.int .i64 0)) 39,4,"game.go:41",#[⟨0,.data⟩],none⟩] false) (.cond (.tmp 10) (.seq (Code.region 3 #[⟨some 11,.move (.tmp 5),39,"game.go:42",#[⟨2,.gcOnly .lateStores⟩],none⟩,⟨some 2,.assign (.const (.int .i64 0)),3,"game.go:42",#[⟨0,.textOnly .lateStores⟩],none⟩,⟨some 3,.assign (.const (.int .i64 0)),3,"game.go:42",#[⟨1,.chain⟩,⟨0,.textOnly .lateStores⟩,⟨1,.phase⟩],none⟩,⟨some 4,.assign (.tmp 11),39,"game.go:42",#[⟨0,.data⟩,⟨2,.chain⟩,⟨0,.phase⟩,⟨1,.phase⟩,⟨2,.phase⟩],none⟩] false) .ret) .skip))) nxrest2 := by kernel_rfl
set_option maxRecDepth 1000000 in
theorem nxrest2_eq : nxrest2 = .seq (Code.region 4 #[⟨some 12,.load 30 (.tmp 1),30,"game.go:44",#[],none⟩,⟨some 13,.call { callee := .value (.func 48),args := #[.tmp 12],argTypes := #[30] },83,"game.go:44",#[⟨0,.data⟩],none⟩,⟨some 14,.fieldAddr 30 (.tmp 1) 0,0,"game.go:44",#[],none⟩,⟨some 15,.load 25 (.tmp 14),25,"game.go:44",#[⟨2,.data⟩],none⟩,⟨some 16,.build 91 #[(0,.tmp 15),(1,.const (.int .i64 4))],91,"game.go:44",#[⟨3,.data⟩],none⟩,⟨some 17,.call { callee := .value (.tmp 13),args := #[.tmp 16],argTypes := #[91] },89,"game.go:44",#[⟨1,.data⟩,⟨4,.data⟩,⟨1,.chain⟩],none⟩,⟨some 6,.alloc 89,0,"game.go:44",#[],none⟩,⟨none,.store 89 (.tmp 6) (.tmp 17),0,"game.go:44",#[⟨6,.data⟩,⟨5,.data⟩,⟨5,.chain⟩,⟨0,.phase⟩,⟨1,.phase⟩,⟨2,.phase⟩,⟨3,.phase⟩,⟨4,.phase⟩,⟨5,.phase⟩,⟨6,.phase⟩],none⟩] true) nxrest3 := by kernel_rfl
set_option maxRecDepth 1000000 in
theorem nxrest3_eq : nxrest3 = .seq (.seq (Code.region 5 #[⟨some 18,.fieldAddr 89 (.tmp 6) 1,0,"game.go:45",#[],none⟩,⟨some 19,.load 3 (.tmp 18),3,"game.go:45",#[⟨0,.data⟩],none⟩,⟨some 20,.binOp .eql 3 (.tmp 19) (.const (.int .i64 5)) 3,4,"game.go:45",#[⟨1,.data⟩],none⟩] false) (.cond (.tmp 20) (.seq (Code.region 6 #[⟨some 2,.assign (.const (.int .i64 0)),3,"game.go:46",#[],none⟩,⟨some 3,.assign (.const (.int .i64 0)),3,"game.go:46",#[⟨0,.chain⟩,⟨0,.phase⟩],none⟩,⟨some 4,.assign (.const (.int .i64 11)),39,"game.go:46",#[⟨1,.chain⟩,⟨0,.phase⟩,⟨1,.phase⟩],none⟩] false) .ret) .skip)) nxrest4 := by kernel_rfl
set_option maxRecDepth 1000000 in
theorem nxrest4_eq : nxrest4 = .seq (Code.region 7 #[⟨some 21,.fieldAddr 89 (.tmp 6) 0,0,"game.go:48",#[],none⟩,⟨some 22,.load 3 (.tmp 21),3,"game.go:48",#[⟨0,.data⟩],none⟩,⟨some 23,.fieldAddr 89 (.tmp 6) 1,0,"game.go:48",#[⟨4,.gcOnly .lateStores⟩],none⟩,⟨some 24,.load 3 (.tmp 23),3,"game.go:48",#[⟨2,.data⟩,⟨4,.gcOnly .lateStores⟩],none⟩,⟨some 2,.assign (.tmp 22),3,"game.go:48",#[⟨1,.data⟩,⟨0,.phase⟩,⟨1,.phase⟩,⟨2,.textOnly .lateStores⟩,⟨3,.textOnly .lateStores⟩],none⟩,⟨some 3,.assign (.tmp 24),3,"game.go:48",#[⟨3,.data⟩,⟨4,.chain⟩,⟨0,.phase⟩,⟨1,.phase⟩,⟨2,.phase⟩,⟨3,.phase⟩,⟨4,.phase⟩],none⟩,⟨some 4,.assign (.const (.int .i64 0)),39,"game.go:48",#[⟨5,.chain⟩,⟨0,.phase⟩,⟨1,.phase⟩,⟨2,.phase⟩,⟨3,.phase⟩,⟨4,.phase⟩,⟨5,.phase⟩],none⟩] true) .ret := by kernel_rfl
def nextI (J : Jb) : Int × Int × Int := if J.check = 0 then (if (bestM J 4 J.tg).2 = 5 then (0,0,11) else ((bestM J 4 J.tg).1,(bestM J 4 J.tg).2,0)) else (0,0,J.check)
def QNX (J : Jb) (w0 : World) : Exit → Act → World → Prop := bodyPost Try.prog Try.f14 fun e w' => e = .returned (.tuple #[.int .i64 (nextI J).1,.int .i64 (nextI J).2.1,.int .i64 (nextI J).2.2]) ∧ Below w0.heap.size w0 w'
theorem ret3 {k : IntKind} {a b c d e f : Int} (h1 : a = d) (h2 : b = e) (h3 : c = f) : Ending.returned (.tuple #[.int k a,.int k b,.int k c]) = .returned (.tuple #[.int k d,.int k e,.int k f]) := by rw [h1,h2,h3]
theorem tg_in4 {J : Jb} (h : J.Ok) : TgIn 4 J.tg := ⟨h.inn.tg.mono (by decide),h.p⟩
structure NS (J : Jb) (sa : Option Addr) (sn sc : Nat) (w0 : World) (g1 : Nat) (w : World) : Prop where
  b0 : Below w0.heap.size w0 w
  job : Bk w g1 30 (jobC J (.slice sa sn sc))
  rg0 : Rg w w0.heap.size sa J.sh
section
variable {J : Jb} {sa : Option Addr} {sn sc : Nat} {w0 w w' : World} {g1 : Nat}
theorem NS.rg (h : NS J sa sn sc w0 g1 w) : Rg w w.heap.size sa J.sh := h.rg0.keep h.b0.size fun _ _ => rfl
theorem NS.of (h : NS J sa sn sc w0 g1 w) (hb : Below w0.heap.size w w') (hj : Bk w' g1 30 (jobC J (.slice sa sn sc))) : NS J sa sn sc w0 g1 w' := ⟨h.b0.trans hb,hj,h.rg0.below hb⟩
theorem NS.next (h : NS J sa sn sc w0 g1 w) (hb : Below w.heap.size w w') : NS J sa sn sc w0 g1 w' := h.of (hb.mono h.b0.size) (h.job.below hb h.job.lt)
theorem NS.grown (h : NS J sa sn sc w0 g1 w) {bm cnt : Nat} (hg : w.grownBy w' (some bm)) (hM : Memo J w bm cnt) (hl : w0.heap.size ≤ bm) : NS J sa sn sc w0 g1 w' :=
  h.of ⟨hg.os,hg.tape,hg.output,hg.size,fun i hi => hg.block i (Nat.lt_of_lt_of_le hi h.b0.size) (fun e => by injection e with e; omega)⟩ (h.job.grown hg (fun e => bk_ne_memo h.job hM (by injection e)))
theorem NS.set (h : NS J sa sn sc w0 g1 w) {g6 : Nat} {t : TypeId} {cs : Array Value} (hl : w0.heap.size ≤ g6) (h6 : Bk w g6 t cs) (hs : cs.size ≠ 18) (o : Nat) (v : Value) : NS J sa sn sc w0 g1 (w.setCell ⟨g6,o,none⟩ v) :=
  h.of ((Below.refl _ _).setCell hl v) (h.job.other (by
    rintro rfl
    have a := h.job
    unfold Bk at a h6
    rw [a] at h6
    injection h6 with h6
    injection h6 with h6
    rw [← h6] at hs
    exact hs rfl) v)
end
theorem check_me {J : Jb} (h : J.check = 0) : 0 ≤ J.me ∧ J.me ≤ 6 := by
  unfold Jb.check at h
  by_cases h0 : J.head = 0
  · rw [if_pos h0] at h
    by_cases h1 : 4 < J.sh.length
    · rw [if_pos h1] at h; omega
    · rw [if_neg h1] at h
      by_cases h2 : shE J.sh = 0
      · rw [if_pos h2] at h
        have b := firstE_ok _ h
        have b2 := numE_ok (b _ (by simp : numE J.me 0 6 ∈ _))
        omega
      · rw [if_neg h2] at h; exact absurd h h2
  · rw [if_neg h0] at h; exact absurd h h0
set_option maxHeartbeats 4000000 in
set_option maxRecDepth 1000000 in
theorem nxpart4 {J : Jb} {w0 w : World} {g6 : Nat} {u0 u1 u2 u3 u4 u5 u7 u8 u9 u10 u11 u12 u13 u14 u15 u16 u17 u18 u19 u20 u21 u22 u23 u24 : Value} (h6 : Bk w g6 89 #[.int .i64 (bestM J 4 J.tg).1,.int .i64 (bestM J 4 J.tg).2]) (hB : Below w0.heap.size w0 w) (hc : J.check = 0) (h5 : ¬ (bestM J 4 J.tg).2 = 5) : Code.wp Try.prog nxrest4 (QNX J w0) ⟨#[u0,u1,u2,u3,u4,u5,(.pointer (some ⟨g6,0,none⟩)),u7,u8,u9,u10,u11,u12,u13,u14,u15,u16,u17,u18,u19,u20,u21,u22,u23,u24],[]⟩ w := by
  rw [nxrest4_eq]
  have z0 := h6.at_ 0 (.int .i64 (bestM J 4 J.tg).1) rfl
  have z1 := h6.at_ 1 (.int .i64 (bestM J 4 J.tg).2) rfl
  have e1 : (nextI J) = ((bestM J 4 J.tg).1,(bestM J 4 J.tg).2,0) := by unfold nextI; rw [if_pos hc,if_neg h5]
  have HB := hidMk hB
  have HE := hidMk e1
  have H6 := hidMk h6
  clear h6 hB e1 h5 hc
  refine wp_seq_k fun K0 hKK => ?_
  refine region_via (R := fun a_ e a' w' => e = .normal ∧ ∃ (v21 v22 v23 v24 : Value),a' = (((((((a_.put (some 21) v21).put (some 22) v22).put (some 23) v23).put (some 24) v24).put (some 2) (.int .i64 (bestM J 4 J.tg).1)).put (some 3) (.int .i64 (bestM J 4 J.tg).2)).put (some 4) (.int .i64 0)) ∧ Below w0.heap.size w0 w') ?_ ?_
  rotate_left
  · rintro e a' w' ⟨rfl,v21,v22,v23,v24,rfl,hb⟩
    refine hKK _ _ ?_
    simp only [Act.put,aT,aZ,aS]
    unfold QNX
    go_wp2_with fail
    go_ret3
    exact ⟨ret3 (by rw [HE.out]) (by rw [HE.out]) (by rw [HE.out]),hb⟩
  have hS : (Below w0.heap.size w0 w.drew ∧ Bk w.drew g6 89 #[.int .i64 (bestM J 4 J.tg).1,.int .i64 (bestM J 4 J.tg).2]) := ⟨HB.out.drew,H6.out⟩
  refine wp_region_held_drew (S := fun w' => Below w0.heap.size w0 w' ∧ Bk w' g6 89 #[.int .i64 (bestM J 4 J.tg).1,.int .i64 (bestM J 4 J.tg).2]) (by kernel_rfl) hS (fun hS0 => ?_)
  generalize hWd : w.drew = wd at hS0 hS ⊢
  clear hWd z0 z1
  refine wpAnyH_take (i := 0) (v := ?_) rfl (by kernel_rfl) (by kernel_rfl) (by kernel_rfl) (fun _ _ _ h => by cases h.1) (.inl ⟨by rfl,?_⟩) (by assumption) ?_
  rotate_left
  · (intro w' hSw; (try dsimp only at hSw); skip; go_simp <;> with_reducible rfl)
  (try simp only [Act.put,aT,aZ,aS])
  refine wpAnyH_take (i := 1) (v := ?_) rfl (by kernel_rfl) (by kernel_rfl) (by kernel_rfl) (fun _ _ _ h => by cases h.1) (.inl ⟨by rfl,?_⟩) (by assumption) ?_
  rotate_left
  · (intro w' hSw; (try dsimp only at hSw); have q := hSw.2.at_ 0 (.int .i64 (bestM J 4 J.tg).1) rfl; go_simp <;> with_reducible rfl)
  (try simp only [Act.put,aT,aZ,aS])
  refine wpAnyH_take (i := 2) (v := ?_) rfl (by kernel_rfl) (by kernel_rfl) (by kernel_rfl) (fun _ _ _ h => by cases h.1) (.inl ⟨by rfl,?_⟩) (by assumption) ?_
  rotate_left
  · (intro w' hSw; (try dsimp only at hSw); skip; go_simp <;> with_reducible rfl)
  (try simp only [Act.put,aT,aZ,aS])
  refine wpAnyH_take (i := 3) (v := ?_) rfl (by kernel_rfl) (by kernel_rfl) (by kernel_rfl) (fun _ _ _ h => by cases h.1) (.inl ⟨by rfl,?_⟩) (by assumption) ?_
  rotate_left
  · (intro w' hSw; (try dsimp only at hSw); have q := hSw.2.at_ 1 (.int .i64 (bestM J 4 J.tg).2) rfl; go_simp <;> with_reducible rfl)
  (try simp only [Act.put,aT,aZ,aS])
  refine wpAnyH_ready (rs := [4]) (by kernel_rfl) (by simp) ?_
  refine AllReadyH.cons rfl (fun K hK => ?_) ?_
  · go_simp
    refine hK.out _ _ hS (fun _ => ?_)
    clear hK K
    (try simp only [Act.put,aT,aZ,aS])
    refine wpAnyH_ready (rs := [5]) (by kernel_rfl) (by simp) ?_
    refine AllReadyH.cons rfl (fun K hK => ?_) ?_
    · go_simp
      refine hK.out _ _ hS (fun _ => ?_)
      clear hK K
      (try simp only [Act.put,aT,aZ,aS])
      refine wpAnyH_ready (rs := [6]) (by kernel_rfl) (by simp) ?_
      refine AllReadyH.cons rfl (fun K hK => ?_) ?_
      · go_simp
        refine hK.out _ _ hS (fun _ => ?_)
        clear hK K
        (try simp only [Act.put,aT,aZ,aS])
        refine wpAnyH_done (by kernel_rfl) ?_ _
        exact ⟨rfl,_,_,_,_,rfl,hS.1⟩
      exact AllReadyH.nil
    exact AllReadyH.nil
  exact AllReadyH.nil
set_option maxHeartbeats 4000000 in
set_option maxRecDepth 1000000 in
theorem nxpart3 {J : Jb} {w0 w : World} {g6 : Nat} {u0 u1 u2 u3 u4 u5 u7 u8 u9 u10 u11 u12 u13 u14 u15 u16 u17 u18 u19 u20 u21 u22 u23 u24 : Value} (h6 : Bk w g6 89 #[.int .i64 (bestM J 4 J.tg).1,.int .i64 (bestM J 4 J.tg).2]) (hB : Below w0.heap.size w0 w) (hc : J.check = 0) : Code.wp Try.prog nxrest3 (QNX J w0) ⟨#[u0,u1,u2,u3,u4,u5,(.pointer (some ⟨g6,0,none⟩)),u7,u8,u9,u10,u11,u12,u13,u14,u15,u16,u17,u18,u19,u20,u21,u22,u23,u24],[]⟩ w := by
  rw [nxrest3_eq]
  have z1 := h6.at_ 1 (.int .i64 (bestM J 4 J.tg).2) rfl
  have H6 := hidMk h6
  have HB := hidMk hB
  have HC := hidMk hc
  clear h6 hB hc
  by_cases h5 : (bestM J 4 J.tg).2 = 5
  · have e1 : (nextI J) = (0,0,11) := by unfold nextI; rw [if_pos HC.out,if_pos h5]
    rw [h5] at z1
    have HE := hidMk e1
    have H5 := hidMk h5
    clear e1 h5
    unfold QNX
    go_wp2_with fail
    go_ret3
    exact ⟨ret3 (by rw [HE.out]) (by rw [HE.out]) (by rw [HE.out]),HB.out⟩
  · have H5 := hidMk h5
    have hb5 : ((bestM J 4 J.tg).2 == 5) = false := by rw [beq_eq_false_iff_ne]; exact h5
    clear h5
    go_wp2_with fail
    exact nxpart4 H6.out HB.out HC.out H5.out
set_option maxHeartbeats 4000000 in
set_option maxRecDepth 1000000 in
theorem nxpart2 {J : Jb} {sa : Option Addr} {sn sc : Nat} {w0 w : World} {g1 : Nat} {u0 u2 u3 u4 u5 u6 u7 u8 u9 u10 u11 u12 u13 u14 u15 u16 u17 u18 u19 u20 u21 u22 u23 u24 : Value} (hs : NS J sa sn sc w0 g1 w) (hc : J.check = 0) (hn : sn = J.sh.length) (hme : 0 ≤ J.me ∧ J.me ≤ 6) : Code.wp Try.prog nxrest2 (QNX J w0) ⟨#[u0,(.pointer (some ⟨g1,0,none⟩)),u2,u3,u4,u5,u6,u7,u8,u9,u10,u11,u12,u13,u14,u15,u16,u17,u18,u19,u20,u21,u22,u23,u24],[]⟩ w := by
  rw [nxrest2_eq]
  have HOK := hidMk (check_ok hc)
  have HN := hidMk hn
  have HC := hidMk hc
  have HME : Hid (0 ≤ J.me ∧ J.me ≤ 6) := hidMk hme
  have HU : Hid (J.u1 ≤ J.u2 ∧ J.d1 ≤ J.d2) := hidMk ⟨HOK.out.u,HOK.out.d⟩
  clear hc hn hme
  refine wp_seq_k fun K0 hKK => ?_
  refine region_via (R := fun a_ e a' w' => e = .normal ∧ ∃ (v12 v13 v14 v15 v16 v17 : Value) (g6 : Nat),a' = (((((((a_.put (some 12) v12).put (some 13) v13).put (some 14) v14).put (some 15) v15).put (some 16) v16).put (some 17) v17).put (some 6) (.pointer (some ⟨g6,0,none⟩))) ∧ Below w0.heap.size w0 w' ∧ Bk w' g6 89 #[.int .i64 (bestM J 4 J.tg).1,.int .i64 (bestM J 4 J.tg).2]) ?_ ?_
  rotate_left
  · rintro e a' w' ⟨rfl,v12,v13,v14,v15,v16,v17,g6,rfl,hb,h6⟩
    refine hKK _ _ ?_
    simp only [Act.put,aT,aZ,aS]
    exact nxpart3 h6 hb HC.out
  have hS : NS J sa sn sc w0 g1 w.drew := hs.next (Below.refl _ _).drew
  clear hs
  refine wp_region_held_drew (S := fun w' => NS J sa sn sc w0 g1 w') (by kernel_rfl) hS (fun hS0 => ?_)
  generalize hWd : w.drew = wd at hS0 hS ⊢
  clear hWd
  refine wpAnyH_take (i := 0) rfl (by kernel_rfl) (by kernel_rfl) (by kernel_rfl) (fun _ _ _ h => by cases h.1) (yields_row (by rfl) 30 _ rfl g1 (jobC J (.slice sa sn sc)) rfl 30 (fun w' hw => hw.job) Try.underlying30 szJob) (by assumption) ?_
  (try simp only [Act.put,aT,aZ,aS])
  refine wpAnyH_take (i := 2) (v := ?_) rfl (by kernel_rfl) (by kernel_rfl) (by kernel_rfl) (fun _ _ _ h => by cases h.1) (.inl ⟨by rfl,?_⟩) (by assumption) ?_
  rotate_left
  · (intro w' hSw; (try dsimp only at hSw); skip; go_simp <;> with_reducible rfl)
  (try simp only [Act.put,aT,aZ,aS])
  refine wpAnyH_take (i := 3) rfl (by kernel_rfl) (by kernel_rfl) (by kernel_rfl) (fun _ _ _ h => by cases h.1) (yields_midB (by rfl) 25 _ rfl g1 0 rfl #[.int .i64 J.p1,.int .i64 J.p2,.int .i64 J.t1,.int .i64 J.t2,.int .i64 J.r1,.int .i64 J.r2] _ (fun w hw => tg_row hw.job) Try.underlying25 rfl szTongue) (by assumption) ?_
  (try simp only [Act.put,aT,aZ,aS])
  refine wpAnyH_take (i := 4) (v := ?_) rfl (by kernel_rfl) (by kernel_rfl) (by kernel_rfl) (fun _ _ _ h => by cases h.1) (.inl ⟨by rfl,?_⟩) (by assumption) ?_
  rotate_left
  · (intro w' hSw; (try dsimp only at hSw); skip; go_simp <;> with_reducible rfl)
  (try simp only [Act.put,aT,aZ,aS])
  refine wpAnyH_ready (rs := [1,6]) (by kernel_rfl) (by simp) ?_
  refine AllReadyH.cons rfl (fun K hK => ?_) ?_
  · go_simp
    go_at_call 48
    refine (player_any J sa sn sc _ HOK.out.inn HN.out hS.rg).mono ?_
    rintro e wp ⟨Bw,Bf,Bj,Bb,bm,rfl,hE_,hM_,hb_,hbm_⟩
    have hE := hE_
    have hM := hM_
    have hlm : w0.heap.size ≤ bm := Nat.le_trans hS.b0.size hbm_
    have hS_ := hS.next hb_
    clear hS hE_ hM_ hb_ hbm_
    have hS := hS_
    clear hS_
    go_wp2_with fail
    refine hK.out _ _ hS (fun _ => ?_)
    clear hK K
    (try simp only [Act.put,aT,aZ,aS])
    refine wpAnyH_ready (rs := [5,6]) (by kernel_rfl) (by simp) ?_
    refine AllReadyH.cons rfl (fun K hK => ?_) ?_
    · go_simp
      go_at_call 77
      refine (best_all J sa sn sc Bw Bf Bj Bb bm HOK.out.inn HME.out HU.out 4 (by decide) J.tg 0 _ hE hM (tg_in4 HOK.out) (by decide)).mono ?_
      rintro e wb ⟨rfl,⟨cd,hcd,hmd⟩,hg_⟩
      have hS_ := hS.grown hg_ hM hlm
      clear hS hE hM hcd hmd hg_
      have hS := hS_
      clear hS_
      go_wp2_with fail
      refine hK.out _ _ hS (fun _ => ?_)
      clear hK K
      (try simp only [Act.put,aT,aZ,aS])
      refine wpAnyH_ready (rs := [6]) (by kernel_rfl) (by simp) ?_
      refine AllReadyH.cons rfl (fun K hK => ?_) ?_
      · have h6 : Bk (wb.alloc (.cells #[.int .i64 0,.int .i64 0] 89)) wb.heap.size 89 #[.int .i64 0,.int .i64 0] := Bk.new _ _ _
        have al_ : Below wb.heap.size wb (wb.alloc (.cells #[.int .i64 0,.int .i64 0] 89)) := (Below.refl _ _).alloc (Nat.le_refl _) _
        have hl6 : w0.heap.size ≤ wb.heap.size := hS.b0.size
        have hS_ := hS.next al_
        go_simp
        show K _ (wb.alloc (.cells #[.int .i64 0,.int .i64 0] 89))
        refine hK.out _ _ hS_ (fun _ => ?_)
        clear hS al_
        have hS := hS_
        clear hS_
        generalize wb.heap.size = g6 at h6 hl6 ⊢
        generalize (wb.alloc (.cells #[.int .i64 0,.int .i64 0] 89)) = wA at h6 hS  ⊢
        clear hK K
        (try simp only [Act.put,aT,aZ,aS])
        refine wpAnyH_ready (rs := [7]) (by kernel_rfl) (by simp) ?_
        refine AllReadyH.cons rfl (fun K hK => ?_) ?_
        · have z0 := h6.at_ 0 _ rfl
          have z1 := h6.at_ 1 _ rfl
          have f0 := h6.free 0
          have f1 := h6.free 1
          go_simp
          have h6_ := h6.put2 (.int .i64 (bestM J 4 J.tg).1) (.int .i64 (bestM J 4 J.tg).2)
          have hS_ := (hS.set hl6 h6 (by decide) 0 (.int .i64 (bestM J 4 J.tg).1)).set hl6 (h6.put 0 _) (by simp) 1 (.int .i64 (bestM J 4 J.tg).2)
          refine hK.out _ _ hS_ (fun _ => ?_)
          clear z0 z1 f0 f1 hS
          clear hK K
          (try simp only [Act.put,aT,aZ,aS])
          refine wpAnyH_done (by kernel_rfl) ?_ _
          exact ⟨rfl,_,_,_,_,_,_,_,rfl,hS_.b0,h6_⟩
        exact AllReadyH.nil
      exact AllReadyH.nil
    refine AllReadyH.cons rfl (fun K hK => ?_) ?_
    · have h6 : Bk (wp.alloc (.cells #[.int .i64 0,.int .i64 0] 89)) wp.heap.size 89 #[.int .i64 0,.int .i64 0] := Bk.new _ _ _
      have al_ : Below wp.heap.size wp (wp.alloc (.cells #[.int .i64 0,.int .i64 0] 89)) := (Below.refl _ _).alloc (Nat.le_refl _) _
      have hl6 : w0.heap.size ≤ wp.heap.size := hS.b0.size
      have hS_ := hS.next al_
      have hE_ := hE.below al_
      have hM_ := hM.kept (grown_of_below al_ none) (by simp)
      clear hE hM
      have hE := hE_
      have hM := hM_
      clear hE_ hM_
      go_simp
      show K _ (wp.alloc (.cells #[.int .i64 0,.int .i64 0] 89))
      refine hK.out _ _ hS_ (fun _ => ?_)
      clear hS al_
      have hS := hS_
      clear hS_
      generalize wp.heap.size = g6 at h6 hl6 ⊢
      generalize (wp.alloc (.cells #[.int .i64 0,.int .i64 0] 89)) = wA at h6 hS hE hM ⊢
      clear hK K
      (try simp only [Act.put,aT,aZ,aS])
      refine wpAnyH_ready (rs := [5]) (by kernel_rfl) (by simp) ?_
      refine AllReadyH.cons rfl (fun K hK => ?_) ?_
      · go_simp
        go_at_call 77
        refine (best_all J sa sn sc Bw Bf Bj Bb bm HOK.out.inn HME.out HU.out 4 (by decide) J.tg 0 _ hE hM (tg_in4 HOK.out) (by decide)).mono ?_
        rintro e wb ⟨rfl,⟨cd,hcd,hmd⟩,hg_⟩
        have hS_ := hS.grown hg_ hM hlm
        have h6_ := h6.grown hg_ (fun e => bk_ne_memo h6 hM (by injection e))
        clear h6
        have h6 := h6_
        clear h6_
        clear hS hE hM hcd hmd hg_
        have hS := hS_
        clear hS_
        go_wp2_with fail
        refine hK.out _ _ hS (fun _ => ?_)
        clear hK K
        (try simp only [Act.put,aT,aZ,aS])
        refine wpAnyH_ready (rs := [7]) (by kernel_rfl) (by simp) ?_
        refine AllReadyH.cons rfl (fun K hK => ?_) ?_
        · have z0 := h6.at_ 0 _ rfl
          have z1 := h6.at_ 1 _ rfl
          have f0 := h6.free 0
          have f1 := h6.free 1
          go_simp
          have h6_ := h6.put2 (.int .i64 (bestM J 4 J.tg).1) (.int .i64 (bestM J 4 J.tg).2)
          have hS_ := (hS.set hl6 h6 (by decide) 0 (.int .i64 (bestM J 4 J.tg).1)).set hl6 (h6.put 0 _) (by simp) 1 (.int .i64 (bestM J 4 J.tg).2)
          refine hK.out _ _ hS_ (fun _ => ?_)
          clear z0 z1 f0 f1 hS
          clear hK K
          (try simp only [Act.put,aT,aZ,aS])
          refine wpAnyH_done (by kernel_rfl) ?_ _
          exact ⟨rfl,_,_,_,_,_,_,_,rfl,hS_.b0,h6_⟩
        exact AllReadyH.nil
      exact AllReadyH.nil
    exact AllReadyH.nil
  refine AllReadyH.cons rfl (fun K hK => ?_) ?_
  · have h6 : Bk (wd.alloc (.cells #[.int .i64 0,.int .i64 0] 89)) wd.heap.size 89 #[.int .i64 0,.int .i64 0] := Bk.new _ _ _
    have al_ : Below wd.heap.size wd (wd.alloc (.cells #[.int .i64 0,.int .i64 0] 89)) := (Below.refl _ _).alloc (Nat.le_refl _) _
    have hl6 : w0.heap.size ≤ wd.heap.size := hS.b0.size
    have hS_ := hS.next al_
    go_simp
    show K _ (wd.alloc (.cells #[.int .i64 0,.int .i64 0] 89))
    refine hK.out _ _ hS_ (fun _ => ?_)
    clear hS al_
    have hS := hS_
    clear hS_
    generalize wd.heap.size = g6 at h6 hl6 ⊢
    generalize (wd.alloc (.cells #[.int .i64 0,.int .i64 0] 89)) = wA at h6 hS  ⊢
    clear hK K
    (try simp only [Act.put,aT,aZ,aS])
    refine wpAnyH_ready (rs := [1]) (by kernel_rfl) (by simp) ?_
    refine AllReadyH.cons rfl (fun K hK => ?_) ?_
    · go_simp
      go_at_call 48
      refine (player_any J sa sn sc _ HOK.out.inn HN.out hS.rg).mono ?_
      rintro e wp ⟨Bw,Bf,Bj,Bb,bm,rfl,hE_,hM_,hb_,hbm_⟩
      have hE := hE_
      have hM := hM_
      have hlm : w0.heap.size ≤ bm := Nat.le_trans hS.b0.size hbm_
      have h6_ := h6.below hb_ h6.lt
      clear h6
      have h6 := h6_
      clear h6_
      have hS_ := hS.next hb_
      clear hS hE_ hM_ hb_ hbm_
      have hS := hS_
      clear hS_
      go_wp2_with fail
      refine hK.out _ _ hS (fun _ => ?_)
      clear hK K
      (try simp only [Act.put,aT,aZ,aS])
      refine wpAnyH_ready (rs := [5]) (by kernel_rfl) (by simp) ?_
      refine AllReadyH.cons rfl (fun K hK => ?_) ?_
      · go_simp
        go_at_call 77
        refine (best_all J sa sn sc Bw Bf Bj Bb bm HOK.out.inn HME.out HU.out 4 (by decide) J.tg 0 _ hE hM (tg_in4 HOK.out) (by decide)).mono ?_
        rintro e wb ⟨rfl,⟨cd,hcd,hmd⟩,hg_⟩
        have hS_ := hS.grown hg_ hM hlm
        have h6_ := h6.grown hg_ (fun e => bk_ne_memo h6 hM (by injection e))
        clear h6
        have h6 := h6_
        clear h6_
        clear hS hE hM hcd hmd hg_
        have hS := hS_
        clear hS_
        go_wp2_with fail
        refine hK.out _ _ hS (fun _ => ?_)
        clear hK K
        (try simp only [Act.put,aT,aZ,aS])
        refine wpAnyH_ready (rs := [7]) (by kernel_rfl) (by simp) ?_
        refine AllReadyH.cons rfl (fun K hK => ?_) ?_
        · have z0 := h6.at_ 0 _ rfl
          have z1 := h6.at_ 1 _ rfl
          have f0 := h6.free 0
          have f1 := h6.free 1
          go_simp
          have h6_ := h6.put2 (.int .i64 (bestM J 4 J.tg).1) (.int .i64 (bestM J 4 J.tg).2)
          have hS_ := (hS.set hl6 h6 (by decide) 0 (.int .i64 (bestM J 4 J.tg).1)).set hl6 (h6.put 0 _) (by simp) 1 (.int .i64 (bestM J 4 J.tg).2)
          refine hK.out _ _ hS_ (fun _ => ?_)
          clear z0 z1 f0 f1 hS
          clear hK K
          (try simp only [Act.put,aT,aZ,aS])
          refine wpAnyH_done (by kernel_rfl) ?_ _
          exact ⟨rfl,_,_,_,_,_,_,_,rfl,hS_.b0,h6_⟩
        exact AllReadyH.nil
      exact AllReadyH.nil
    exact AllReadyH.nil
  exact AllReadyH.nil
set_option maxHeartbeats 4000000 in
set_option maxRecDepth 1000000 in
theorem nxpart1 {J : Jb} {sa : Option Addr} {sn sc : Nat} {w0 w : World} {g1 : Nat} {u0 u2 u3 u4 u5 u6 u7 u8 u9 u10 u11 u12 u13 u14 u15 u16 u17 u18 u19 u20 u21 u22 u23 u24 : Value} (hs : NS J sa sn sc w0 g1 w) (hn : sn = J.sh.length) (hm : sn ≤ 9223372036854775807) : Code.wp Try.prog nxrest1 (QNX J w0) ⟨#[u0,(.pointer (some ⟨g1,0,none⟩)),u2,u3,u4,u5,u6,u7,u8,u9,u10,u11,u12,u13,u14,u15,u16,u17,u18,u19,u20,u21,u22,u23,u24],[]⟩ w := by
  rw [nxrest1_eq]
  have HS := hidMk hs
  have HN := hidMk hn
  clear hs hn
  go_wp2_with (refine wpList_load_row rfl 30 _ rfl g1 rfl _ (jobC J (.slice sa sn sc)) _ _ HS.out.job Try.underlying30 rfl szJob ?_)
  refine (check_any J sa sn sc _ HN.out hm HS.out.rg).mono ?_
  rintro e w1 ⟨rfl,hb1⟩
  have HS1 := hidMk (HS.out.next hb1)
  clear hb1
  by_cases hc : J.check = 0
  · have hb0 : (J.check != 0) = false := by simp [hc]
    have HC := hidMk hc
    clear hc
    go_wp2_with fail
    exact nxpart2 HS1.out HC.out HN.out (by have := check_me HC.out; exact this)
  · have hb0 : (J.check != 0) = true := by simpa using hc
    have e1 : (nextI J) = (0,0,J.check) := by unfold nextI; rw [if_neg hc]
    have HE := hidMk e1
    clear hc e1
    unfold QNX
    go_wp2_with fail
    go_ret3
    exact ⟨ret3 (by rw [HE.out]) (by rw [HE.out]) (by rw [HE.out]),HS1.out.b0⟩
set_option maxHeartbeats 4000000 in
set_option maxRecDepth 1000000 in
theorem next_any (J : Jb) (sa : Option Addr) (sn sc : Nat) (w : World) (hn : sn = J.sh.length) (hm : sn ≤ 9223372036854775807) (h : Rg w w.heap.size sa J.sh) :
    Calls Try.prog 14 #[.agg (jobC J (.slice sa sn sc))] w fun e w' => e = .returned (.tuple #[.int .i64 (nextI J).1,.int .i64 (nextI J).2.1,.int .i64 (nextI J).2.2]) ∧ Below w.heap.size w w' := by
  have q0 : Below w.heap.size w (w.alloc (.cells (jobC J (.slice sa sn sc)) 30)) := (Below.refl _ _).alloc (Nat.le_refl _) _
  have hs : NS J sa sn sc w w.heap.size (w.alloc (.cells (jobC J (.slice sa sn sc)) 30)) := ⟨q0,Bk.new _ _ _,h.below q0⟩
  have HS := hidMk hs
  have HN := hidMk hn
  clear q0 hs h hn
  go_enter Try.func14,Try.ntmps14
  show Code.wp Try.prog nxbody (QNX J w) _ _
  rw [nxbody_eq]
  go_wp2_with fail
  exact nxpart1 HS.out HN.out hm
end Go.Proofs.Ytadmcafbffjjbaa
namespace Go.Proofs.Ytadmcafbffjjbaa
set_option linter.all false
open Go.RowKit Go.Shelf
noncomputable def gdbody : Code := Try.f12.body.getD .skip
noncomputable def gdrest1 : Code := sndB gdbody
noncomputable def gdrest2 : Code := sndB gdrest1
noncomputable def gdrest3 : Code := sndB gdrest2
noncomputable def gdrest4 : Code := sndB gdrest3
noncomputable def gdrest5 : Code := sndB gdrest4
set_option maxRecDepth 1000000 in
theorem gdbody_eq : gdbody = .seq (Code.region 0 #[⟨some 1,.box 30 (.tmp 0),0,"game.go:22",#[],none⟩,⟨some 2,.alloc 3,0,"game.go:22",#[],none⟩,⟨some 3,.alloc 39,0,"game.go:22",#[],none⟩] false) gdrest1 := by kernel_rfl
set_option maxRecDepth 1000000 in
theorem gdrest1_eq : gdrest1 = .seq (.seq (Code.region 1 #[⟨some 9,.load 30 (.tmp 1),30,"game.go:23",#[],none⟩,⟨some 10,.call { callee := .value (.func 47),args := #[.tmp 9],argTypes := #[30] },39,"game.go:23",#[⟨0,.data⟩],none⟩,⟨some 4,.assign (.tmp 10),39,"game.go:23",#[⟨1,.data⟩,⟨1,.chain⟩,⟨0,.phase⟩,⟨1,.phase⟩],none⟩] false) (.seq (Code.region 2 #[⟨some 11,.move (.tmp 4),39,"game.go:23",#[],none⟩,⟨some 12,.binOp .neq 39 (.tmp 11) (.const (.int .i64 0)) 39,4,"game.go:23",#[⟨0,.data⟩],none⟩] false) (.cond (.tmp 12) (.seq (Code.region 3 #[⟨some 13,.move (.tmp 4),39,"game.go:24",#[⟨1,.gcOnly .lateStores⟩],none⟩,⟨none,.store 3 (.tmp 2) (.const (.int .i64 0)),0,"game.go:24",#[⟨0,.textOnly .lateStores⟩],none⟩,⟨none,.store 39 (.tmp 3) (.tmp 13),0,"game.go:24",#[⟨0,.data⟩,⟨1,.chain⟩,⟨0,.phase⟩,⟨1,.phase⟩],none⟩] false) .ret) .skip))) gdrest2 := by kernel_rfl
set_option maxRecDepth 1000000 in
theorem gdrest2_eq : gdrest2 = .seq (Code.region 4 #[⟨some 14,.load 30 (.tmp 1),30,"game.go:26",#[],none⟩,⟨some 15,.call { callee := .value (.func 48),args := #[.tmp 14],argTypes := #[30] },83,"game.go:26",#[⟨0,.data⟩],none⟩,⟨some 5,.alloc 83,0,"game.go:26",#[],none⟩,⟨none,.store 83 (.tmp 5) (.tmp 15),0,"game.go:26",#[⟨2,.data⟩,⟨1,.data⟩,⟨1,.chain⟩,⟨0,.phase⟩,⟨1,.phase⟩,⟨2,.phase⟩],none⟩] false) gdrest3 := by kernel_rfl
set_option maxRecDepth 1000000 in
theorem gdrest3_eq : gdrest3 = .seq (Code.region 5 #[⟨some 6,.alloc 3,0,"game.go:27",#[],none⟩,⟨none,.store 3 (.tmp 6) (.const (.int .i64 0)),0,"game.go:27",#[⟨0,.data⟩,⟨0,.phase⟩],none⟩] false) gdrest4 := by kernel_rfl
set_option maxRecDepth 1000000 in
theorem gdrest5_eq : gdrest5 = .seq (Code.region 13 #[⟨some 36,.load 3 (.tmp 6),3,"game.go:36",#[],none⟩,⟨none,.store 3 (.tmp 2) (.tmp 36),0,"game.go:36",#[⟨0,.data⟩,⟨0,.phase⟩],none⟩,⟨none,.store 39 (.tmp 3) (.const (.int .i64 0)),0,"game.go:36",#[⟨1,.chain⟩,⟨0,.phase⟩,⟨1,.phase⟩],none⟩] false) .ret := by kernel_rfl
noncomputable def gfa : Code := ((rfB gdrest4).getD (.skip,.skip)).1
noncomputable def gfb : Code := ((rfB gdrest4).getD (.skip,.skip)).2
noncomputable def gfc : Code := ((blkB gfb).getD .skip)
noncomputable def gb0 : Code := gfc
noncomputable def gb1 : Code := sndB gb0
noncomputable def gb2 : Code := sndB gb1
noncomputable def gb3 : Code := sndB gb2
set_option maxRecDepth 1000000 in
theorem gb0_eq : gb0 = .seq (Code.region 8 #[⟨some 23,.fieldAddr 30 (.tmp 1) 0,0,"game.go:29",#[],none⟩,⟨some 24,.load 25 (.tmp 23),25,"game.go:29",#[⟨0,.data⟩],none⟩,⟨some 8,.alloc 25,0,"game.go:29",#[],none⟩,⟨none,.store 25 (.tmp 8) (.tmp 24),0,"game.go:29",#[⟨2,.data⟩,⟨1,.data⟩,⟨0,.phase⟩,⟨1,.phase⟩,⟨2,.phase⟩],none⟩] false) gb1 := by kernel_rfl
set_option maxRecDepth 1000000 in
theorem gb1_eq : gb1 = .seq (Code.region 9 #[⟨some 25,.load 23 (.tmp 7),23,"game.go:30",#[],none⟩,⟨some 26,.fieldAddr 25 (.tmp 8) 0,0,"game.go:30",#[⟨0,.phase⟩],none⟩,⟨none,.store 23 (.tmp 26) (.tmp 25),0,"game.go:30",#[⟨1,.data⟩,⟨0,.data⟩,⟨0,.phase⟩],none⟩] false) gb2 := by kernel_rfl
set_option maxRecDepth 1000000 in
theorem gb2_eq : gb2 = .seq (Code.region 10 #[⟨some 27,.load 3 (.tmp 6),3,"game.go:31",#[],none⟩,⟨some 28,.load 83 (.tmp 5),83,"game.go:31",#[],none⟩,⟨some 29,.load 25 (.tmp 8),25,"game.go:31",#[],none⟩,⟨some 30,.build 91 #[(0,.tmp 29),(1,.const (.int .i64 4))],91,"game.go:31",#[⟨2,.data⟩],none⟩,⟨some 31,.call { callee := .value (.tmp 28),args := #[.tmp 30],argTypes := #[91] },89,"game.go:31",#[⟨1,.data⟩,⟨3,.data⟩],none⟩,⟨some 32,.field 89 (.tmp 31) 1,3,"game.go:31",#[⟨4,.data⟩],none⟩,⟨some 33,.call { callee := .builtin .max,args := #[.tmp 27,.tmp 32],argTypes := #[3,3] },3,"game.go:31",#[⟨0,.data⟩,⟨5,.data⟩],none⟩,⟨none,.store 3 (.tmp 6) (.tmp 33),0,"game.go:31",#[⟨6,.data⟩,⟨4,.chain⟩,⟨0,.phase⟩,⟨1,.phase⟩,⟨2,.phase⟩,⟨3,.phase⟩,⟨4,.phase⟩,⟨5,.phase⟩,⟨6,.phase⟩],none⟩] true) gb3 := by kernel_rfl
set_option maxRecDepth 1000000 in
theorem gb3_eq : gb3 = .seq (Code.region 11 #[⟨some 34,.load 3 (.tmp 6),3,"game.go:32",#[],none⟩,⟨some 35,.binOp .eql 3 (.tmp 34) (.const (.int .i64 5)) 3,4,"game.go:32",#[⟨0,.data⟩],none⟩] false) (.cond (.tmp 35) (.seq (Code.region 12 #[⟨none,.store 3 (.tmp 2) (.const (.int .i64 0)),0,"game.go:33",#[],none⟩,⟨none,.store 39 (.tmp 3) (.const (.int .i64 11)),0,"game.go:33",#[⟨0,.chain⟩,⟨0,.phase⟩],none⟩] false) .ret) .skip) := by kernel_rfl
set_option maxRecDepth 1000000 in
theorem gfa_eq : gfa = (Code.region 7 #[⟨some 7,.alloc 23,0,"game.go:28",#[],none⟩,⟨none,.store 23 (.tmp 7) (.tmp 22),0,"game.go:28",#[⟨0,.data⟩,⟨0,.phase⟩],none⟩] false) := by kernel_rfl
set_option maxRecDepth 1000000 in
theorem gfb_eq : gfb = .block 1 gb0 := by kernel_rfl
set_option maxRecDepth 1000000 in
theorem gdrest4_cut : gdrest4 = .seq (.seq (Code.region 6 #[⟨some 16,.fieldAddr 30 (.tmp 1) 0,0,"game.go:28",#[],none⟩,⟨some 17,.fieldAddr 25 (.tmp 16) 0,0,"game.go:28",#[⟨0,.data⟩],none⟩,⟨some 18,.load 23 (.tmp 17),23,"game.go:28",#[⟨1,.data⟩],none⟩,⟨some 19,.fieldAddr 30 (.tmp 1) 4,0,"game.go:28",#[],none⟩,⟨some 20,.load 3 (.tmp 19),3,"game.go:28",#[⟨3,.data⟩],none⟩,⟨some 21,.call { callee := .value (.func 49),args := #[.tmp 18,.tmp 20],argTypes := #[23,3] },86,"game.go:28",#[⟨2,.data⟩,⟨4,.data⟩],none⟩] false) (.block 0 (.rangeFunc (.tmp 21) #[22] gfa gfb))) gdrest5 := by kernel_rfl
def gv (J : Jb) (pre : List R2) : Int := pre.foldl (fun m r => mx m (bestM J 4 { J.tg with p1 := r.1,p2 := r.2 }).2) 0
theorem gv_snoc (J : Jb) (pre : List R2) (x : R2) : gv J (pre ++ [x]) = mx (gv J pre) (bestM J 4 { J.tg with p1 := x.1,p2 := x.2 }).2 := by simp [gv]
theorem gv_nn (J : Jb) (pre : List R2) : 0 ≤ gv J pre := fold_le _ _ _
theorem gv_top (J : Jb) (pre : List R2) : gv J pre ≤ 5 := fold_top _ _ (fun r => (best_bound J 4 _).2) _ _ (by decide)
theorem gv_pre (J : Jb) {p l : List R2} (h : p <+: l) : gv J p ≤ gv J l := by
  obtain ⟨q,rfl⟩ := h
  unfold gv
  rw [List.foldl_append]
  exact fold_le _ _ _
theorem gv_all (J : Jb) : gv J (readsL J.p1 J.p2 J.me) = guideI J := rfl
def guidedI (J : Jb) : Int × Int := if J.check = 0 then (if guideI J = 5 then (0,11) else (guideI J,0)) else (0,J.check)
theorem results_int2 {P : Program} {fn : Func} {p q : Tmp} {ty tz : TypeId} {k : IntKind} {m : IntKind} (h : fn.results = #[.cell p ty,.cell q tz]) (tmps : Array Value) (w : World) (g g' : Nat) (t t' : TypeId) (v u : Value)
    (hp : tmps.getD p undef = .pointer (some ⟨g,0,none⟩)) (hq : tmps.getD q undef = .pointer (some ⟨g',0,none⟩)) (hg : Bk w g t #[v]) (hg' : Bk w g' t' #[u])
    (hu : P.underlying ty = some (.int k)) (hz : P.underlying tz = some (.int m)) :
    (results fn tmps).run P w = .ok (.tuple #[v,u]) w := by
  have hp' : tmps[p]?.getD undef = .pointer (some ⟨g,0,none⟩) := by simpa using hp
  have hq' : tmps[q]?.getD undef = .pointer (some ⟨g',0,none⟩) := by simpa using hq
  have c1 := hg.at_ 0 v rfl
  have c2 := hg'.at_ 0 u rfl
  simp [results,h,hp',hq',asAddr,loadVar,Sem.run_bind,isAgg,run_underlying hu w,run_underlying hz w,run_load,c1,c2]
theorem Stp.b0 {bm g h : Nat} {w0 X Y : World} (a : Stp bm g h X Y) (hb : Below w0.heap.size w0 X) (h1 : w0.heap.size ≤ bm) (h2 : w0.heap.size ≤ g) (h3 : w0.heap.size ≤ h) : Below w0.heap.size X Y :=
  ⟨a.os,a.tape,a.output,a.size,fun i hi => a.same i (Nat.lt_of_lt_of_le hi hb.size) (by omega) (by omega) (by omega)⟩
def GN (n0 g1 g2 g3 g5 g6 Bw Bf Bj Bb bm : Nat) : Prop := n0 ≤ g1 ∧ g1 < g2 ∧ g2 < g3 ∧ g3 < g5 ∧ g5 < g6 ∧ Bw < g5 ∧ Bf < g5 ∧ Bj < g5 ∧ Bb < g5 ∧ bm < g5 ∧ n0 ≤ bm
structure GS (J : Jb) (sa : Option Addr) (sn sc : Nat) (w0 : World) (g1 g2 g3 g5 Bw Bf Bj Bb bm : Nat) (X : World) : Prop where
  ns : NS J sa sn sc w0 g1 X
  env : Env J (.slice sa sn sc) Bw Bf Bj Bb bm X
  r2 : Bk X g2 3 #[.int .i64 0]
  r3 : Bk X g3 39 #[.int .i64 0]
  fv : Bk X g5 83 #[(.func (.func 77) #[] #[.pointer (some ⟨Bw,0,none⟩),.pointer (some ⟨Bf,0,none⟩),.pointer (some ⟨Bj,0,none⟩),.pointer (some ⟨Bb,0,none⟩)])]
section
variable {J : Jb} {sa : Option Addr} {sn sc : Nat} {w0 : World} {g1 g2 g3 g5 g6 Bw Bf Bj Bb bm : Nat} {X Y : World}
theorem GS.stp (h : GS J sa sn sc w0 g1 g2 g3 g5 Bw Bf Bj Bb bm X) {c : Nat} (hM : Memo J X bm c) (hn : GN w0.heap.size g1 g2 g3 g5 g6 Bw Bf Bj Bb bm) (a : Stp bm g6 g6 X Y) : GS J sa sn sc w0 g1 g2 g3 g5 Bw Bf Bj Bb bm Y := by
  obtain ⟨n1,n2,n3,n4,n5,n6,n7,n8,n9,n10,n11⟩ := hn
  have k1 := bk_ne_memo h.ns.job hM
  have k2 := bk_ne_memo h.r2 hM
  have k3 := bk_ne_memo h.r3 hM
  have k5 := bk_ne_memo h.fv hM
  have kw := bk_ne_memo h.env.win hM
  have kf := bk_ne_memo h.env.found hM
  have kj := bk_ne_memo h.env.job hM
  have kb := bk_ne_memo h.env.best hM
  exact ⟨h.ns.of (a.b0 h.ns.b0 n11 (by omega) (by omega)) (a.bk h.ns.job k1 (by omega) (by omega)),⟨a.bk h.env.win kw (by omega) (by omega),a.bk h.env.found kf (by omega) (by omega),a.bk h.env.job kj (by omega) (by omega),a.bk h.env.best kb (by omega) (by omega)⟩,
    a.bk h.r2 k2 (by omega) (by omega),a.bk h.r3 k3 (by omega) (by omega),a.bk h.fv k5 (by omega) (by omega)⟩
theorem GS.own (h : GS J sa sn sc w0 g1 g2 g3 g5 Bw Bf Bj Bb bm X) {B : Nat} {row : Option Nat} (hB : w0.heap.size ≤ B) (hg : X.grownBy Y row) (hr : ∀ r,row = some r → B ≤ r ∧ ∃ o : Obj,X.heap[r]? = some o ∧ o.isCells = false) : GS J sa sn sc w0 g1 g2 g3 g5 Bw Bf Bj Bb bm Y :=
  ⟨h.ns.of ⟨hg.os,hg.tape,hg.output,hg.size,fun i hi => hg.block i (Nat.lt_of_lt_of_le hi h.ns.b0.size) (fun e => by have := (hr i e.symm).1; omega)⟩ (h.ns.job.grown hg (row_ne h.ns.job hr)),
   ⟨h.env.win.grown hg (row_ne h.env.win hr),h.env.found.grown hg (row_ne h.env.found hr),h.env.job.grown hg (row_ne h.env.job hr),h.env.best.grown hg (row_ne h.env.best hr)⟩,h.r2.grown hg (row_ne h.r2 hr),h.r3.grown hg (row_ne h.r3 hr),h.fv.grown hg (row_ne h.fv hr)⟩
end
structure GI (J : Jb) (sa : Option Addr) (sn sc : Nat) (w0 : World) (g1 g2 g3 g5 g6 Bw Bf Bj Bb bm : Nat) (pre : List R2) (X : World) : Prop where
  gs : GS J sa sn sc w0 g1 g2 g3 g5 Bw Bf Bj Bb bm X
  memo : ∃ c',c' ≤ pre.length * cost 4 ∧ Memo J X bm c'
  val : Bk X g6 3 #[.int .i64 (gv J pre)]
  less : gv J pre ≠ 5
structure GX (J : Jb) (w0 : World) (g2 g3 : Nat) (cd : Code) (pre : List R2) (X : World) : Prop where
  out : cd = .ret
  more : gv J pre = 5
  b0 : Below w0.heap.size w0 X
  r2 : Bk X g2 3 #[.int .i64 0]
  r3 : Bk X g3 39 #[.int .i64 11]
structure SG (J : Jb) (sa : Option Addr) (sn sc : Nat) (w0 : World) (g1 g2 g3 g5 g6 g8 Bw Bf Bj Bb bm c : Nat) (x : R2) (X0 X : World) : Prop where
  stp : Stp bm g6 g6 X0 X
  gs : GS J sa sn sc w0 g1 g2 g3 g5 Bw Bf Bj Bb bm X
  memo : ∃ c',c' ≤ c ∧ Memo J X bm c'
  next : Bk X g8 25 #[.int .i64 { J.tg with p1 := x.1,p2 := x.2 }.p1,.int .i64 { J.tg with p1 := x.1,p2 := x.2 }.p2,.int .i64 { J.tg with p1 := x.1,p2 := x.2 }.t1,.int .i64 { J.tg with p1 := x.1,p2 := x.2 }.t2,.int .i64 { J.tg with p1 := x.1,p2 := x.2 }.r1,.int .i64 { J.tg with p1 := x.1,p2 := x.2 }.r2]
  val : ∃ z,Bk X g6 3 #[z]
theorem GI.own {J : Jb} {sa : Option Addr} {sn sc : Nat} {w0 : World} {g1 g2 g3 g5 g6 Bw Bf Bj Bb bm : Nat} {B : Nat} (hB : w0.heap.size ≤ B) (hbm : bm < B) (fm : R2 → R2) : OwnFrom B (fun (pre : List R2) (X : World) => GI J sa sn sc w0 g1 g2 g3 g5 g6 Bw Bf Bj Bb bm (pre.map fm) X) := by
  intro pre X Y row h hg hr
  obtain ⟨d,hd,hm⟩ := h.memo
  exact ⟨h.gs.own hB hg hr,⟨d,hd,hm.kept hg (by intro e; have := (hr bm e.symm).1; omega)⟩,h.val.grown hg (row_ne h.val hr),h.less⟩
theorem GX.own {J : Jb} {w0 : World} {g2 g3 : Nat} {B : Nat} (hB : w0.heap.size ≤ B) (cd : Code) (fm : R2 → R2) : OwnFrom B (fun (pre : List R2) (X : World) => GX J w0 g2 g3 cd (pre.map fm) X) := by
  intro pre X Y row h hg hr
  exact ⟨h.out,h.more,h.b0.trans ⟨hg.os,hg.tape,hg.output,hg.size,fun i hi => hg.block i (Nat.lt_of_lt_of_le hi h.b0.size) (fun e => by have := (hr i e.symm).1; omega)⟩,h.r2.grown hg (row_ne h.r2 hr),h.r3.grown hg (row_ne h.r3 hr)⟩
section
variable {J : Jb} {sa : Option Addr} {sn sc : Nat} {w0 : World} {g1 g2 g3 g5 g6 Bw Bf Bj Bb bm : Nat} {g8 c c' : Nat} {x : R2} {X0 X Y : World}
theorem SG.call (h : SG J sa sn sc w0 g1 g2 g3 g5 g6 g8 Bw Bf Bj Bb bm c x X0 X) (hn : GN w0.heap.size g1 g2 g3 g5 g6 Bw Bf Bj Bb bm) (hg : X.grownBy Y (some bm)) (hm : ∃ d,d ≤ c' ∧ Memo J Y bm d) : SG J sa sn sc w0 g1 g2 g3 g5 g6 g8 Bw Bf Bj Bb bm c' x X0 Y := by
  obtain ⟨z,hz⟩ := h.val
  obtain ⟨d,hd,hM⟩ := h.memo
  exact ⟨h.stp.trans (.grown hg),h.gs.stp hM hn (.grown hg),hm,h.next.grown hg (fun e => bk_ne_memo h.next hM (by injection e)),⟨z,hz.grown hg (fun e => bk_ne_memo hz hM (by injection e))⟩⟩
theorem SG.store (h : SG J sa sn sc w0 g1 g2 g3 g5 g6 g8 Bw Bf Bj Bb bm c x X0 X) (hn : GN w0.heap.size g1 g2 g3 g5 g6 Bw Bf Bj Bb bm) (v : Value) : SG J sa sn sc w0 g1 g2 g3 g5 g6 g8 Bw Bf Bj Bb bm c x X0 (X.setCell ⟨g6,0,none⟩ v) := by
  have q : Stp bm g6 g6 X (X.setCell ⟨g6,0,none⟩ v) := Stp.cell _ _ (.inl rfl)
  obtain ⟨z,hz⟩ := h.val
  obtain ⟨d,hd,hM⟩ := h.memo
  have hne := bk_ne_memo hz hM
  have h8 : g8 ≠ g6 := by
    rintro rfl
    have a := h.next
    unfold Bk at a hz
    rw [a] at hz
    simp at hz
  exact ⟨h.stp.trans q,h.gs.stp hM hn q,⟨d,hd,hM.kept (grownBy_setCell' X g6 v) (by intro e; injection e with e; exact hne e.symm)⟩,h.next.other (by exact h8) _,⟨v,hz.put1 v⟩⟩
theorem SG.drew (h : SG J sa sn sc w0 g1 g2 g3 g5 g6 g8 Bw Bf Bj Bb bm c x X0 X) (hn : GN w0.heap.size g1 g2 g3 g5 g6 Bw Bf Bj Bb bm) : SG J sa sn sc w0 g1 g2 g3 g5 g6 g8 Bw Bf Bj Bb bm c x X0 X.drew := by
  obtain ⟨z,hz⟩ := h.val
  obtain ⟨d,hd,hM⟩ := h.memo
  exact ⟨h.stp.drew,h.gs.stp hM hn (Stp.below (Below.refl _ _).drew),⟨d,hd,hM.kept (row := none) ⟨rfl,rfl,rfl,Nat.le_refl _,fun _ _ _ => rfl⟩ (by simp)⟩,h.next,⟨z,hz⟩⟩
theorem SG.more (h : SG J sa sn sc w0 g1 g2 g3 g5 g6 g8 Bw Bf Bj Bb bm c x X0 X) (hc : c ≤ c') : SG J sa sn sc w0 g1 g2 g3 g5 g6 g8 Bw Bf Bj Bb bm c' x X0 X := by
  obtain ⟨d,hd,hm⟩ := h.memo
  exact ⟨h.stp,h.gs,⟨d,by omega,hm⟩,h.next,h.val⟩
end
end Go.Proofs.Ytadmcafbffjjbaa
