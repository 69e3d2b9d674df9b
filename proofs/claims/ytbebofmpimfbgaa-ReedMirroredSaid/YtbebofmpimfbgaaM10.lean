/- Part 10 of the proof: BmL, GP, NX. -/
import Derived.OwnWalk
import Derived.Test.YtbebofmpimfbgaaM09
import Derived.Test.YtbebofmpimfbgaaM07
import Derived.Test.YtbebofmpimfbgaaM06
import Derived.Test.YtbebofmpimfbgaaM08
/- The tuner's search finds the best move. -/
namespace Go.Proofs.Ytbebofmpimfbgaa
set_option linter.all false
open Go.RowKit Go.Shelf
attribute [local go_sem] Oper.semAt_some
theorem tg_key {k : Nat} {t : Tg} (h : TgIn k t) (hk : k ≤ 5) : ∃ kl, keyOf Try.prog 93 (.agg (knownC t k)) = some kl := by
  obtain ⟨h, _⟩ := h
  simp only [Tg.In] at h
  exact key_ok t k ⟨by omega, by omega, by omega, by omega, by omega, by omega⟩ (by omega)
set_option maxHeartbeats 4000000 in
set_option maxRecDepth 1000000 in
theorem best_succ (J : Jb) (sa : Option Addr) (sn sc : Nat) (Bw Bf Bj Bb bm k : Nat) (ih : BestOK J (.slice sa sn sc) Bw Bf Bj Bb bm k) (hk4 : k ≤ 3) (hJ : J.In 100) (hme : 0 ≤ J.me ∧ J.me ≤ 6) (hu : J.u1 ≤ J.u2 ∧ J.d1 ≤ J.d2) : BestOK J (.slice sa sn sc) Bw Bf Bj Bb bm (k + 1) := by
  intro t cnt W HE HM ht hcnt
  by_cases hw : (win J.wi J.sh).1 ≤ t.p1 ∧ t.p2 ≤ (win J.wi J.sh).2
  · exact best_stop J (.slice sa sn sc) Bw Bf Bj Bb bm cnt (k + 1) t W HE HM hw
  · obtain ⟨kl, hkey⟩ := tg_key ht (by omega)
    have hKey := hidMk hkey
    have hE := hidMk HE
    have hM := hidMk HM
    have hT := hidMk ht
    have hC := hidMk hcnt
    have hW := hidMk hw
    have hJJ := hidMk hJ
    have hME := hidMk hme
    have hU := hidMk hu
    have hIH := hidMk ih
    have hcast : ((k + 1 : Nat) : Int) = (k : Int) + 1 := by omega
    rw [hcast]
    clear hcast HE HM ht hcnt hw hJ hme hu ih hkey
    refine (callsIn_wide (n := 3)).1 (callsIn_of_wp_marks Try.func81 rfl trivial ?_ rfl)
    simp only [Try.ntmps81, List.size_toArray, List.length_cons, List.length_nil, Nat.reduceAdd, Nat.reduceSub, Array.replicate_succ, Array.replicate_zero, List.push_toArray, List.append_toArray, List.nil_append, List.cons_append]
    gi_wp2_with fail
    refine wpIn_scope ?_
    refine wpIn_wide.2 ?_
    have b5 : Bk ((W.alloc (.cells #[.int .i64 t.p1, .int .i64 t.p2, .int .i64 t.t1, .int .i64 t.t2, .int .i64 t.r1, .int .i64 t.r2, .int .i64 ((k : Int) + 1)] 93)).alloc (.cells #[.int .i64 0, .int .i64 0] 91)) W.heap.size 93 (knownC t (k + 1)) := by rw [knownC_succ]; exact (Bk.new _ _ _).alloc _
    have b6 : Bk ((W.alloc (.cells #[.int .i64 t.p1, .int .i64 t.p2, .int .i64 t.t1, .int .i64 t.t2, .int .i64 t.r1, .int .i64 t.r2, .int .i64 ((k : Int) + 1)] 93)).alloc (.cells #[.int .i64 0, .int .i64 0] 91)) (W.heap.size + 1) 91 #[.int .i64 0, .int .i64 0] := Bk.newAt _ _ _ _ (by simp)
    have q : Below W.heap.size W ((W.alloc (.cells #[.int .i64 t.p1, .int .i64 t.p2, .int .i64 t.t1, .int .i64 t.t2, .int .i64 t.r1, .int .i64 t.r2, .int .i64 ((k : Int) + 1)] 93)).alloc (.cells #[.int .i64 0, .int .i64 0] 91)) := ((Below.refl _ _).alloc (Nat.le_refl _) _).alloc (by simp) _
    generalize ((W.alloc (.cells #[.int .i64 t.p1, .int .i64 t.p2, .int .i64 t.t1, .int .i64 t.t2, .int .i64 t.r1, .int .i64 t.r2, .int .i64 ((k : Int) + 1)] 93)).alloc (.cells #[.int .i64 0, .int .i64 0] 91)) = w at b5 b6 q ⊢
    show Code.wp Try.prog bmbody _ _ _
    exact bm_front hIH.out hE.out hM.out q b5 b6 (Nat.le_refl _) (by omega) hW.out hk4 hJJ.out hME.out hU.out hT.out hC.out hKey.out
theorem best_zero (J : Jb) (s : Value) (Bw Bf Bj Bb bm : Nat) : BestOK J s Bw Bf Bj Bb bm 0 := by
  intro t cnt W HE HM ht hcnt
  by_cases hw : (win J.wi J.sh).1 ≤ t.p1 ∧ t.p2 ≤ (win J.wi J.sh).2
  · exact best_stop J s Bw Bf Bj Bb bm cnt 0 t W HE HM hw
  · exact best_none J s Bw Bf Bj Bb bm cnt t W HE HM hw
/-- **The tuner's search finds the best move.** -/
theorem best_all (J : Jb) (sa : Option Addr) (sn sc : Nat) (Bw Bf Bj Bb bm : Nat) (hJ : J.In 100) (hme : 0 ≤ J.me ∧ J.me ≤ 6) (hu : J.u1 ≤ J.u2 ∧ J.d1 ≤ J.d2) : ∀ k, k ≤ 4 → BestOK J (.slice sa sn sc) Bw Bf Bj Bb bm k
  | 0, _ => best_zero J _ Bw Bf Bj Bb bm
  | k + 1, h => best_succ J sa sn sc Bw Bf Bj Bb bm k (best_all J sa sn sc Bw Bf Bj Bb bm hJ hme hu k (by omega)) (by omega) hJ hme hu
#print axioms best_all
end Go.Proofs.Ytbebofmpimfbgaa
/- The tuner's search, made. -/
namespace Go.Proofs.Ytbebofmpimfbgaa
set_option linter.all false
open Go.RowKit Go.Shelf
noncomputable def plbody : Code := Try.f53.body.getD .skip
noncomputable def plrest1 : Code := sndB plbody
noncomputable def plrest2 : Code := sndB plrest1
noncomputable def plrest3 : Code := sndB plrest2
noncomputable def plrest4 : Code := sndB plrest3
noncomputable def plrest5 : Code := sndB plrest4
set_option maxRecDepth 1000000 in
theorem plbody_eq : plbody = .seq (Code.region 0 #[⟨some 1, .box 30 (.tmp 0), 0, "game.go:86", #[], none⟩, ⟨some 2, .assign (.const .nilFunc), 85, "game.go:86", #[], none⟩] false) plrest1 := by kernel_rfl
set_option maxRecDepth 1000000 in
theorem plrest1_eq : plrest1 = .seq (Code.region 1 #[⟨some 8, .load 30 (.tmp 1), 30, "game.go:87", #[], none⟩, ⟨some 9, .call { callee := .value (.func 70), args := #[.tmp 8], argTypes := #[30] }, 110, "game.go:87", #[⟨0, .data⟩], none⟩, ⟨some 7, .move (.tmp 9), 110, "game.go:87", #[⟨1, .data⟩], none⟩, ⟨some 10, .extract (.tmp 7) 0, 23, "game.go:87", #[⟨2, .data⟩], none⟩, ⟨some 11, .extract (.tmp 7) 1, 23, "game.go:87", #[⟨2, .data⟩, ⟨7, .gcOnly .lateStores⟩], none⟩, ⟨some 3, .alloc 23, 0, "game.go:87", #[], none⟩, ⟨some 4, .alloc 23, 0, "game.go:87", #[], none⟩, ⟨none, .store 23 (.tmp 3) (.tmp 10), 0, "game.go:87", #[⟨5, .data⟩, ⟨3, .data⟩, ⟨1, .chain⟩, ⟨0, .phase⟩, ⟨1, .phase⟩, ⟨2, .phase⟩, ⟨3, .phase⟩, ⟨4, .textOnly .lateStores⟩, ⟨5, .phase⟩, ⟨6, .phase⟩], none⟩, ⟨none, .store 23 (.tmp 4) (.tmp 11), 0, "game.go:87", #[⟨6, .data⟩, ⟨4, .data⟩, ⟨7, .chain⟩, ⟨0, .phase⟩, ⟨1, .phase⟩, ⟨2, .phase⟩, ⟨3, .phase⟩, ⟨4, .phase⟩, ⟨5, .phase⟩, ⟨6, .phase⟩, ⟨7, .phase⟩], none⟩] false) plrest2 := by kernel_rfl
set_option maxRecDepth 1000000 in
theorem plrest2_eq : plrest2 = .seq (Code.region 2 #[⟨some 12, .makeMap 123 none, 123, "game.go:88", #[], none⟩, ⟨some 5, .alloc 123, 0, "game.go:88", #[], none⟩, ⟨none, .store 123 (.tmp 5) (.tmp 12), 0, "game.go:88", #[⟨1, .data⟩, ⟨0, .data⟩, ⟨0, .phase⟩, ⟨1, .phase⟩], none⟩] false) plrest3 := by kernel_rfl
set_option maxRecDepth 1000000 in
theorem plrest3_eq : plrest3 = .seq (Code.region 3 #[⟨some 6, .alloc 85, 0, "game.go:89", #[], none⟩] false) plrest4 := by kernel_rfl
set_option maxRecDepth 1000000 in
theorem plrest4_eq : plrest4 = .seq (Code.region 4 #[⟨some 13, .makeFunc (Go.Fn.func 81) #[] #[.tmp 3, .tmp 5, .tmp 1, .tmp 6], 85, "game.go:90", #[], none⟩, ⟨none, .store 85 (.tmp 6) (.tmp 13), 0, "game.go:90", #[⟨0, .data⟩, ⟨0, .phase⟩], none⟩] false) plrest5 := by kernel_rfl
set_option maxRecDepth 1000000 in
theorem plrest5_eq : plrest5 = .seq (Code.region 5 #[⟨some 14, .load 85 (.tmp 6), 85, "game.go:123", #[], none⟩, ⟨some 2, .assign (.tmp 14), 85, "game.go:123", #[⟨0, .data⟩, ⟨0, .phase⟩], none⟩] false) .ret := by kernel_rfl
def QPL (J : Jb) (sa : Option Addr) (sn sc : Nat) (w0 : World) : Exit → Act → World → Prop := bodyPost Try.prog Try.f53 (fun e w' => ∃ Bw Bf Bj Bb bm, e = .returned (.func (.func 81) #[] #[.pointer (some ⟨Bw, 0, none⟩), .pointer (some ⟨Bf, 0, none⟩), .pointer (some ⟨Bj, 0, none⟩), .pointer (some ⟨Bb, 0, none⟩)]) ∧ Env J (.slice sa sn sc) Bw Bf Bj Bb bm w' ∧ Memo J w' bm 0 ∧ Below w0.heap.size w0 w' ∧ w0.heap.size ≤ bm)
set_option maxHeartbeats 4000000 in
set_option maxRecDepth 1000000 in
theorem plpart4 {J : Jb} {sa : Option Addr} {sn sc g1 g3 g5 g6 bm : Nat} {w0 w : World} {z : Value} {u0 u2 u4 u7 u8 u9 u10 u11 u12 u13 u14 : Value} (h3 : Bk w g3 23 #[.int .i64 (win J.wi J.sh).1, .int .i64 (win J.wi J.sh).2]) (h5 : Bk w g5 123 #[.map (some bm)]) (h1 : Bk w g1 30 (jobC J (.slice sa sn sc))) (h6 : Bk w g6 85 #[z]) (hne : g6 ≠ g3 ∧ g6 ≠ g5 ∧ g6 ≠ g1) (hm : Memo J w bm 0) (hB : Below w0.heap.size w0 w) (hg6 : w0.heap.size ≤ g6) (hbmw : w0.heap.size ≤ bm) : Code.wp Try.prog plrest4 (QPL J sa sn sc w0) ⟨#[u0, (.pointer (some ⟨g1, 0, none⟩)), u2, (.pointer (some ⟨g3, 0, none⟩)), u4, (.pointer (some ⟨g5, 0, none⟩)), (.pointer (some ⟨g6, 0, none⟩)), u7, u8, u9, u10, u11, u12, u13, u14], []⟩ w := by
  rw [plrest4_eq]
  have z6 := h6.at_ 0 _ rfl
  have f6 := h6.free 0
  have hst : (store ⟨g6, 0, none⟩ (.func (.func 81) #[] #[.pointer (some ⟨g3, 0, none⟩), .pointer (some ⟨g5, 0, none⟩), .pointer (some ⟨g1, 0, none⟩), .pointer (some ⟨g6, 0, none⟩)])).run Try.prog w = stored Try.prog w ⟨g6, 0, none⟩ (.func (.func 81) #[] #[.pointer (some ⟨g3, 0, none⟩), .pointer (some ⟨g5, 0, none⟩), .pointer (some ⟨g1, 0, none⟩), .pointer (some ⟨g6, 0, none⟩)]) .plain := run_store _ _ _ _ _ rfl
  unfold QPL
  go_wp2_with fail
  have b6 := h6.put1 (.func (.func 81) #[] #[.pointer (some ⟨g3, 0, none⟩), .pointer (some ⟨g5, 0, none⟩), .pointer (some ⟨g1, 0, none⟩), .pointer (some ⟨g6, 0, none⟩)])
  have hq := hB.setCell (p := ⟨g6, 0, none⟩) hg6 (.func (.func 81) #[] #[.pointer (some ⟨g3, 0, none⟩), .pointer (some ⟨g5, 0, none⟩), .pointer (some ⟨g1, 0, none⟩), .pointer (some ⟨g6, 0, none⟩)])
  have hmb : bm ≠ g6 := by
    intro e
    exact bk_ne_memo h6 hm e.symm
  have hm2 := hm.kept (grownBy_setCellA w g6 0 (.func (.func 81) #[] #[.pointer (some ⟨g3, 0, none⟩), .pointer (some ⟨g5, 0, none⟩), .pointer (some ⟨g1, 0, none⟩), .pointer (some ⟨g6, 0, none⟩)])) (by intro e; injection e with e; exact hmb e)
  have k3 := h3.other (p := ⟨g6, 0, none⟩) (by exact fun e => hne.1 e.symm) (.func (.func 81) #[] #[.pointer (some ⟨g3, 0, none⟩), .pointer (some ⟨g5, 0, none⟩), .pointer (some ⟨g1, 0, none⟩), .pointer (some ⟨g6, 0, none⟩)])
  have k5 := h5.other (p := ⟨g6, 0, none⟩) (by exact fun e => hne.2.1 e.symm) (.func (.func 81) #[] #[.pointer (some ⟨g3, 0, none⟩), .pointer (some ⟨g5, 0, none⟩), .pointer (some ⟨g1, 0, none⟩), .pointer (some ⟨g6, 0, none⟩)])
  have k1 := h1.other (p := ⟨g6, 0, none⟩) (by exact fun e => hne.2.2 e.symm) (.func (.func 81) #[] #[.pointer (some ⟨g3, 0, none⟩), .pointer (some ⟨g5, 0, none⟩), .pointer (some ⟨g1, 0, none⟩), .pointer (some ⟨g6, 0, none⟩)])
  have y6 := b6.at_ 0 _ rfl
  first | rw [plrest5_eq] | skip
  go_wp2_with fail
  go_ret
  exact ⟨g3, g5, g1, g6, bm, rfl, ⟨k3, k5, k1, b6⟩, hm2, hq, hbmw⟩
set_option maxHeartbeats 4000000 in
set_option maxRecDepth 1000000 in
theorem player_any (J : Jb) (sa : Option Addr) (sn sc : Nat) (w : World) (hJ : J.In 100) (hn : sn = J.sh.length) (h : Rg w w.heap.size sa J.sh) :
    Calls Try.prog 53 #[.agg (jobC J (.slice sa sn sc))] w (fun e w' => ∃ Bw Bf Bj Bb bm, e = .returned (.func (.func 81) #[] #[.pointer (some ⟨Bw, 0, none⟩), .pointer (some ⟨Bf, 0, none⟩), .pointer (some ⟨Bj, 0, none⟩), .pointer (some ⟨Bb, 0, none⟩)]) ∧ Env J (.slice sa sn sc) Bw Bf Bj Bb bm w' ∧ Memo J w' bm 0 ∧ Below w.heap.size w w' ∧ w.heap.size ≤ bm) := by
  have b0 := Bk.new w 30 (jobC J (.slice sa sn sc))
  have q0 : Below w.heap.size w (w.alloc (.cells (jobC J (.slice sa sn sc)) 30)) := (Below.refl _ _).alloc (Nat.le_refl _) _
  have HB := hidMk b0
  have HQ := hidMk q0
  have HR := hidMk (h.up q0)
  have HN := hidMk hn
  have HJ := hidMk hJ
  have hmm := @run_makeMap Try.prog
  clear b0 q0 h hn hJ
  go_enter Try.func53, Try.ntmps53
  show Code.wp Try.prog plbody (QPL J sa sn sc w) _ _
  rw [plbody_eq]
  go_wp2_with fail
  rw [plrest1_eq]
  go_wp2_with (first | (refine wpList_load_row rfl 30 _ rfl w.heap.size rfl _ (jobC J (.slice sa sn sc)) _ _ HB.out Try.underlying30 rfl szJob ?_))
  refine (windows_any J sa sn sc _ (HJ.out.mono (by decide)) HN.out HR.out).mono ?_
  rintro e w2 ⟨rfl, hb⟩
  have H2 := hidMk (HQ.out.trans (hb.mono HQ.out.size))
  have HB2 := hidMk (HB.out.below hb HB.out.lt)
  clear hb
  go_wp2_with fail
  rw [plrest2_eq]
  go_wp2_with fail
  rw [plrest3_eq]
  go_wp2_with fail
  have l1 := HB2.out.lt
  have hz := H2.out.size
  have mk := Memo.made J ((w2.alloc (.cells #[.int .i64 (win J.wi J.sh).1, .int .i64 (win J.wi J.sh).2] 23)).alloc (.cells #[.int .i64 (pos J.wi J.sh).1, .int .i64 (pos J.wi J.sh).2] 23))
  have hs : ((w2.alloc (.cells #[.int .i64 (win J.wi J.sh).1, .int .i64 (win J.wi J.sh).2] 23)).alloc (.cells #[.int .i64 (pos J.wi J.sh).1, .int .i64 (pos J.wi J.sh).2] 23)).heap.size = w2.heap.size + 1 + 1 := by simp
  rw [hs] at mk
  refine plpart4 (bm := w2.heap.size + 1 + 1) (Bk.alloc (Bk.alloc (Bk.alloc (Bk.alloc (Bk.new _ _ _) _) _) _) _) (Bk.alloc (Bk.newAt _ _ _ _ (by simp)) _) (Bk.alloc (Bk.alloc (Bk.alloc (Bk.alloc (Bk.alloc HB2.out _) _) _) _) _) (Bk.newAt _ _ _ _ (by simp)) (by omega) ((mk.kept (World.grownBy_alloc _ _ none) (by simp)).kept (World.grownBy_alloc _ _ none) (by simp)) (((((H2.out.alloc hz _).alloc (by simp; omega) _).alloc (by simp; omega) _).alloc (by simp; omega) _).alloc (by simp; omega) _) (by omega) (by omega)
end Go.Proofs.Ytbebofmpimfbgaa
/- Next, on any job. -/
namespace Go.Proofs.Ytbebofmpimfbgaa
set_option linter.all false
open Go.RowKit Go.Shelf
noncomputable def nxbody : Code := Try.f17.body.getD .skip
noncomputable def nxrest1 : Code := sndB nxbody
noncomputable def nxrest2 : Code := sndB nxrest1
noncomputable def nxrest3 : Code := sndB nxrest2
noncomputable def nxrest4 : Code := sndB nxrest3
set_option maxRecDepth 1000000 in
theorem nxbody_eq : nxbody = .seq (Code.region 0 #[⟨some 1, .box 30 (.tmp 0), 0, "game.go:40", #[], none⟩, ⟨some 2, .assign (.const (.int .i64 0)), 3, "game.go:40", #[], none⟩, ⟨some 3, .assign (.const (.int .i64 0)), 3, "game.go:40", #[⟨1, .chain⟩], none⟩, ⟨some 4, .assign (.const (.int .i64 0)), 39, "game.go:40", #[⟨2, .chain⟩], none⟩] false) nxrest1 := by kernel_rfl
set_option maxRecDepth 1000000 in
theorem nxrest1_eq : nxrest1 = .seq (.seq (Code.region 1 #[⟨some 7, .load 30 (.tmp 1), 30, "game.go:41", #[], none⟩, ⟨some 8, .call { callee := .value (.func 52), args := #[.tmp 7], argTypes := #[30] }, 39, "game.go:41", #[⟨0, .data⟩], none⟩, ⟨some 5, .assign (.tmp 8), 39, "game.go:41", #[⟨1, .data⟩, ⟨1, .chain⟩, ⟨0, .phase⟩, ⟨1, .phase⟩], none⟩] false) (.seq (Code.region 2 #[⟨some 9, .move (.tmp 5), 39, "game.go:41", #[], none⟩, ⟨some 10, .binOp .neq 39 (.tmp 9) (.const (.int .i64 0)) 39, 4, "game.go:41", #[⟨0, .data⟩], none⟩] false) (.cond (.tmp 10) (.seq (Code.region 3 #[⟨some 11, .move (.tmp 5), 39, "game.go:42", #[⟨2, .gcOnly .lateStores⟩], none⟩, ⟨some 2, .assign (.const (.int .i64 0)), 3, "game.go:42", #[⟨0, .textOnly .lateStores⟩], none⟩, ⟨some 3, .assign (.const (.int .i64 0)), 3, "game.go:42", #[⟨1, .chain⟩, ⟨0, .textOnly .lateStores⟩, ⟨1, .phase⟩], none⟩, ⟨some 4, .assign (.tmp 11), 39, "game.go:42", #[⟨0, .data⟩, ⟨2, .chain⟩, ⟨0, .phase⟩, ⟨1, .phase⟩, ⟨2, .phase⟩], none⟩] false) .ret) .skip))) nxrest2 := by kernel_rfl
set_option maxRecDepth 1000000 in
theorem nxrest2_eq : nxrest2 = .seq (Code.region 4 #[⟨some 12, .load 30 (.tmp 1), 30, "game.go:44", #[], none⟩, ⟨some 13, .call { callee := .value (.func 53), args := #[.tmp 12], argTypes := #[30] }, 85, "game.go:44", #[⟨0, .data⟩], none⟩, ⟨some 14, .fieldAddr 30 (.tmp 1) 0, 0, "game.go:44", #[], none⟩, ⟨some 15, .load 25 (.tmp 14), 25, "game.go:44", #[⟨2, .data⟩], none⟩, ⟨some 16, .build 93 #[(0, .tmp 15), (1, .const (.int .i64 4))], 93, "game.go:44", #[⟨3, .data⟩], none⟩, ⟨some 17, .call { callee := .value (.tmp 13), args := #[.tmp 16], argTypes := #[93] }, 91, "game.go:44", #[⟨1, .data⟩, ⟨4, .data⟩, ⟨1, .chain⟩], none⟩, ⟨some 6, .alloc 91, 0, "game.go:44", #[], none⟩, ⟨none, .store 91 (.tmp 6) (.tmp 17), 0, "game.go:44", #[⟨6, .data⟩, ⟨5, .data⟩, ⟨5, .chain⟩, ⟨0, .phase⟩, ⟨1, .phase⟩, ⟨2, .phase⟩, ⟨3, .phase⟩, ⟨4, .phase⟩, ⟨5, .phase⟩, ⟨6, .phase⟩], none⟩] true) nxrest3 := by kernel_rfl
set_option maxRecDepth 1000000 in
theorem nxrest3_eq : nxrest3 = .seq (.seq (Code.region 5 #[⟨some 18, .fieldAddr 91 (.tmp 6) 1, 0, "game.go:45", #[], none⟩, ⟨some 19, .load 3 (.tmp 18), 3, "game.go:45", #[⟨0, .data⟩], none⟩, ⟨some 20, .binOp .eql 3 (.tmp 19) (.const (.int .i64 5)) 3, 4, "game.go:45", #[⟨1, .data⟩], none⟩] false) (.cond (.tmp 20) (.seq (Code.region 6 #[⟨some 2, .assign (.const (.int .i64 0)), 3, "game.go:46", #[], none⟩, ⟨some 3, .assign (.const (.int .i64 0)), 3, "game.go:46", #[⟨0, .chain⟩, ⟨0, .phase⟩], none⟩, ⟨some 4, .assign (.const (.int .i64 11)), 39, "game.go:46", #[⟨1, .chain⟩, ⟨0, .phase⟩, ⟨1, .phase⟩], none⟩] false) .ret) .skip)) nxrest4 := by kernel_rfl
set_option maxRecDepth 1000000 in
theorem nxrest4_eq : nxrest4 = .seq (Code.region 7 #[⟨some 21, .fieldAddr 91 (.tmp 6) 0, 0, "game.go:48", #[], none⟩, ⟨some 22, .load 3 (.tmp 21), 3, "game.go:48", #[⟨0, .data⟩], none⟩, ⟨some 23, .fieldAddr 91 (.tmp 6) 1, 0, "game.go:48", #[⟨4, .gcOnly .lateStores⟩], none⟩, ⟨some 24, .load 3 (.tmp 23), 3, "game.go:48", #[⟨2, .data⟩, ⟨4, .gcOnly .lateStores⟩], none⟩, ⟨some 2, .assign (.tmp 22), 3, "game.go:48", #[⟨1, .data⟩, ⟨0, .phase⟩, ⟨1, .phase⟩, ⟨2, .textOnly .lateStores⟩, ⟨3, .textOnly .lateStores⟩], none⟩, ⟨some 3, .assign (.tmp 24), 3, "game.go:48", #[⟨3, .data⟩, ⟨4, .chain⟩, ⟨0, .phase⟩, ⟨1, .phase⟩, ⟨2, .phase⟩, ⟨3, .phase⟩, ⟨4, .phase⟩], none⟩, ⟨some 4, .assign (.const (.int .i64 0)), 39, "game.go:48", #[⟨5, .chain⟩, ⟨0, .phase⟩, ⟨1, .phase⟩, ⟨2, .phase⟩, ⟨3, .phase⟩, ⟨4, .phase⟩, ⟨5, .phase⟩], none⟩] true) .ret := by kernel_rfl
def nextI (J : Jb) : Int × Int × Int := if J.check = 0 then (if (bestM J 4 J.tg).2 = 5 then (0, 0, 11) else ((bestM J 4 J.tg).1, (bestM J 4 J.tg).2, 0)) else (0, 0, J.check)
def QNX (J : Jb) (w0 : World) : Exit → Act → World → Prop := bodyPost Try.prog Try.f17 fun e w' => e = .returned (.tuple #[.int .i64 (nextI J).1, .int .i64 (nextI J).2.1, .int .i64 (nextI J).2.2]) ∧ Below w0.heap.size w0 w'
theorem ret3 {k : IntKind} {a b c d e f : Int} (h1 : a = d) (h2 : b = e) (h3 : c = f) : Ending.returned (.tuple #[.int k a, .int k b, .int k c]) = .returned (.tuple #[.int k d, .int k e, .int k f]) := by rw [h1, h2, h3]
theorem tg_in4 {J : Jb} (h : J.Ok) : TgIn 4 J.tg := ⟨h.inn.tg.mono (by decide), h.p⟩
/-- What lies about in Next and in Guided. -/
structure NS (J : Jb) (sa : Option Addr) (sn sc : Nat) (w0 : World) (g1 : Nat) (w : World) : Prop where
  b0 : Below w0.heap.size w0 w
  job : Bk w g1 30 (jobC J (.slice sa sn sc))
  rg0 : Rg w w0.heap.size sa J.sh
section
variable {J : Jb} {sa : Option Addr} {sn sc : Nat} {w0 w w' : World} {g1 : Nat}
theorem NS.rg (h : NS J sa sn sc w0 g1 w) : Rg w w.heap.size sa J.sh := h.rg0.keep h.b0.size fun _ _ => rfl
theorem NS.of (h : NS J sa sn sc w0 g1 w) (hb : Below w0.heap.size w w') (hj : Bk w' g1 30 (jobC J (.slice sa sn sc))) : NS J sa sn sc w0 g1 w' := ⟨h.b0.trans hb, hj, h.rg0.below hb⟩
theorem NS.next (h : NS J sa sn sc w0 g1 w) (hb : Below w.heap.size w w') : NS J sa sn sc w0 g1 w' := h.of (hb.mono h.b0.size) (h.job.below hb h.job.lt)
theorem NS.grown (h : NS J sa sn sc w0 g1 w) {bm cnt : Nat} (hg : w.grownBy w' (some bm)) (hM : Memo J w bm cnt) (hl : w0.heap.size ≤ bm) : NS J sa sn sc w0 g1 w' :=
  h.of ⟨hg.os, hg.tape, hg.output, hg.size, fun i hi => hg.block i (Nat.lt_of_lt_of_le hi h.b0.size) (fun e => by injection e with e; omega)⟩ (h.job.grown hg (fun e => bk_ne_memo h.job hM (by injection e)))
theorem NS.set (h : NS J sa sn sc w0 g1 w) {g6 : Nat} {t : TypeId} {cs : Array Value} (hl : w0.heap.size ≤ g6) (h6 : Bk w g6 t cs) (hs : cs.size ≠ 18) (o : Nat) (v : Value) : NS J sa sn sc w0 g1 (w.setCell ⟨g6, o, none⟩ v) :=
  h.of ((Below.refl _ _).setCell hl v) (h.job.other (by
    rintro rfl
    have a := h.job
    unfold Bk at a h6
    rw [a] at h6
    injection h6 with h6
    injection h6 with h6
    rw [← h6] at hs
    exact hs rfl) v)
end
theorem check_me {J : Jb} (h : J.check = 0) : 0 ≤ J.me ∧ J.me ≤ 6 := by
  unfold Jb.check at h
  by_cases h0 : J.head = 0
  · rw [if_pos h0] at h
    by_cases h1 : 4 < J.sh.length
    · rw [if_pos h1] at h; omega
    · rw [if_neg h1] at h
      by_cases h2 : shE J.sh = 0
      · rw [if_pos h2] at h
        have b := firstE_ok _ h
        have b2 := numE_ok (b _ (by simp : numE J.me 0 6 ∈ _))
        omega
      · rw [if_neg h2] at h; exact absurd h h2
  · rw [if_neg h0] at h; exact absurd h h0
set_option maxHeartbeats 4000000 in
set_option maxRecDepth 1000000 in
theorem nxpart4 {J : Jb} {w0 w : World} {g6 : Nat} {u0 u1 u2 u3 u4 u5 u7 u8 u9 u10 u11 u12 u13 u14 u15 u16 u17 u18 u19 u20 u21 u22 u23 u24 : Value} (h6 : Bk w g6 91 #[.int .i64 (bestM J 4 J.tg).1, .int .i64 (bestM J 4 J.tg).2]) (hB : Below w0.heap.size w0 w) (hc : J.check = 0) (h5 : ¬ (bestM J 4 J.tg).2 = 5) : Code.wp Try.prog nxrest4 (QNX J w0) ⟨#[u0, u1, u2, u3, u4, u5, (.pointer (some ⟨g6, 0, none⟩)), u7, u8, u9, u10, u11, u12, u13, u14, u15, u16, u17, u18, u19, u20, u21, u22, u23, u24], []⟩ w := by
  rw [nxrest4_eq]
  have z0 := h6.at_ 0 (.int .i64 (bestM J 4 J.tg).1) rfl
  have z1 := h6.at_ 1 (.int .i64 (bestM J 4 J.tg).2) rfl
  have e1 : (nextI J) = ((bestM J 4 J.tg).1, (bestM J 4 J.tg).2, 0) := by unfold nextI; rw [if_pos hc, if_neg h5]
  have HB := hidMk hB
  have HE := hidMk e1
  have H6 := hidMk h6
  clear h6 hB e1 h5 hc
  refine wp_seq_k fun K0 hKK => ?_
  refine region_via (R := fun a_ e a' w' => e = .normal ∧ ∃ (v21 v22 v23 v24 : Value), a' = (((((((a_.put (some 21) v21).put (some 22) v22).put (some 23) v23).put (some 24) v24).put (some 2) (.int .i64 (bestM J 4 J.tg).1)).put (some 3) (.int .i64 (bestM J 4 J.tg).2)).put (some 4) (.int .i64 0)) ∧ Below w0.heap.size w0 w') ?_ ?_
  rotate_left
  · rintro e a' w' ⟨rfl, v21, v22, v23, v24, rfl, hb⟩
    refine hKK _ _ ?_
    simp only [Act.put, aT, aZ, aS]
    unfold QNX
    go_wp2_with fail
    go_ret3
    exact ⟨ret3 (by rw [HE.out]) (by rw [HE.out]) (by rw [HE.out]), hb⟩
  have hS : (Below w0.heap.size w0 w.drew ∧ Bk w.drew g6 91 #[.int .i64 (bestM J 4 J.tg).1, .int .i64 (bestM J 4 J.tg).2]) := ⟨HB.out.drew, H6.out⟩
  refine wp_region_held_drew (S := fun w' => Below w0.heap.size w0 w' ∧ Bk w' g6 91 #[.int .i64 (bestM J 4 J.tg).1, .int .i64 (bestM J 4 J.tg).2]) (by kernel_rfl) hS (fun hS0 => ?_)
  generalize hWd : w.drew = wd at hS0 hS ⊢
  clear hWd z0 z1
  refine wpAnyH_take (i := 0) (v := ?_) rfl (by kernel_rfl) (by kernel_rfl) (by kernel_rfl) (fun _ _ _ h => by cases h.1) (.inl ⟨by rfl, ?_⟩) (by assumption) ?_
  rotate_left
  · (intro w' hSw; (try dsimp only at hSw); skip; go_simp <;> with_reducible rfl)
  (try simp only [Act.put, aT, aZ, aS])
  refine wpAnyH_take (i := 1) (v := ?_) rfl (by kernel_rfl) (by kernel_rfl) (by kernel_rfl) (fun _ _ _ h => by cases h.1) (.inl ⟨by rfl, ?_⟩) (by assumption) ?_
  rotate_left
  · (intro w' hSw; (try dsimp only at hSw); have q := hSw.2.at_ 0 (.int .i64 (bestM J 4 J.tg).1) rfl; go_simp <;> with_reducible rfl)
  (try simp only [Act.put, aT, aZ, aS])
  refine wpAnyH_take (i := 2) (v := ?_) rfl (by kernel_rfl) (by kernel_rfl) (by kernel_rfl) (fun _ _ _ h => by cases h.1) (.inl ⟨by rfl, ?_⟩) (by assumption) ?_
  rotate_left
  · (intro w' hSw; (try dsimp only at hSw); skip; go_simp <;> with_reducible rfl)
  (try simp only [Act.put, aT, aZ, aS])
  refine wpAnyH_take (i := 3) (v := ?_) rfl (by kernel_rfl) (by kernel_rfl) (by kernel_rfl) (fun _ _ _ h => by cases h.1) (.inl ⟨by rfl, ?_⟩) (by assumption) ?_
  rotate_left
  · (intro w' hSw; (try dsimp only at hSw); have q := hSw.2.at_ 1 (.int .i64 (bestM J 4 J.tg).2) rfl; go_simp <;> with_reducible rfl)
  (try simp only [Act.put, aT, aZ, aS])
  refine wpAnyH_ready (rs := [4]) (by kernel_rfl) (by simp) ?_
  refine AllReadyH.cons rfl (fun K hK => ?_) ?_
  · go_simp
    refine hK.out _ _ hS (fun _ => ?_)
    clear hK K
    (try simp only [Act.put, aT, aZ, aS])
    refine wpAnyH_ready (rs := [5]) (by kernel_rfl) (by simp) ?_
    refine AllReadyH.cons rfl (fun K hK => ?_) ?_
    · go_simp
      refine hK.out _ _ hS (fun _ => ?_)
      clear hK K
      (try simp only [Act.put, aT, aZ, aS])
      refine wpAnyH_ready (rs := [6]) (by kernel_rfl) (by simp) ?_
      refine AllReadyH.cons rfl (fun K hK => ?_) ?_
      · go_simp
        refine hK.out _ _ hS (fun _ => ?_)
        clear hK K
        (try simp only [Act.put, aT, aZ, aS])
        refine wpAnyH_done (by kernel_rfl) ?_ _
        exact ⟨rfl, _, _, _, _, rfl, hS.1⟩
      exact AllReadyH.nil
    exact AllReadyH.nil
  exact AllReadyH.nil
set_option maxHeartbeats 4000000 in
set_option maxRecDepth 1000000 in
theorem nxpart3 {J : Jb} {w0 w : World} {g6 : Nat} {u0 u1 u2 u3 u4 u5 u7 u8 u9 u10 u11 u12 u13 u14 u15 u16 u17 u18 u19 u20 u21 u22 u23 u24 : Value} (h6 : Bk w g6 91 #[.int .i64 (bestM J 4 J.tg).1, .int .i64 (bestM J 4 J.tg).2]) (hB : Below w0.heap.size w0 w) (hc : J.check = 0) : Code.wp Try.prog nxrest3 (QNX J w0) ⟨#[u0, u1, u2, u3, u4, u5, (.pointer (some ⟨g6, 0, none⟩)), u7, u8, u9, u10, u11, u12, u13, u14, u15, u16, u17, u18, u19, u20, u21, u22, u23, u24], []⟩ w := by
  rw [nxrest3_eq]
  have z1 := h6.at_ 1 (.int .i64 (bestM J 4 J.tg).2) rfl
  have H6 := hidMk h6
  have HB := hidMk hB
  have HC := hidMk hc
  clear h6 hB hc
  by_cases h5 : (bestM J 4 J.tg).2 = 5
  · have e1 : (nextI J) = (0, 0, 11) := by unfold nextI; rw [if_pos HC.out, if_pos h5]
    rw [h5] at z1
    have HE := hidMk e1
    have H5 := hidMk h5
    clear e1 h5
    unfold QNX
    go_wp2_with fail
    go_ret3
    exact ⟨ret3 (by rw [HE.out]) (by rw [HE.out]) (by rw [HE.out]), HB.out⟩
  · have H5 := hidMk h5
    have hb5 : ((bestM J 4 J.tg).2 == 5) = false := by rw [beq_eq_false_iff_ne]; exact h5
    clear h5
    go_wp2_with fail
    exact nxpart4 H6.out HB.out HC.out H5.out
set_option maxHeartbeats 4000000 in
set_option maxRecDepth 1000000 in
theorem nxpart2 {J : Jb} {sa : Option Addr} {sn sc : Nat} {w0 w : World} {g1 : Nat} {u0 u2 u3 u4 u5 u6 u7 u8 u9 u10 u11 u12 u13 u14 u15 u16 u17 u18 u19 u20 u21 u22 u23 u24 : Value} (hs : NS J sa sn sc w0 g1 w) (hc : J.check = 0) (hn : sn = J.sh.length) (hme : 0 ≤ J.me ∧ J.me ≤ 6) : Code.wp Try.prog nxrest2 (QNX J w0) ⟨#[u0, (.pointer (some ⟨g1, 0, none⟩)), u2, u3, u4, u5, u6, u7, u8, u9, u10, u11, u12, u13, u14, u15, u16, u17, u18, u19, u20, u21, u22, u23, u24], []⟩ w := by
  rw [nxrest2_eq]
  have HOK := hidMk (check_ok hc)
  have HN := hidMk hn
  have HC := hidMk hc
  have HME : Hid (0 ≤ J.me ∧ J.me ≤ 6) := hidMk hme
  have HU : Hid (J.u1 ≤ J.u2 ∧ J.d1 ≤ J.d2) := hidMk ⟨HOK.out.u, HOK.out.d⟩
  clear hc hn hme
  refine wp_seq_k fun K0 hKK => ?_
  refine region_via (R := fun a_ e a' w' => e = .normal ∧ ∃ (v12 v13 v14 v15 v16 v17 : Value) (g6 : Nat), a' = (((((((a_.put (some 12) v12).put (some 13) v13).put (some 14) v14).put (some 15) v15).put (some 16) v16).put (some 17) v17).put (some 6) (.pointer (some ⟨g6, 0, none⟩))) ∧ Below w0.heap.size w0 w' ∧ Bk w' g6 91 #[.int .i64 (bestM J 4 J.tg).1, .int .i64 (bestM J 4 J.tg).2]) ?_ ?_
  rotate_left
  · rintro e a' w' ⟨rfl, v12, v13, v14, v15, v16, v17, g6, rfl, hb, h6⟩
    refine hKK _ _ ?_
    simp only [Act.put, aT, aZ, aS]
    exact nxpart3 h6 hb HC.out
  have hS : NS J sa sn sc w0 g1 w.drew := hs.next (Below.refl _ _).drew
  clear hs
  refine wp_region_held_drew (S := fun w' => NS J sa sn sc w0 g1 w') (by kernel_rfl) hS (fun hS0 => ?_)
  generalize hWd : w.drew = wd at hS0 hS ⊢
  clear hWd
  refine wpAnyH_take (i := 0) rfl (by kernel_rfl) (by kernel_rfl) (by kernel_rfl) (fun _ _ _ h => by cases h.1) (yields_row (by rfl) 30 _ rfl g1 (jobC J (.slice sa sn sc)) rfl 30 (fun w' hw => hw.job) Try.underlying30 szJob) (by assumption) ?_
  (try simp only [Act.put, aT, aZ, aS])
  refine wpAnyH_take (i := 2) (v := ?_) rfl (by kernel_rfl) (by kernel_rfl) (by kernel_rfl) (fun _ _ _ h => by cases h.1) (.inl ⟨by rfl, ?_⟩) (by assumption) ?_
  rotate_left
  · (intro w' hSw; (try dsimp only at hSw); skip; go_simp <;> with_reducible rfl)
  (try simp only [Act.put, aT, aZ, aS])
  refine wpAnyH_take (i := 3) rfl (by kernel_rfl) (by kernel_rfl) (by kernel_rfl) (fun _ _ _ h => by cases h.1) (yields_midB (by rfl) 25 _ rfl g1 0 rfl #[.int .i64 J.p1, .int .i64 J.p2, .int .i64 J.t1, .int .i64 J.t2, .int .i64 J.r1, .int .i64 J.r2] _ (fun w hw => tg_row hw.job) Try.underlying25 rfl szTongue) (by assumption) ?_
  (try simp only [Act.put, aT, aZ, aS])
  refine wpAnyH_take (i := 4) (v := ?_) rfl (by kernel_rfl) (by kernel_rfl) (by kernel_rfl) (fun _ _ _ h => by cases h.1) (.inl ⟨by rfl, ?_⟩) (by assumption) ?_
  rotate_left
  · (intro w' hSw; (try dsimp only at hSw); skip; go_simp <;> with_reducible rfl)
  (try simp only [Act.put, aT, aZ, aS])
  refine wpAnyH_ready (rs := [1, 6]) (by kernel_rfl) (by simp) ?_
  refine AllReadyH.cons rfl (fun K hK => ?_) ?_
  · go_simp
    go_at_call 53
    refine (player_any J sa sn sc _ HOK.out.inn HN.out hS.rg).mono ?_
    rintro e wp ⟨Bw, Bf, Bj, Bb, bm, rfl, hE_, hM_, hb_, hbm_⟩
    have hE := hE_
    have hM := hM_
    have hlm : w0.heap.size ≤ bm := Nat.le_trans hS.b0.size hbm_
    have hS_ := hS.next hb_
    clear hS hE_ hM_ hb_ hbm_
    have hS := hS_
    clear hS_
    go_wp2_with fail
    refine hK.out _ _ hS (fun _ => ?_)
    clear hK K
    (try simp only [Act.put, aT, aZ, aS])
    refine wpAnyH_ready (rs := [5, 6]) (by kernel_rfl) (by simp) ?_
    refine AllReadyH.cons rfl (fun K hK => ?_) ?_
    · go_simp
      go_at_call 81
      refine (best_all J sa sn sc Bw Bf Bj Bb bm HOK.out.inn HME.out HU.out 4 (by decide) J.tg 0 _ hE hM (tg_in4 HOK.out) (by decide)).mono ?_
      rintro e wb ⟨rfl, ⟨cd, hcd, hmd⟩, hg_⟩
      have hS_ := hS.grown hg_ hM hlm
      clear hS hE hM hcd hmd hg_
      have hS := hS_
      clear hS_
      go_wp2_with fail
      refine hK.out _ _ hS (fun _ => ?_)
      clear hK K
      (try simp only [Act.put, aT, aZ, aS])
      refine wpAnyH_ready (rs := [6]) (by kernel_rfl) (by simp) ?_
      refine AllReadyH.cons rfl (fun K hK => ?_) ?_
      · have h6 : Bk (wb.alloc (.cells #[.int .i64 0, .int .i64 0] 91)) wb.heap.size 91 #[.int .i64 0, .int .i64 0] := Bk.new _ _ _
        have al_ : Below wb.heap.size wb (wb.alloc (.cells #[.int .i64 0, .int .i64 0] 91)) := (Below.refl _ _).alloc (Nat.le_refl _) _
        have hl6 : w0.heap.size ≤ wb.heap.size := hS.b0.size
        have hS_ := hS.next al_
        go_simp
        show K _ (wb.alloc (.cells #[.int .i64 0, .int .i64 0] 91))
        refine hK.out _ _ hS_ (fun _ => ?_)
        clear hS al_
        have hS := hS_
        clear hS_
        generalize wb.heap.size = g6 at h6 hl6 ⊢
        generalize (wb.alloc (.cells #[.int .i64 0, .int .i64 0] 91)) = wA at h6 hS  ⊢
        clear hK K
        (try simp only [Act.put, aT, aZ, aS])
        refine wpAnyH_ready (rs := [7]) (by kernel_rfl) (by simp) ?_
        refine AllReadyH.cons rfl (fun K hK => ?_) ?_
        · have z0 := h6.at_ 0 _ rfl
          have z1 := h6.at_ 1 _ rfl
          have f0 := h6.free 0
          have f1 := h6.free 1
          go_simp
          have h6_ := h6.put2 (.int .i64 (bestM J 4 J.tg).1) (.int .i64 (bestM J 4 J.tg).2)
          have hS_ := (hS.set hl6 h6 (by decide) 0 (.int .i64 (bestM J 4 J.tg).1)).set hl6 (h6.put 0 _) (by simp) 1 (.int .i64 (bestM J 4 J.tg).2)
          refine hK.out _ _ hS_ (fun _ => ?_)
          clear z0 z1 f0 f1 hS
          clear hK K
          (try simp only [Act.put, aT, aZ, aS])
          refine wpAnyH_done (by kernel_rfl) ?_ _
          exact ⟨rfl, _, _, _, _, _, _, _, rfl, hS_.b0, h6_⟩
        exact AllReadyH.nil
      exact AllReadyH.nil
    refine AllReadyH.cons rfl (fun K hK => ?_) ?_
    · have h6 : Bk (wp.alloc (.cells #[.int .i64 0, .int .i64 0] 91)) wp.heap.size 91 #[.int .i64 0, .int .i64 0] := Bk.new _ _ _
      have al_ : Below wp.heap.size wp (wp.alloc (.cells #[.int .i64 0, .int .i64 0] 91)) := (Below.refl _ _).alloc (Nat.le_refl _) _
      have hl6 : w0.heap.size ≤ wp.heap.size := hS.b0.size
      have hS_ := hS.next al_
      have hE_ := hE.below al_
      have hM_ := hM.kept (grown_of_below al_ none) (by simp)
      clear hE hM
      have hE := hE_
      have hM := hM_
      clear hE_ hM_
      go_simp
      show K _ (wp.alloc (.cells #[.int .i64 0, .int .i64 0] 91))
      refine hK.out _ _ hS_ (fun _ => ?_)
      clear hS al_
      have hS := hS_
      clear hS_
      generalize wp.heap.size = g6 at h6 hl6 ⊢
      generalize (wp.alloc (.cells #[.int .i64 0, .int .i64 0] 91)) = wA at h6 hS hE hM ⊢
      clear hK K
      (try simp only [Act.put, aT, aZ, aS])
      refine wpAnyH_ready (rs := [5]) (by kernel_rfl) (by simp) ?_
      refine AllReadyH.cons rfl (fun K hK => ?_) ?_
      · go_simp
        go_at_call 81
        refine (best_all J sa sn sc Bw Bf Bj Bb bm HOK.out.inn HME.out HU.out 4 (by decide) J.tg 0 _ hE hM (tg_in4 HOK.out) (by decide)).mono ?_
        rintro e wb ⟨rfl, ⟨cd, hcd, hmd⟩, hg_⟩
        have hS_ := hS.grown hg_ hM hlm
        have h6_ := h6.grown hg_ (fun e => bk_ne_memo h6 hM (by injection e))
        clear h6
        have h6 := h6_
        clear h6_
        clear hS hE hM hcd hmd hg_
        have hS := hS_
        clear hS_
        go_wp2_with fail
        refine hK.out _ _ hS (fun _ => ?_)
        clear hK K
        (try simp only [Act.put, aT, aZ, aS])
        refine wpAnyH_ready (rs := [7]) (by kernel_rfl) (by simp) ?_
        refine AllReadyH.cons rfl (fun K hK => ?_) ?_
        · have z0 := h6.at_ 0 _ rfl
          have z1 := h6.at_ 1 _ rfl
          have f0 := h6.free 0
          have f1 := h6.free 1
          go_simp
          have h6_ := h6.put2 (.int .i64 (bestM J 4 J.tg).1) (.int .i64 (bestM J 4 J.tg).2)
          have hS_ := (hS.set hl6 h6 (by decide) 0 (.int .i64 (bestM J 4 J.tg).1)).set hl6 (h6.put 0 _) (by simp) 1 (.int .i64 (bestM J 4 J.tg).2)
          refine hK.out _ _ hS_ (fun _ => ?_)
          clear z0 z1 f0 f1 hS
          clear hK K
          (try simp only [Act.put, aT, aZ, aS])
          refine wpAnyH_done (by kernel_rfl) ?_ _
          exact ⟨rfl, _, _, _, _, _, _, _, rfl, hS_.b0, h6_⟩
        exact AllReadyH.nil
      exact AllReadyH.nil
    exact AllReadyH.nil
  refine AllReadyH.cons rfl (fun K hK => ?_) ?_
  · have h6 : Bk (wd.alloc (.cells #[.int .i64 0, .int .i64 0] 91)) wd.heap.size 91 #[.int .i64 0, .int .i64 0] := Bk.new _ _ _
    have al_ : Below wd.heap.size wd (wd.alloc (.cells #[.int .i64 0, .int .i64 0] 91)) := (Below.refl _ _).alloc (Nat.le_refl _) _
    have hl6 : w0.heap.size ≤ wd.heap.size := hS.b0.size
    have hS_ := hS.next al_
    go_simp
    show K _ (wd.alloc (.cells #[.int .i64 0, .int .i64 0] 91))
    refine hK.out _ _ hS_ (fun _ => ?_)
    clear hS al_
    have hS := hS_
    clear hS_
    generalize wd.heap.size = g6 at h6 hl6 ⊢
    generalize (wd.alloc (.cells #[.int .i64 0, .int .i64 0] 91)) = wA at h6 hS  ⊢
    clear hK K
    (try simp only [Act.put, aT, aZ, aS])
    refine wpAnyH_ready (rs := [1]) (by kernel_rfl) (by simp) ?_
    refine AllReadyH.cons rfl (fun K hK => ?_) ?_
    · go_simp
      go_at_call 53
      refine (player_any J sa sn sc _ HOK.out.inn HN.out hS.rg).mono ?_
      rintro e wp ⟨Bw, Bf, Bj, Bb, bm, rfl, hE_, hM_, hb_, hbm_⟩
      have hE := hE_
      have hM := hM_
      have hlm : w0.heap.size ≤ bm := Nat.le_trans hS.b0.size hbm_
      have h6_ := h6.below hb_ h6.lt
      clear h6
      have h6 := h6_
      clear h6_
      have hS_ := hS.next hb_
      clear hS hE_ hM_ hb_ hbm_
      have hS := hS_
      clear hS_
      go_wp2_with fail
      refine hK.out _ _ hS (fun _ => ?_)
      clear hK K
      (try simp only [Act.put, aT, aZ, aS])
      refine wpAnyH_ready (rs := [5]) (by kernel_rfl) (by simp) ?_
      refine AllReadyH.cons rfl (fun K hK => ?_) ?_
      · go_simp
        go_at_call 81
        refine (best_all J sa sn sc Bw Bf Bj Bb bm HOK.out.inn HME.out HU.out 4 (by decide) J.tg 0 _ hE hM (tg_in4 HOK.out) (by decide)).mono ?_
        rintro e wb ⟨rfl, ⟨cd, hcd, hmd⟩, hg_⟩
        have hS_ := hS.grown hg_ hM hlm
        have h6_ := h6.grown hg_ (fun e => bk_ne_memo h6 hM (by injection e))
        clear h6
        have h6 := h6_
        clear h6_
        clear hS hE hM hcd hmd hg_
        have hS := hS_
        clear hS_
        go_wp2_with fail
        refine hK.out _ _ hS (fun _ => ?_)
        clear hK K
        (try simp only [Act.put, aT, aZ, aS])
        refine wpAnyH_ready (rs := [7]) (by kernel_rfl) (by simp) ?_
        refine AllReadyH.cons rfl (fun K hK => ?_) ?_
        · have z0 := h6.at_ 0 _ rfl
          have z1 := h6.at_ 1 _ rfl
          have f0 := h6.free 0
          have f1 := h6.free 1
          go_simp
          have h6_ := h6.put2 (.int .i64 (bestM J 4 J.tg).1) (.int .i64 (bestM J 4 J.tg).2)
          have hS_ := (hS.set hl6 h6 (by decide) 0 (.int .i64 (bestM J 4 J.tg).1)).set hl6 (h6.put 0 _) (by simp) 1 (.int .i64 (bestM J 4 J.tg).2)
          refine hK.out _ _ hS_ (fun _ => ?_)
          clear z0 z1 f0 f1 hS
          clear hK K
          (try simp only [Act.put, aT, aZ, aS])
          refine wpAnyH_done (by kernel_rfl) ?_ _
          exact ⟨rfl, _, _, _, _, _, _, _, rfl, hS_.b0, h6_⟩
        exact AllReadyH.nil
      exact AllReadyH.nil
    exact AllReadyH.nil
  exact AllReadyH.nil
set_option maxHeartbeats 4000000 in
set_option maxRecDepth 1000000 in
theorem nxpart1 {J : Jb} {sa : Option Addr} {sn sc : Nat} {w0 w : World} {g1 : Nat} {u0 u2 u3 u4 u5 u6 u7 u8 u9 u10 u11 u12 u13 u14 u15 u16 u17 u18 u19 u20 u21 u22 u23 u24 : Value} (hs : NS J sa sn sc w0 g1 w) (hn : sn = J.sh.length) (hm : sn ≤ 9223372036854775807) : Code.wp Try.prog nxrest1 (QNX J w0) ⟨#[u0, (.pointer (some ⟨g1, 0, none⟩)), u2, u3, u4, u5, u6, u7, u8, u9, u10, u11, u12, u13, u14, u15, u16, u17, u18, u19, u20, u21, u22, u23, u24], []⟩ w := by
  rw [nxrest1_eq]
  have HS := hidMk hs
  have HN := hidMk hn
  clear hs hn
  go_wp2_with (refine wpList_load_row rfl 30 _ rfl g1 rfl _ (jobC J (.slice sa sn sc)) _ _ HS.out.job Try.underlying30 rfl szJob ?_)
  refine (check_any J sa sn sc _ HN.out hm HS.out.rg).mono ?_
  rintro e w1 ⟨rfl, hb1⟩
  have HS1 := hidMk (HS.out.next hb1)
  clear hb1
  by_cases hc : J.check = 0
  · have hb0 : (J.check != 0) = false := by simp [hc]
    have HC := hidMk hc
    clear hc
    go_wp2_with fail
    exact nxpart2 HS1.out HC.out HN.out (by have := check_me HC.out; exact this)
  · have hb0 : (J.check != 0) = true := by simpa using hc
    have e1 : (nextI J) = (0, 0, J.check) := by unfold nextI; rw [if_neg hc]
    have HE := hidMk e1
    clear hc e1
    unfold QNX
    go_wp2_with fail
    go_ret3
    exact ⟨ret3 (by rw [HE.out]) (by rw [HE.out]) (by rw [HE.out]), HS1.out.b0⟩
set_option maxHeartbeats 4000000 in
set_option maxRecDepth 1000000 in
/-- **Next**, on any job. -/
theorem next_any (J : Jb) (sa : Option Addr) (sn sc : Nat) (w : World) (hn : sn = J.sh.length) (hm : sn ≤ 9223372036854775807) (h : Rg w w.heap.size sa J.sh) :
    Calls Try.prog 17 #[.agg (jobC J (.slice sa sn sc))] w fun e w' => e = .returned (.tuple #[.int .i64 (nextI J).1, .int .i64 (nextI J).2.1, .int .i64 (nextI J).2.2]) ∧ Below w.heap.size w w' := by
  have q0 : Below w.heap.size w (w.alloc (.cells (jobC J (.slice sa sn sc)) 30)) := (Below.refl _ _).alloc (Nat.le_refl _) _
  have hs : NS J sa sn sc w w.heap.size (w.alloc (.cells (jobC J (.slice sa sn sc)) 30)) := ⟨q0, Bk.new _ _ _, h.below q0⟩
  have HS := hidMk hs
  have HN := hidMk hn
  clear q0 hs h hn
  go_enter Try.func17, Try.ntmps17
  show Code.wp Try.prog nxbody (QNX J w) _ _
  rw [nxbody_eq]
  go_wp2_with fail
  exact nxpart1 HS.out HN.out hm
end Go.Proofs.Ytbebofmpimfbgaa
