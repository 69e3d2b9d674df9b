/- Part 10 of the proof: BmL, GP, NX. -/
import Derived.OwnWalk
import Derived.Test.YtbebofmpimfbgaaB09
import Derived.Test.YtbebofmpimfbgaaB07
import Derived.Test.YtbebofmpimfbgaaB06
/- The tuner's search finds the best move. -/
namespace Go.Proofs.Ytbebofmpimfbgaa
set_option linter.all false
open Go.RowKit Go.Shelf
attribute [local go_sem] Oper.semAt_some
theorem tg_key {k : Nat} {t : Tg} (h : TgIn k t) (hk : k ≤ 5) : ∃ kl, keyOf Try.prog 93 (.agg (knownC t k)) = some kl := by
  obtain ⟨h, _⟩ := h
  simp only [Tg.In] at h
  exact key_ok t k ⟨by omega, by omega, by omega, by omega, by omega, by omega⟩ (by omega)
set_option maxHeartbeats 4000000 in
set_option maxRecDepth 1000000 in
theorem best_succ (J : Jb) (sa : Option Addr) (sn sc : Nat) (Bw Bf Bj Bb bm k : Nat) (ih : BestOK J (.slice sa sn sc) Bw Bf Bj Bb bm k) (hk4 : k ≤ 3) (hJ : J.In 100) (hme : 0 ≤ J.me ∧ J.me ≤ 6) (hu : J.u1 ≤ J.u2 ∧ J.d1 ≤ J.d2) : BestOK J (.slice sa sn sc) Bw Bf Bj Bb bm (k + 1) := by
  intro t cnt W HE HM ht hcnt
  by_cases hw : (win J.wi J.sh).1 ≤ t.p1 ∧ t.p2 ≤ (win J.wi J.sh).2
  · exact best_stop J (.slice sa sn sc) Bw Bf Bj Bb bm cnt (k + 1) t W HE HM hw
  · obtain ⟨kl, hkey⟩ := tg_key ht (by omega)
    have hKey := hidMk hkey
    have hE := hidMk HE
    have hM := hidMk HM
    have hT := hidMk ht
    have hC := hidMk hcnt
    have hW := hidMk hw
    have hJJ := hidMk hJ
    have hME := hidMk hme
    have hU := hidMk hu
    have hIH := hidMk ih
    have hcast : ((k + 1 : Nat) : Int) = (k : Int) + 1 := by omega
    rw [hcast]
    clear hcast HE HM ht hcnt hw hJ hme hu ih hkey
    refine (callsIn_wide (n := 3)).1 (callsIn_of_wp_marks Try.func81 rfl trivial ?_ rfl)
    simp only [Try.ntmps81, List.size_toArray, List.length_cons, List.length_nil, Nat.reduceAdd, Nat.reduceSub, Array.replicate_succ, Array.replicate_zero, List.push_toArray, List.append_toArray, List.nil_append, List.cons_append]
    gi_wp2_with fail
    refine wpIn_scope ?_
    refine wpIn_wide.2 ?_
    have b5 : Bk ((W.alloc (.cells #[.int .i64 t.p1, .int .i64 t.p2, .int .i64 t.t1, .int .i64 t.t2, .int .i64 t.r1, .int .i64 t.r2, .int .i64 ((k : Int) + 1)] 93)).alloc (.cells #[.int .i64 0, .int .i64 0] 91)) W.heap.size 93 (knownC t (k + 1)) := by rw [knownC_succ]; exact (Bk.new _ _ _).alloc _
    have b6 : Bk ((W.alloc (.cells #[.int .i64 t.p1, .int .i64 t.p2, .int .i64 t.t1, .int .i64 t.t2, .int .i64 t.r1, .int .i64 t.r2, .int .i64 ((k : Int) + 1)] 93)).alloc (.cells #[.int .i64 0, .int .i64 0] 91)) (W.heap.size + 1) 91 #[.int .i64 0, .int .i64 0] := Bk.newAt _ _ _ _ (by simp)
    have q : Below W.heap.size W ((W.alloc (.cells #[.int .i64 t.p1, .int .i64 t.p2, .int .i64 t.t1, .int .i64 t.t2, .int .i64 t.r1, .int .i64 t.r2, .int .i64 ((k : Int) + 1)] 93)).alloc (.cells #[.int .i64 0, .int .i64 0] 91)) := ((Below.refl _ _).alloc (Nat.le_refl _) _).alloc (by simp) _
    generalize ((W.alloc (.cells #[.int .i64 t.p1, .int .i64 t.p2, .int .i64 t.t1, .int .i64 t.t2, .int .i64 t.r1, .int .i64 t.r2, .int .i64 ((k : Int) + 1)] 93)).alloc (.cells #[.int .i64 0, .int .i64 0] 91)) = w at b5 b6 q ⊢
    show Code.wp Try.prog bmbody _ _ _
    exact bm_front hIH.out hE.out hM.out q b5 b6 (Nat.le_refl _) (by omega) hW.out hk4 hJJ.out hME.out hU.out hT.out hC.out hKey.out
theorem best_zero (J : Jb) (s : Value) (Bw Bf Bj Bb bm : Nat) : BestOK J s Bw Bf Bj Bb bm 0 := by
  intro t cnt W HE HM ht hcnt
  by_cases hw : (win J.wi J.sh).1 ≤ t.p1 ∧ t.p2 ≤ (win J.wi J.sh).2
  · exact best_stop J s Bw Bf Bj Bb bm cnt 0 t W HE HM hw
  · exact best_none J s Bw Bf Bj Bb bm cnt t W HE HM hw
/-- **The tuner's search finds the best move.** -/
theorem best_all (J : Jb) (sa : Option Addr) (sn sc : Nat) (Bw Bf Bj Bb bm : Nat) (hJ : J.In 100) (hme : 0 ≤ J.me ∧ J.me ≤ 6) (hu : J.u1 ≤ J.u2 ∧ J.d1 ≤ J.d2) : ∀ k, k ≤ 4 → BestOK J (.slice sa sn sc) Bw Bf Bj Bb bm k
  | 0, _ => best_zero J _ Bw Bf Bj Bb bm
  | k + 1, h => best_succ J sa sn sc Bw Bf Bj Bb bm k (best_all J sa sn sc Bw Bf Bj Bb bm hJ hme hu k (by omega)) (by omega) hJ hme hu
#print axioms best_all
end Go.Proofs.Ytbebofmpimfbgaa
/- The tuner's search, made. -/
namespace Go.Proofs.Ytbebofmpimfbgaa
set_option linter.all false
open Go.RowKit Go.Shelf
noncomputable def plbody : Code := Try.f53.body.getD .skip
noncomputable def plrest1 : Code := sndB plbody
noncomputable def plrest2 : Code := sndB plrest1
noncomputable def plrest3 : Code := sndB plrest2
noncomputable def plrest4 : Code := sndB plrest3
noncomputable def plrest5 : Code := sndB plrest4
set_option maxRecDepth 1000000 in
theorem plbody_eq : plbody = .seq (Code.region 0 #[⟨some 1, .box 30 (.tmp 0), 0, "game.go:86", #[], none⟩, ⟨some 2, .assign (.const .nilFunc), 85, "game.go:86", #[], none⟩] false) plrest1 := by kernel_rfl
set_option maxRecDepth 1000000 in
theorem plrest1_eq : plrest1 = .seq (Code.region 1 #[⟨some 8, .load 30 (.tmp 1), 30, "game.go:87", #[], none⟩, ⟨some 9, .call { callee := .value (.func 70), args := #[.tmp 8], argTypes := #[30] }, 110, "game.go:87", #[⟨0, .data⟩], none⟩, ⟨some 7, .move (.tmp 9), 110, "game.go:87", #[⟨1, .data⟩], none⟩, ⟨some 10, .extract (.tmp 7) 0, 23, "game.go:87", #[⟨2, .data⟩], none⟩, ⟨some 11, .extract (.tmp 7) 1, 23, "game.go:87", #[⟨2, .data⟩, ⟨7, .gcOnly .lateStores⟩], none⟩, ⟨some 3, .alloc 23, 0, "game.go:87", #[], none⟩, ⟨some 4, .alloc 23, 0, "game.go:87", #[], none⟩, ⟨none, .store 23 (.tmp 3) (.tmp 10), 0, "game.go:87", #[⟨5, .data⟩, ⟨3, .data⟩, ⟨1, .chain⟩, ⟨0, .phase⟩, ⟨1, .phase⟩, ⟨2, .phase⟩, ⟨3, .phase⟩, ⟨4, .textOnly .lateStores⟩, ⟨5, .phase⟩, ⟨6, .phase⟩], none⟩, ⟨none, .store 23 (.tmp 4) (.tmp 11), 0, "game.go:87", #[⟨6, .data⟩, ⟨4, .data⟩, ⟨7, .chain⟩, ⟨0, .phase⟩, ⟨1, .phase⟩, ⟨2, .phase⟩, ⟨3, .phase⟩, ⟨4, .phase⟩, ⟨5, .phase⟩, ⟨6, .phase⟩, ⟨7, .phase⟩], none⟩] false) plrest2 := by kernel_rfl
set_option maxRecDepth 1000000 in
theorem plrest2_eq : plrest2 = .seq (Code.region 2 #[⟨some 12, .makeMap 123 none, 123, "game.go:88", #[], none⟩, ⟨some 5, .alloc 123, 0, "game.go:88", #[], none⟩, ⟨none, .store 123 (.tmp 5) (.tmp 12), 0, "game.go:88", #[⟨1, .data⟩, ⟨0, .data⟩, ⟨0, .phase⟩, ⟨1, .phase⟩], none⟩] false) plrest3 := by kernel_rfl
set_option maxRecDepth 1000000 in
theorem plrest3_eq : plrest3 = .seq (Code.region 3 #[⟨some 6, .alloc 85, 0, "game.go:89", #[], none⟩] false) plrest4 := by kernel_rfl
set_option maxRecDepth 1000000 in
theorem plrest4_eq : plrest4 = .seq (Code.region 4 #[⟨some 13, .makeFunc (Go.Fn.func 81) #[] #[.tmp 3, .tmp 5, .tmp 1, .tmp 6], 85, "game.go:90", #[], none⟩, ⟨none, .store 85 (.tmp 6) (.tmp 13), 0, "game.go:90", #[⟨0, .data⟩, ⟨0, .phase⟩], none⟩] false) plrest5 := by kernel_rfl
set_option maxRecDepth 1000000 in
theorem plrest5_eq : plrest5 = .seq (Code.region 5 #[⟨some 14, .load 85 (.tmp 6), 85, "game.go:123", #[], none⟩, ⟨some 2, .assign (.tmp 14), 85, "game.go:123", #[⟨0, .data⟩, ⟨0, .phase⟩], none⟩] false) .ret := by kernel_rfl
def QPL (J : Jb) (sa : Option Addr) (sn sc : Nat) (w0 : World) : Exit → Act → World → Prop := bodyPost Try.prog Try.f53 (fun e w' => ∃ Bw Bf Bj Bb bm, e = .returned (.func (.func 81) #[] #[.pointer (some ⟨Bw, 0, none⟩), .pointer (some ⟨Bf, 0, none⟩), .pointer (some ⟨Bj, 0, none⟩), .pointer (some ⟨Bb, 0, none⟩)]) ∧ Env J (.slice sa sn sc) Bw Bf Bj Bb bm w' ∧ Memo J w' bm 0 ∧ Below w0.heap.size w0 w' ∧ w0.heap.size ≤ bm)
set_option maxHeartbeats 4000000 in
set_option maxRecDepth 1000000 in
theorem plpart4 {J : Jb} {sa : Option Addr} {sn sc g1 g3 g5 g6 bm : Nat} {w0 w : World} {z : Value} {u0 u2 u4 u7 u8 u9 u10 u11 u12 u13 u14 : Value} (h3 : Bk w g3 23 #[.int .i64 (win J.wi J.sh).1, .int .i64 (win J.wi J.sh).2]) (h5 : Bk w g5 123 #[.map (some bm)]) (h1 : Bk w g1 30 (jobC J (.slice sa sn sc))) (h6 : Bk w g6 85 #[z]) (hne : g6 ≠ g3 ∧ g6 ≠ g5 ∧ g6 ≠ g1) (hm : Memo J w bm 0) (hB : Below w0.heap.size w0 w) (hg6 : w0.heap.size ≤ g6) (hbmw : w0.heap.size ≤ bm) : Code.wp Try.prog plrest4 (QPL J sa sn sc w0) ⟨#[u0, (.pointer (some ⟨g1, 0, none⟩)), u2, (.pointer (some ⟨g3, 0, none⟩)), u4, (.pointer (some ⟨g5, 0, none⟩)), (.pointer (some ⟨g6, 0, none⟩)), u7, u8, u9, u10, u11, u12, u13, u14], []⟩ w := by
  rw [plrest4_eq]
  have z6 := h6.at_ 0 _ rfl
  have f6 := h6.free 0
  have hst : (store ⟨g6, 0, none⟩ (.func (.func 81) #[] #[.pointer (some ⟨g3, 0, none⟩), .pointer (some ⟨g5, 0, none⟩), .pointer (some ⟨g1, 0, none⟩), .pointer (some ⟨g6, 0, none⟩)])).run Try.prog w = stored Try.prog w ⟨g6, 0, none⟩ (.func (.func 81) #[] #[.pointer (some ⟨g3, 0, none⟩), .pointer (some ⟨g5, 0, none⟩), .pointer (some ⟨g1, 0, none⟩), .pointer (some ⟨g6, 0, none⟩)]) .plain := run_store _ _ _ _ _ rfl
  unfold QPL
  go_wp2_with fail
  have b6 := h6.put1 (.func (.func 81) #[] #[.pointer (some ⟨g3, 0, none⟩), .pointer (some ⟨g5, 0, none⟩), .pointer (some ⟨g1, 0, none⟩), .pointer (some ⟨g6, 0, none⟩)])
  have hq := hB.setCell (p := ⟨g6, 0, none⟩) hg6 (.func (.func 81) #[] #[.pointer (some ⟨g3, 0, none⟩), .pointer (some ⟨g5, 0, none⟩), .pointer (some ⟨g1, 0, none⟩), .pointer (some ⟨g6, 0, none⟩)])
  have hmb : bm ≠ g6 := by
    intro e
    exact bk_ne_memo h6 hm e.symm
  have hm2 := hm.kept (grownBy_setCellA w g6 0 (.func (.func 81) #[] #[.pointer (some ⟨g3, 0, none⟩), .pointer (some ⟨g5, 0, none⟩), .pointer (some ⟨g1, 0, none⟩), .pointer (some ⟨g6, 0, none⟩)])) (by intro e; injection e with e; exact hmb e)
  have k3 := h3.other (p := ⟨g6, 0, none⟩) (by exact fun e => hne.1 e.symm) (.func (.func 81) #[] #[.pointer (some ⟨g3, 0, none⟩), .pointer (some ⟨g5, 0, none⟩), .pointer (some ⟨g1, 0, none⟩), .pointer (some ⟨g6, 0, none⟩)])
  have k5 := h5.other (p := ⟨g6, 0, none⟩) (by exact fun e => hne.2.1 e.symm) (.func (.func 81) #[] #[.pointer (some ⟨g3, 0, none⟩), .pointer (some ⟨g5, 0, none⟩), .pointer (some ⟨g1, 0, none⟩), .pointer (some ⟨g6, 0, none⟩)])
  have k1 := h1.other (p := ⟨g6, 0, none⟩) (by exact fun e => hne.2.2 e.symm) (.func (.func 81) #[] #[.pointer (some ⟨g3, 0, none⟩), .pointer (some ⟨g5, 0, none⟩), .pointer (some ⟨g1, 0, none⟩), .pointer (some ⟨g6, 0, none⟩)])
  have y6 := b6.at_ 0 _ rfl
  first | rw [plrest5_eq] | skip
  go_wp2_with fail
  go_ret
  exact ⟨g3, g5, g1, g6, bm, rfl, ⟨k3, k5, k1, b6⟩, hm2, hq, hbmw⟩
set_option maxHeartbeats 4000000 in
set_option maxRecDepth 1000000 in
theorem player_any (J : Jb) (sa : Option Addr) (sn sc : Nat) (w : World) (hJ : J.In 100) (hn : sn = J.sh.length) (h : Rg w w.heap.size sa J.sh) :
    Calls Try.prog 53 #[.agg (jobC J (.slice sa sn sc))] w (fun e w' => ∃ Bw Bf Bj Bb bm, e = .returned (.func (.func 81) #[] #[.pointer (some ⟨Bw, 0, none⟩), .pointer (some ⟨Bf, 0, none⟩), .pointer (some ⟨Bj, 0, none⟩), .pointer (some ⟨Bb, 0, none⟩)]) ∧ Env J (.slice sa sn sc) Bw Bf Bj Bb bm w' ∧ Memo J w' bm 0 ∧ Below w.heap.size w w' ∧ w.heap.size ≤ bm) := by
  have b0 := Bk.new w 30 (jobC J (.slice sa sn sc))
  have q0 : Below w.heap.size w (w.alloc (.cells (jobC J (.slice sa sn sc)) 30)) := (Below.refl _ _).alloc (Nat.le_refl _) _
  have HB := hidMk b0
  have HQ := hidMk q0
  have HR := hidMk (h.up q0)
  have HN := hidMk hn
  have HJ := hidMk hJ
  have hmm := @run_makeMap Try.prog
  clear b0 q0 h hn hJ
  go_enter Try.func53, Try.ntmps53
  show Code.wp Try.prog plbody (QPL J sa sn sc w) _ _
  rw [plbody_eq]
  go_wp2_with fail
  rw [plrest1_eq]
  go_wp2_with (first | (refine wpList_load_row rfl 30 _ rfl w.heap.size rfl _ (jobC J (.slice sa sn sc)) _ _ HB.out Try.underlying30 rfl szJob ?_))
  refine (windows_any J sa sn sc _ (HJ.out.mono (by decide)) HN.out HR.out).mono ?_
  rintro e w2 ⟨rfl, hb⟩
  have H2 := hidMk (HQ.out.trans (hb.mono HQ.out.size))
  have HB2 := hidMk (HB.out.below hb HB.out.lt)
  clear hb
  go_wp2_with fail
  rw [plrest2_eq]
  go_wp2_with fail
  rw [plrest3_eq]
  go_wp2_with fail
  have l1 := HB2.out.lt
  have hz := H2.out.size
  have mk := Memo.made J ((w2.alloc (.cells #[.int .i64 (win J.wi J.sh).1, .int .i64 (win J.wi J.sh).2] 23)).alloc (.cells #[.int .i64 (pos J.wi J.sh).1, .int .i64 (pos J.wi J.sh).2] 23))
  have hs : ((w2.alloc (.cells #[.int .i64 (win J.wi J.sh).1, .int .i64 (win J.wi J.sh).2] 23)).alloc (.cells #[.int .i64 (pos J.wi J.sh).1, .int .i64 (pos J.wi J.sh).2] 23)).heap.size = w2.heap.size + 1 + 1 := by simp
  rw [hs] at mk
  refine plpart4 (bm := w2.heap.size + 1 + 1) (Bk.alloc (Bk.alloc (Bk.alloc (Bk.alloc (Bk.new _ _ _) _) _) _) _) (Bk.alloc (Bk.newAt _ _ _ _ (by simp)) _) (Bk.alloc (Bk.alloc (Bk.alloc (Bk.alloc (Bk.alloc HB2.out _) _) _) _) _) (Bk.newAt _ _ _ _ (by simp)) (by omega) ((mk.kept (World.grownBy_alloc _ _ none) (by simp)).kept (World.grownBy_alloc _ _ none) (by simp)) (((((H2.out.alloc hz _).alloc (by simp; omega) _).alloc (by simp; omega) _).alloc (by simp; omega) _).alloc (by simp; omega) _) (by omega) (by omega)
end Go.Proofs.Ytbebofmpimfbgaa
/- Next, on any job. -/
namespace Go.Proofs.Ytbebofmpimfbgaa
set_option linter.all false
open Go.RowKit Go.Shelf
/-- What lies about in Next and in Guided. -/
structure NS (J : Jb) (sa : Option Addr) (sn sc : Nat) (w0 : World) (g1 : Nat) (w : World) : Prop where
  b0 : Below w0.heap.size w0 w
  job : Bk w g1 30 (jobC J (.slice sa sn sc))
  rg0 : Rg w w0.heap.size sa J.sh
section
variable {J : Jb} {sa : Option Addr} {sn sc : Nat} {w0 w w' : World} {g1 : Nat}
theorem NS.rg (h : NS J sa sn sc w0 g1 w) : Rg w w.heap.size sa J.sh := h.rg0.keep h.b0.size fun _ _ => rfl
theorem NS.of (h : NS J sa sn sc w0 g1 w) (hb : Below w0.heap.size w w') (hj : Bk w' g1 30 (jobC J (.slice sa sn sc))) : NS J sa sn sc w0 g1 w' := ⟨h.b0.trans hb, hj, h.rg0.below hb⟩
theorem NS.next (h : NS J sa sn sc w0 g1 w) (hb : Below w.heap.size w w') : NS J sa sn sc w0 g1 w' := h.of (hb.mono h.b0.size) (h.job.below hb h.job.lt)
theorem NS.grown (h : NS J sa sn sc w0 g1 w) {bm cnt : Nat} (hg : w.grownBy w' (some bm)) (hM : Memo J w bm cnt) (hl : w0.heap.size ≤ bm) : NS J sa sn sc w0 g1 w' :=
  h.of ⟨hg.os, hg.tape, hg.output, hg.size, fun i hi => hg.block i (Nat.lt_of_lt_of_le hi h.b0.size) (fun e => by injection e with e; omega)⟩ (h.job.grown hg (fun e => bk_ne_memo h.job hM (by injection e)))
theorem NS.set (h : NS J sa sn sc w0 g1 w) {g6 : Nat} {t : TypeId} {cs : Array Value} (hl : w0.heap.size ≤ g6) (h6 : Bk w g6 t cs) (hs : cs.size ≠ 18) (o : Nat) (v : Value) : NS J sa sn sc w0 g1 (w.setCell ⟨g6, o, none⟩ v) :=
  h.of ((Below.refl _ _).setCell hl v) (h.job.other (by
    rintro rfl
    have a := h.job
    unfold Bk at a h6
    rw [a] at h6
    injection h6 with h6
    injection h6 with h6
    rw [← h6] at hs
    exact hs rfl) v)
end
theorem check_me {J : Jb} (h : J.check = 0) : 0 ≤ J.me ∧ J.me ≤ 6 := by
  unfold Jb.check at h
  by_cases h0 : J.head = 0
  · rw [if_pos h0] at h
    by_cases h1 : 4 < J.sh.length
    · rw [if_pos h1] at h; omega
    · rw [if_neg h1] at h
      by_cases h2 : shE J.sh = 0
      · rw [if_pos h2] at h
        have b := firstE_ok _ h
        have b2 := numE_ok (b _ (by simp : numE J.me 0 6 ∈ _))
        omega
      · rw [if_neg h2] at h; exact absurd h h2
  · rw [if_neg h0] at h; exact absurd h h0
end Go.Proofs.Ytbebofmpimfbgaa
