/- Part 17 of the proof: GdD, Sh0, GmA, Full, KitJ, Pots, PotK, LawK. -/
import Derived.Deep.RegionHeld3
import Derived.Test.YtbebofmpimfbgaaH16
import Derived.Test.YtbebofmpimfbgaaH12
import Derived.Test.YtbebofmpimfbgaaH11
import Derived.Test.YtbebofmpimfbgaaH13
import Derived.Test.YtbebofmpimfbgaaH10
/- Guided, on any job. -/
namespace Go.Proofs.Ytbebofmpimfbgaa
set_option linter.all false
open Go.RowKit Go.Shelf
def QGD (J : Jb) (w0 : World) : Exit → Act → World → Prop := bodyPostM Fence.wide 3 Try.prog Try.f15 (fun e w' => e = .returned (.tuple #[.int .i64 (guidedI J).1, .int .i64 (guidedI J).2]) ∧ Below w0.heap.size w0 w')
theorem gd_ends {J : Jb} {w0 w : World} {g2 g3 D : Nat} {tmps : Array Value} {a b : Int} (hB : Below w0.heap.size w0 w) (hD : w0.heap.size ≤ D) (hd : w.heap[D]? = some (.deferred (some []))) (h2 : Bk w g2 3 #[.int .i64 a]) (h3 : Bk w g3 39 #[.int .i64 b])
    (t2 : tmps.getD 2 undef = .pointer (some ⟨g2, 0, none⟩)) (t3 : tmps.getD 3 undef = .pointer (some ⟨g3, 0, none⟩)) (he : guidedI J = (a, b)) : LeavesInM Fence.wide 3 Try.prog Try.f15 tmps (fun e w' => e = .returned (.tuple #[.int .i64 (guidedI J).1, .int .i64 (guidedI J).2]) ∧ Below w0.heap.size w0 w') [{ target := .collected D, args := #[] }] .returning w := by
  refine leaves_marks (lo := w0.heap.size) (hi := w.heap.size) _ _ ⟨fun d hm => ?_, List.pairwise_singleton _ _⟩ fun w' hs => ?_
  · rw [List.mem_singleton] at hm
    subst hm
    exact ⟨D, rfl, hD, (Array.getElem?_eq_some_iff.1 hd).1, hd⟩
  · have k2 : Bk w' g2 3 #[.int .i64 a] := (hs.same _ (.inr (by intro x; rw [show w.heap[g2]? = _ from h2]; simp))).trans h2
    have k3 : Bk w' g3 39 #[.int .i64 b] := (hs.same _ (.inr (by intro x; rw [show w.heap[g3]? = _ from h3]; simp))).trans h3
    refine ⟨_, results_int2 Try.results15 _ _ _ _ _ _ _ _ t2 t3 k2 k3 Try.underlying3 Try.underlying39, by rw [he], ?_⟩
    exact hB.trans ⟨hs.os, hs.tape, hs.output, by rw [hs.size]; exact Nat.le_refl _, fun i hi => hs.same i (.inl hi)⟩
set_option maxHeartbeats 4000000 in
set_option maxRecDepth 1000000 in
theorem gdpart5 {J : Jb} {sa : Option Addr} {sn sc : Nat} {w0 : World} {g1 g2 g3 g5 g6 Bw Bf Bj Bb bm : Nat} {w : World} {D : Nat} {u0 u4 u7 u8 u9 u10 u11 u12 u13 u14 u15 u16 u17 u18 u19 u20 u21 u22 u23 u24 u25 u26 u27 u28 u29 u30 u31 u32 u33 u34 u35 u36 : Value} (hi : GI J sa sn sc w0 g1 g2 g3 g5 g6 Bw Bf Bj Bb bm (readsL J.p1 J.p2 J.me) w) (hn : GN w0.heap.size g1 g2 g3 g5 g6 Bw Bf Bj Bb bm) (hc : J.check = 0) (hD : w0.heap.size ≤ D) (hdd : w.heap[D]? = some (.deferred (some []))) : Code.wp Try.prog gdrest5 (QGD J w0) ⟨#[u0, (.pointer (some ⟨g1, 0, none⟩)), (.pointer (some ⟨g2, 0, none⟩)), (.pointer (some ⟨g3, 0, none⟩)), u4, (.pointer (some ⟨g5, 0, none⟩)), (.pointer (some ⟨g6, 0, none⟩)), u7, u8, u9, u10, u11, u12, u13, u14, u15, u16, u17, u18, u19, u20, u21, u22, u23, u24, u25, u26, u27, u28, u29, u30, u31, u32, u33, u34, u35, u36], [{ target := .collected D, args := #[] }]⟩ w := by
  rw [gdrest5_eq]
  have z6 := hi.val.at_ 0 (.int .i64 (guideI J)) (by rw [gv_all]; rfl)
  have hl : ¬ guideI J = 5 := by rw [← gv_all]; exact hi.less
  have e1 : guidedI J = (guideI J, 0) := by unfold guidedI; rw [if_pos hc, if_neg hl]
  have c2 := hi.gs.r2.at_ 0 _ rfl
  have c3 := hi.gs.r3.at_ 0 _ rfl
  have f2 := hi.gs.r2.free 0
  have f3 := hi.gs.r3.free 0
  have hn0 := hn
  unfold GN at hn0
  have e23 : g2 ≠ g3 := by omega
  have e32 : g3 ≠ g2 := by omega
  have e62 : g6 ≠ g2 := by omega
  have HI := hidMk hi
  have HE := hidMk e1
  have HD := hidMk hD
  have HDD := hidMk hdd
  have HN := hidMk hn0
  clear hi e1 hn hn0 hl hc hD hdd
  go_wp2_with fail
  unfold QGD
  have hn0 := HN.out
  have q : Below w0.heap.size w ((w.setCell ⟨g2, 0, none⟩ (.int .i64 (guideI J))).setCell ⟨g3, 0, none⟩ (.int .i64 0)) := ((Below.refl _ _).setCell (by show w0.heap.size ≤ g2; omega) _).setCell (by show w0.heap.size ≤ g3; omega) _
  have hdg2 : D ≠ g2 := by rintro rfl; have a := HDD.out; rw [show w.heap[D]? = _ from HI.out.gs.r2] at a; cases a
  have hdg3 : D ≠ g3 := by rintro rfl; have a := HDD.out; rw [show w.heap[D]? = _ from HI.out.gs.r3] at a; cases a
  exact gd_ends (HI.out.gs.ns.b0.trans q) HD.out ((Below.heap_setCell _ ⟨g3, 0, none⟩ _ D hdg3).trans ((Below.heap_setCell _ ⟨g2, 0, none⟩ _ D hdg2).trans HDD.out)) ((HI.out.gs.r2.put1 _).other (by show g2 ≠ g3; omega) _) ((HI.out.gs.r3.other (p := ⟨g2, 0, none⟩) (by show g3 ≠ g2; omega) _).put1 _) rfl rfl HE.out
set_option maxHeartbeats 4000000 in
set_option maxRecDepth 1000000 in
theorem gdpart4 {J : Jb} {sa : Option Addr} {sn sc : Nat} {w0 : World} {g1 g2 g3 g5 g6 Bw Bf Bj Bb bm : Nat} {w : World} {u0 u4 u7 u8 u9 u10 u11 u12 u13 u14 u15 u16 u17 u18 u19 u20 u21 u22 u23 u24 u25 u26 u27 u28 u29 u30 u31 u32 u33 u34 u35 u36 : Value} (hi : GI J sa sn sc w0 g1 g2 g3 g5 g6 Bw Bf Bj Bb bm [] w) (hn : GN w0.heap.size g1 g2 g3 g5 g6 Bw Bf Bj Bb bm) (hc : J.check = 0) : Code.wp Try.prog gdrest4 (QGD J w0) ⟨#[u0, (.pointer (some ⟨g1, 0, none⟩)), (.pointer (some ⟨g2, 0, none⟩)), (.pointer (some ⟨g3, 0, none⟩)), u4, (.pointer (some ⟨g5, 0, none⟩)), (.pointer (some ⟨g6, 0, none⟩)), u7, u8, u9, u10, u11, u12, u13, u14, u15, u16, u17, u18, u19, u20, u21, u22, u23, u24, u25, u26, u27, u28, u29, u30, u31, u32, u33, u34, u35, u36], []⟩ w := by
  rw [gdrest4_cut]
  have hj := hi.gs.ns.job
  have j0 := hj.at_ 0 (.int .i64 J.p1) rfl
  have j1 := hj.at_ 1 (.int .i64 J.p2) rfl
  have j17 := hj.at_ 17 (.int .i64 J.me) rfl
  have HI := hidMk hi
  have HN := hidMk hn
  have HC := hidMk hc
  clear hj hi hn hc
  go_wp2_with (go_at_call 54; refine (readings_any J.p1 J.p2 J.me _).mono ?_; rintro e w2 ⟨rfl, rfl⟩)
  have q1 : Below w.heap.size w ((w.alloc (.cells #[.int .i64 J.p1, .int .i64 J.p2] 23)).alloc (.cells #[.int .i64 J.me] 3)) := ((Below.refl _ _).alloc (Nat.le_refl _) _).alloc (by simp) _
  have bp : Bk ((w.alloc (.cells #[.int .i64 J.p1, .int .i64 J.p2] 23)).alloc (.cells #[.int .i64 J.me] 3)) w.heap.size 23 #[.int .i64 J.p1, .int .i64 J.p2] := (Bk.new _ _ _).alloc _
  have bq : Bk ((w.alloc (.cells #[.int .i64 J.p1, .int .i64 J.p2] 23)).alloc (.cells #[.int .i64 J.me] 3)) (w.heap.size + 1) 3 #[.int .i64 J.me] := Bk.newAt _ _ _ _ (by simp)
  generalize ((w.alloc (.cells #[.int .i64 J.p1, .int .i64 J.p2] 23)).alloc (.cells #[.int .i64 J.me] 3)) = w2 at q1 bp bq ⊢
  have l6 := HI.out.val.lt
  have lb := HI.out.memo.choose_spec.2.lt
  have hi2 : GI J sa sn sc w0 g1 g2 g3 g5 g6 Bw Bf Bj Bb bm [] w2 := ⟨HI.out.gs.own HI.out.gs.ns.b0.size (grown_of_below q1 none) (by simp), by obtain ⟨d, hd, hm⟩ := HI.out.memo; exact ⟨d, hd, hm.kept (grown_of_below q1 none) (by simp)⟩, HI.out.val.below q1 l6, (by rw [show gv J [] = 0 from rfl]; decide)⟩
  have HI2 := hidMk hi2
  have HQ1 := hidMk q1
  clear hi2 q1
  refine (wpIn_wide (n := 3)).1 (gd_rf HI2.out bp bq (check_ok HC.out) (check_me HC.out) HN.out (by omega) (by omega) ?_ ?_)
  · intro D w' hD hg hdd
    have HG := hidMk hg
    have HD := hidMk hD
    have HDD := hidMk hdd
    clear hg hD hdd
    go_wp2_with fail
    exact gdpart5 HG.out HN.out HC.out (Nat.le_trans HI2.out.gs.ns.b0.size HD.out) HDD.out
  · intro D w' hD h5 hg hdd
    have HG := hidMk hg
    have HD := hidMk hD
    have HDD := hidMk hdd
    have H5 := hidMk h5
    clear hg hD hdd h5
    go_wp2_with fail
    unfold QGD
    exact gd_ends HG.out.b0 (Nat.le_trans HI2.out.gs.ns.b0.size HD.out) HDD.out HG.out.r2 HG.out.r3 rfl rfl (by unfold guidedI; rw [if_pos HC.out, if_pos H5.out])
set_option maxHeartbeats 4000000 in
set_option maxRecDepth 1000000 in
theorem gdpart3 {J : Jb} {sa : Option Addr} {sn sc : Nat} {w0 : World} {g1 g2 g3 g5 Bw Bf Bj Bb bm : Nat} {w : World} {u0 u4 u6 u7 u8 u9 u10 u11 u12 u13 u14 u15 u16 u17 u18 u19 u20 u21 u22 u23 u24 u25 u26 u27 u28 u29 u30 u31 u32 u33 u34 u35 u36 : Value} (hs : GS J sa sn sc w0 g1 g2 g3 g5 Bw Bf Bj Bb bm w) (hM : Memo J w bm 0) (hn : w0.heap.size ≤ g1 ∧ g1 < g2 ∧ g2 < g3 ∧ g3 < g5 ∧ Bw < g5 ∧ Bf < g5 ∧ Bj < g5 ∧ Bb < g5 ∧ bm < g5 ∧ w0.heap.size ≤ bm) (hc : J.check = 0) : Code.wp Try.prog gdrest3 (QGD J w0) ⟨#[u0, (.pointer (some ⟨g1, 0, none⟩)), (.pointer (some ⟨g2, 0, none⟩)), (.pointer (some ⟨g3, 0, none⟩)), u4, (.pointer (some ⟨g5, 0, none⟩)), u6, u7, u8, u9, u10, u11, u12, u13, u14, u15, u16, u17, u18, u19, u20, u21, u22, u23, u24, u25, u26, u27, u28, u29, u30, u31, u32, u33, u34, u35, u36], []⟩ w := by
  rw [gdrest3_eq]
  have HS := hidMk hs
  have HM := hidMk hM
  have HNN := hidMk hn
  have HC := hidMk hc
  clear hs hM hn hc
  go_wp2_with fail
  have q1 : Below w.heap.size w (w.alloc (.cells #[.int .i64 0] 3)) := (Below.refl _ _).alloc (Nat.le_refl _) _
  have hn0 := HNN.out
  refine gdpart4 (g6 := w.heap.size) ⟨HS.out.own HS.out.ns.b0.size (grown_of_below q1 none) (by simp), ⟨0, by simp, HM.out.kept (grown_of_below q1 none) (by simp)⟩, Bk.new _ _ _, (by rw [show gv J [] = 0 from rfl]; decide)⟩ ?_ HC.out
  have l5 := HS.out.fv.lt
  unfold GN
  omega
set_option maxHeartbeats 4000000 in
set_option maxRecDepth 1000000 in
theorem gdpart2 {J : Jb} {sa : Option Addr} {sn sc : Nat} {w0 : World} {g1 g2 g3 : Nat} {w : World} {u0 u4 u5 u6 u7 u8 u9 u10 u11 u12 u13 u14 u15 u16 u17 u18 u19 u20 u21 u22 u23 u24 u25 u26 u27 u28 u29 u30 u31 u32 u33 u34 u35 u36 : Value} (hs : NS J sa sn sc w0 g1 w) (h2 : Bk w g2 3 #[.int .i64 0]) (h3 : Bk w g3 39 #[.int .i64 0]) (hn : w0.heap.size ≤ g1 ∧ g1 < g2 ∧ g2 < g3) (hsn : sn = J.sh.length) (hc : J.check = 0) : Code.wp Try.prog gdrest2 (QGD J w0) ⟨#[u0, (.pointer (some ⟨g1, 0, none⟩)), (.pointer (some ⟨g2, 0, none⟩)), (.pointer (some ⟨g3, 0, none⟩)), u4, u5, u6, u7, u8, u9, u10, u11, u12, u13, u14, u15, u16, u17, u18, u19, u20, u21, u22, u23, u24, u25, u26, u27, u28, u29, u30, u31, u32, u33, u34, u35, u36], []⟩ w := by
  rw [gdrest2_eq]
  have HS := hidMk hs
  have HR2 := hidMk h2
  have HR3 := hidMk h3
  have HNN := hidMk hn
  have HSN := hidMk hsn
  have HC := hidMk hc
  clear hs h2 h3 hn hc hsn
  go_wp2_with (refine wpList_load_row rfl 30 _ rfl g1 rfl _ (jobC J (.slice sa sn sc)) _ _ HS.out.job Try.underlying30 rfl szJob ?_)
  refine (player_any J sa sn sc _ (check_ok HC.out).inn HSN.out HS.out.rg).mono ?_
  rintro e wp ⟨Bw, Bf, Bj, Bb, bm, rfl, hE, hM, hb, hbm⟩
  have HE := hidMk hE
  have HM := hidMk hM
  have HB := hidMk hb
  have HBM := hidMk hbm
  clear hE hM hb hbm
  have hst : (store ⟨wp.heap.size, 0, none⟩ (.func (.func 81) #[] #[.pointer (some ⟨Bw, 0, none⟩), .pointer (some ⟨Bf, 0, none⟩), .pointer (some ⟨Bj, 0, none⟩), .pointer (some ⟨Bb, 0, none⟩)])).run Try.prog (wp.alloc (.cells #[.nilFunc] 85)) = stored Try.prog (wp.alloc (.cells #[.nilFunc] 85)) ⟨wp.heap.size, 0, none⟩ (.func (.func 81) #[] #[.pointer (some ⟨Bw, 0, none⟩), .pointer (some ⟨Bf, 0, none⟩), .pointer (some ⟨Bj, 0, none⟩), .pointer (some ⟨Bb, 0, none⟩)]) .plain := run_store _ _ _ _ _ rfl
  go_wp2_with fail
  have q1 : Below wp.heap.size wp (wp.alloc (.cells #[(.func (.func 81) #[] #[.pointer (some ⟨Bw, 0, none⟩), .pointer (some ⟨Bf, 0, none⟩), .pointer (some ⟨Bj, 0, none⟩), .pointer (some ⟨Bb, 0, none⟩)])] 85)) := (Below.refl _ _).alloc (Nat.le_refl _) _
  have ns := (HS.out.next HB.out).next q1
  have l1 := HE.out.win.lt
  have l2 := HE.out.found.lt
  have l3 := HE.out.job.lt
  have l4 := HE.out.best.lt
  have l5 := HM.out.lt
  have hz := HB.out.size
  have hz0 := HS.out.b0.size
  have hbm := HBM.out
  have hnn := HNN.out
  have lr3 := HR3.out.lt
  have lr2 := HR2.out.lt
  exact gdpart3 (g5 := wp.heap.size) ⟨ns, HE.out.below q1, (HR2.out.below HB.out HR2.out.lt).below q1 (by omega), (HR3.out.below HB.out HR3.out.lt).below q1 (by omega), Bk.new _ _ _⟩ (HM.out.kept (grown_of_below q1 none) (by simp)) (by omega) HC.out
set_option maxHeartbeats 4000000 in
set_option maxRecDepth 1000000 in
theorem gdpart1 {J : Jb} {sa : Option Addr} {sn sc : Nat} {w0 : World} {g1 g2 g3 : Nat} {w : World} {u0 u4 u5 u6 u7 u8 u9 u10 u11 u12 u13 u14 u15 u16 u17 u18 u19 u20 u21 u22 u23 u24 u25 u26 u27 u28 u29 u30 u31 u32 u33 u34 u35 u36 : Value} (hs : NS J sa sn sc w0 g1 w) (h2 : Bk w g2 3 #[.int .i64 0]) (h3 : Bk w g3 39 #[.int .i64 0]) (hn : w0.heap.size ≤ g1 ∧ g1 < g2 ∧ g2 < g3) (hsn : sn = J.sh.length) (hm : sn ≤ 9223372036854775807) : Code.wp Try.prog gdrest1 (QGD J w0) ⟨#[u0, (.pointer (some ⟨g1, 0, none⟩)), (.pointer (some ⟨g2, 0, none⟩)), (.pointer (some ⟨g3, 0, none⟩)), u4, u5, u6, u7, u8, u9, u10, u11, u12, u13, u14, u15, u16, u17, u18, u19, u20, u21, u22, u23, u24, u25, u26, u27, u28, u29, u30, u31, u32, u33, u34, u35, u36], []⟩ w := by
  rw [gdrest1_eq]
  have HS := hidMk hs
  have HR2 := hidMk h2
  have HR3 := hidMk h3
  have HNN := hidMk hn
  have HSN := hidMk hsn
  clear hs h2 h3 hn hsn
  go_wp2_with (refine wpList_load_row rfl 30 _ rfl g1 rfl _ (jobC J (.slice sa sn sc)) _ _ HS.out.job Try.underlying30 rfl szJob ?_)
  refine (check_any J sa sn sc _ HSN.out hm HS.out.rg).mono ?_
  rintro e w1 ⟨rfl, hb1⟩
  have HS1 := hidMk (HS.out.next hb1)
  have k2 := HR2.out.below hb1 HR2.out.lt
  have k3 := HR3.out.below hb1 HR3.out.lt
  have HK2 := hidMk k2
  have HK3 := hidMk k3
  by_cases hc : J.check = 0
  · have hb0 : (J.check != 0) = false := by simp [hc]
    have HC := hidMk hc
    clear hc k2 k3 hb1
    go_wp2_with fail
    exact gdpart2 HS1.out HK2.out HK3.out HNN.out HSN.out HC.out
  · have hb0 : (J.check != 0) = true := by simpa using hc
    have e1 : guidedI J = (0, J.check) := by unfold guidedI; rw [if_neg hc]
    have HE := hidMk e1
    have f2 := k2.free 0
    have f3 := k3.free 0
    have hnn := HNN.out
    have hz0 := HS1.out.b0.size
    have e23 : g2 ≠ g3 := by omega
    have e32 : g3 ≠ g2 := by omega
    have c2 := k2.at_ 0 _ rfl
    have c3 := k3.at_ 0 _ rfl
    clear hc e1 k2 k3 hb1
    go_wp2_with fail
    unfold QGD
    have q : Below w0.heap.size w1 ((w1.setCell ⟨g2, 0, none⟩ (.int .i64 0)).setCell ⟨g3, 0, none⟩ (.int .i64 J.check)) := ((Below.refl _ _).setCell (by show w0.heap.size ≤ g2; omega) _).setCell (by show w0.heap.size ≤ g3; omega) _
    refine ⟨_, results_int2 Try.results15 _ _ _ _ _ _ _ _ rfl rfl ((HK2.out.put1 _).other (by show g2 ≠ g3; omega) _) ((HK3.out.other (p := ⟨g2, 0, none⟩) (by show g3 ≠ g2; omega) _).put1 _) Try.underlying3 Try.underlying39, by rw [HE.out], HS1.out.b0.trans q⟩
set_option maxHeartbeats 4000000 in
set_option maxRecDepth 1000000 in
/-- **Guided**, on any job. -/
theorem guided_any (J : Jb) (sa : Option Addr) (sn sc : Nat) (w : World) (hn : sn = J.sh.length) (hm : sn ≤ 9223372036854775807) (h : Rg w w.heap.size sa J.sh) :
    Calls Try.prog 15 #[.agg (jobC J (.slice sa sn sc))] w fun e w' => e = .returned (.tuple #[.int .i64 (guidedI J).1, .int .i64 (guidedI J).2]) ∧ Below w.heap.size w w' := by
  have q0 : Below w.heap.size w (((w.alloc (.cells (jobC J (.slice sa sn sc)) 30)).alloc (.cells #[.int .i64 0] 3)).alloc (.cells #[.int .i64 0] 39)) := (((Below.refl _ _).alloc (Nat.le_refl _) _).alloc (by simp) _).alloc (by simp; omega) _
  have hs : NS J sa sn sc w w.heap.size (((w.alloc (.cells (jobC J (.slice sa sn sc)) 30)).alloc (.cells #[.int .i64 0] 3)).alloc (.cells #[.int .i64 0] 39)) := ⟨q0, ((Bk.new _ _ _).alloc _).alloc _, h.below q0⟩
  have HS := hidMk hs
  have HN := hidMk hn
  clear q0 hs h hn
  refine (callsIn_wide (n := 3)).1 (callsIn_of_wp_marks Try.func15 rfl trivial ?_ rfl)
  simp only [Try.ntmps15, List.size_toArray, List.length_cons, List.length_nil, Nat.reduceAdd, Nat.reduceSub, Array.replicate_succ, Array.replicate_zero, List.push_toArray, List.append_toArray, List.nil_append, List.cons_append]
  refine wpIn_wide.2 ?_
  show Code.wp Try.prog gdbody (QGD J w) _ _
  rw [gdbody_eq]
  go_wp2_with fail
  exact gdpart1 HS.out ((Bk.newAt _ _ _ _ (by simp)).alloc _) (Bk.newAt _ _ _ _ (by simp)) (by omega) HN.out hm
end Go.Proofs.Ytbebofmpimfbgaa
/- What Shortest hands back. -/
namespace Go.Proofs.Ytbebofmpimfbgaa
set_option linter.all false
open Go.RowKit
def plansL : Nat → List (List Int)
  | 0 => [[]]
  | n + 1 => (plansL n).map (1 :: ·) ++ (plansL n).map (2 :: ·)
theorem plansL_each : ∀ n, ∀ l ∈ plansL n, l.length = n
  | 0, l, h => by rw [List.mem_singleton.1 h]; rfl
  | n + 1, l, h => by
    rcases List.mem_append.1 h with h | h <;>
      (obtain ⟨l', h', rfl⟩ := List.mem_map.1 h; simp [plansL_each n l' h'])
theorem plans_12 : ∀ n, ∀ l ∈ plansL n, ∀ x ∈ l, x = 1 ∨ x = 2
  | 0, l, h, x, hx => by
    rw [List.mem_singleton.1 h] at hx
    cases hx
  | n + 1, l, h, x, hx => by
    rcases List.mem_append.1 h with h | h <;> obtain ⟨l', h', rfl⟩ := List.mem_map.1 h <;> rcases List.mem_cons.1 hx with rfl | hx
    · exact .inl rfl
    · exact plans_12 n l' h' x hx
    · exact .inr rfl
    · exact plans_12 n l' h' x hx
theorem plans_mem : ∀ (l : List Int), (∀ x ∈ l, x = 1 ∨ x = 2) → l ∈ plansL l.length
  | [], _ => List.mem_singleton.2 rfl
  | x :: l, h => by
    have hl := plans_mem l fun y hy => h y (List.mem_cons_of_mem _ hy)
    rcases h x List.mem_cons_self with rfl | rfl
    · exact List.mem_append_left _ (List.mem_map.2 ⟨l, hl, rfl⟩)
    · exact List.mem_append_right _ (List.mem_map.2 ⟨l, hl, rfl⟩)
/-- Whether a tongue is fine after strokes. -/
def fineS (J : Jb) (l : List Int) : Int := fineI J (afterS J J.tg l)
/-- The first list of strokes after which the tongue always is fine: fewer strokes first, then in lexicographic order. -/
def FirstS (J : Jb) (n i : Nat) (l : List Int) : Prop := n ≤ 6 ∧ (plansL n)[i]? = some l ∧ fineS J l = 1 ∧ (∀ n', n' < n → ∀ l' ∈ plansL n', fineS J l' ≠ 1) ∧ ∀ i', i' < i → ∀ l', (plansL n)[i']? = some l' → fineS J l' ≠ 1
def NoneS (J : Jb) : Prop := ∀ n, n ≤ 6 → ∀ l ∈ plansL n, fineS J l ≠ 1
def ShortQ (J : Jb) (w : World) (e : Ending) (w' : World) : Prop :=
  ((∃ n i l a c, FirstS J n i l ∧ e = .returned (.tuple #[.slice a n c, .int .i64 0]) ∧ Is w' w'.heap.size a l) ∨ (NoneS J ∧ e = .returned (.tuple #[.slice none 0 0, .int .i64 11]))) ∧ Below w.heap.size w w'
def ShortOK : Prop := ∀ (J : Jb) (a : Option Addr) (n c : Nat) (w : World), J.check = 0 → n = J.sh.length → n ≤ 9223372036854775807 → Rg w w.heap.size a J.sh → Calls Try.prog 44 #[.agg (jobC J (.slice a n c))] w (ShortQ J w)
def TunOK : Prop := ∀ w : World, Calls Try.prog 11 #[] w fun e w' => e = .returned (.bool true) ∧ Below w.heap.size w w'
/-- What is said of the strokes of Shortest, by their number alone: so many are the fewest, or none are enough. -/
def FewS (J : Jb) (sn : Nat) (ev : Int) : Prop := (ev = 0 ∧ sn ≤ 6 ∧ (∃ l, (∀ x ∈ l, x = 1 ∨ x = 2) ∧ l.length = sn ∧ fineS J l = 1) ∧ ∀ l : List Int, (∀ x ∈ l, x = 1 ∨ x = 2) → fineS J l = 1 → sn ≤ l.length) ∨
  (ev = 11 ∧ sn = 0 ∧ ∀ l : List Int, (∀ x ∈ l, x = 1 ∨ x = 2) → l.length ≤ 6 → fineS J l ≠ 1)
theorem few_of {J : Jb} {w w' : World} {e : Ending} (h : ShortQ J w e w') : (∃ sa sn sc ev, e = .returned (.tuple #[.slice sa sn sc, .int .i64 ev]) ∧ FewS J sn ev) ∧ Below w.heap.size w w' := by
  obtain ⟨h, hb⟩ := h
  refine ⟨?_, hb⟩
  rcases h with ⟨n, i, l, a, c, ⟨h6, hm, hf, hno, -⟩, rfl, -⟩ | ⟨hno, rfl⟩
  · have hml := List.mem_of_getElem? hm
    refine ⟨a, n, c, 0, rfl, .inl ⟨rfl, h6, ⟨l, plans_12 n l hml, plansL_each n l hml, hf⟩, fun l' h12 hf' => ?_⟩⟩
    by_cases hlt : l'.length < n
    · exact absurd hf' (hno _ hlt l' (plans_mem l' h12))
    · omega
  · exact ⟨none, 0, 0, 11, rfl, .inr ⟨rfl, rfl, fun l h12 h6 => hno _ h6 l (plans_mem l h12)⟩⟩
end Go.Proofs.Ytbebofmpimfbgaa
/- The game and strokes that are fixed beforehand: mathematics, without Go. -/
namespace Go.Proofs.Ytbebofmpimfbgaa
set_option linter.all false
/-! ### choosing -/
theorem choose_w {J : Jb} {f : Tg → Int} {t : Tg} {m : Int × Int} {s : Int} (h : spoilI J.le (strk J t s) = 2) : (choose J f t m s).2 ≤ worstOf f (strk J t s) (readsL (strk J t s).p1 (strk J t s).p2 J.me) := by
  unfold choose
  rw [if_neg (by rw [h]; simp)]
  split
  · assumption
  · exact Int.le_refl _
theorem choose_top {J : Jb} {f : Tg → Int} {t : Tg} {m : Int × Int} {s : Int} : (choose J f t m s).2 ≤ m.2 := by
  unfold choose
  split
  · exact Int.le_refl _
  · split
    · exact Int.le_refl _
    · rename_i h; show worstOf _ _ _ ≤ _; omega
theorem choose_one (J : Jb) (f : Tg → Int) (t : Tg) (m : Int × Int) (s : Int) : (choose J f t m s) = m ∨ (spoilI J.le (strk J t s) = 2 ∧ choose J f t m s = (s, worstOf f (strk J t s) (readsL (strk J t s).p1 (strk J t s).p2 J.me)) ∧ worstOf f (strk J t s) (readsL (strk J t s).p1 (strk J t s).p2 J.me) < m.2) := by
  unfold choose
  by_cases h : spoilI J.le (strk J t s) = 2
  · rw [if_neg (by rw [h]; simp)]
    split
    · exact .inl rfl
    · exact .inr ⟨h, rfl, by omega⟩
  · rw [if_pos h]; exact .inl rfl
theorem worst_le {f : Tg → Int} {t : Tg} {l : List R2} {b : Int} (h0 : 0 ≤ b) (h : ∀ r ∈ l, 1 + f { t with p1 := r.1, p2 := r.2 } ≤ b) : worstOf f t l ≤ b := by
  unfold worstOf
  have aux : ∀ (l : List R2) (a : Int), a ≤ b → (∀ r ∈ l, 1 + f { t with p1 := r.1, p2 := r.2 } ≤ b) → l.foldl (fun m r => mx m (1 + f { t with p1 := r.1, p2 := r.2 })) a ≤ b := by
    intro l
    induction l with
    | nil => intro a ha _; exact ha
    | cons r l ih =>
      intro a ha hh
      rw [List.foldl_cons]
      refine ih _ ?_ fun r' hr' => hh r' (List.mem_cons_of_mem _ hr')
      have := hh r List.mem_cons_self
      unfold mx; split <;> omega
  exact aux l 0 h0 h
theorem worst_ge {f : Tg → Int} {t : Tg} {l : List R2} {r : R2} (h : r ∈ l) : 1 + f { t with p1 := r.1, p2 := r.2 } ≤ worstOf f t l := by
  unfold worstOf
  have aux : ∀ (l : List R2) (a : Int), r ∈ l → 1 + f { t with p1 := r.1, p2 := r.2 } ≤ l.foldl (fun m r => mx m (1 + f { t with p1 := r.1, p2 := r.2 })) a := by
    intro l
    induction l with
    | nil => intro a h; cases h
    | cons x l ih =>
      intro a hh
      rw [List.foldl_cons]
      rcases List.mem_cons.1 hh with rfl | hh
      · refine Int.le_trans ?_ (fold_le _ l _)
        unfold mx; split <;> omega
      · exact ih _ hh
  exact aux l 0 h
theorem guide_le {J : Jb} {b : Int} (h0 : 0 ≤ b) (h : ∀ r ∈ readsL J.p1 J.p2 J.me, (bestM J 4 { J.tg with p1 := r.1, p2 := r.2 }).2 ≤ b) : guideI J ≤ b := by
  unfold guideI
  have aux : ∀ (l : List R2) (a : Int), a ≤ b → (∀ r ∈ l, (bestM J 4 { J.tg with p1 := r.1, p2 := r.2 }).2 ≤ b) → l.foldl (fun m r => mx m (bestM J 4 { J.tg with p1 := r.1, p2 := r.2 }).2) a ≤ b := by
    intro l
    induction l with
    | nil => intro a ha _; exact ha
    | cons r l ih =>
      intro a ha hh
      rw [List.foldl_cons]
      refine ih _ ?_ fun r' hr' => hh r' (List.mem_cons_of_mem _ hr')
      have := hh r List.mem_cons_self
      unfold mx; split <;> omega
  exact aux _ 0 h0 h
theorem guide_ge {J : Jb} {r : R2} (h : r ∈ readsL J.p1 J.p2 J.me) : (bestM J 4 { J.tg with p1 := r.1, p2 := r.2 }).2 ≤ guideI J := by
  unfold guideI
  have aux : ∀ (l : List R2) (a : Int), r ∈ l → (bestM J 4 { J.tg with p1 := r.1, p2 := r.2 }).2 ≤ l.foldl (fun m r => mx m (bestM J 4 { J.tg with p1 := r.1, p2 := r.2 }).2) a := by
    intro l
    induction l with
    | nil => intro a h; cases h
    | cons x l ih =>
      intro a hh
      rw [List.foldl_cons]
      rcases List.mem_cons.1 hh with rfl | hh
      · refine Int.le_trans ?_ (fold_le _ l _)
        unfold mx; split <;> omega
      · exact ih _ hh
  exact aux _ 0 h
theorem guide_top (J : Jb) : guideI J ≤ 5 := fold_top _ _ (fun r => (best_bound J 4 _).2) _ _ (by decide)
/-- In the window: nothing is needed. -/
theorem best_in {J : Jb} {k : Nat} {t : Tg} (h : (win J.wi J.sh).1 ≤ t.p1 ∧ t.p2 ≤ (win J.wi J.sh).2) : bestM J k t = (0, 0) := by
  cases k <;> (unfold bestM; rw [if_pos h])
theorem best_out {J : Jb} {k : Nat} {t : Tg} (h : ¬ ((win J.wi J.sh).1 ≤ t.p1 ∧ t.p2 ≤ (win J.wi J.sh).2)) : bestM J (k + 1) t = choose J (fun t => (bestM J k t).2) t (choose J (fun t => (bestM J k t).2) t (0, 5) 1) 2 := by
  conv => lhs; unfold bestM
  rw [if_neg h]
theorem pass_1 {wi : Int} {sh : List R2} {a b : Int} : passI wi sh a b = 1 ↔ (win wi sh).1 ≤ a ∧ b ≤ (win wi sh).2 := by
  unfold passI
  split
  · simp_all
  · split <;> simp_all
theorem spoil_2 {le : Int} {t : Tg} : spoilI le t = 2 ↔ (le ≤ t.t1 ∧ le ≤ t.r1 ∧ le ≤ t.t2 ∧ le ≤ t.r2) := by
  unfold spoilI
  split
  · constructor
    · intro h; cases h
    · intro h; omega
  · split
    · constructor
      · intro _; omega
      · intro _; rfl
    · constructor
      · intro h; cases h
      · intro h; omega
theorem fine_1 {J : Jb} {t : Tg} : fineI J t = 1 ↔ ((win J.wi J.sh).1 ≤ t.p1 ∧ t.p2 ≤ (win J.wi J.sh).2) ∧ spoilI J.le t = 2 := by
  unfold fineI
  rw [← pass_1]
  split
  · simp_all
  · split <;> simp_all
/-- What is worn stays worn. -/
theorem after_thin {J : Jb} (hx : 0 ≤ J.x1 ∧ 0 ≤ J.x2 ∧ 0 ≤ J.y1 ∧ 0 ≤ J.y2) : ∀ (l : List Int) (t : Tg), spoilI J.le (afterS J t l) = 2 → spoilI J.le t = 2
  | [], t, h => h
  | s :: l, t, h => by
    have := after_thin hx l (strk J t s) h
    rw [spoil_2] at this ⊢
    unfold strk at this
    split at this
    · simp only at this; omega
    · split at this
      · simp only at this; omega
      · exact this
/-- A pitch that is known better. -/
def Tin (t t' : Tg) : Prop := t.p1 ≤ t'.p1 ∧ t'.p2 ≤ t.p2 ∧ t'.t1 = t.t1 ∧ t'.t2 = t.t2 ∧ t'.r1 = t.r1 ∧ t'.r2 = t.r2
theorem tin_strk {J : Jb} {t t' : Tg} (h : Tin t t') (s : Int) : Tin (strk J t s) (strk J t' s) := by
  unfold Tin at h ⊢
  unfold strk
  split
  · simp only; omega
  · split
    · simp only; omega
    · exact h
theorem tin_spoil {t t' : Tg} (h : Tin t t') (le : Int) : spoilI le t' = spoilI le t := by
  obtain ⟨h1, h2, h3, h4, h5, h6⟩ := h
  unfold spoilI
  rw [h3, h4, h5, h6]
theorem reads_sub {a b m : Int} {r : R2} (h : r ∈ readsL a b m) : a ≤ r.1 ∧ r.2 ≤ b := by
  obtain ⟨k, hk, rfl⟩ := List.mem_map.1 h
  simp only [heardR, meet2]
  constructor <;> split <;> omega
/-- A list of strokes is a way to play. -/
theorem plan_best {J : Jb} (hx : 0 ≤ J.x1 ∧ 0 ≤ J.x2 ∧ 0 ≤ J.y1 ∧ 0 ≤ J.y2) : ∀ (l : List Int), (∀ x ∈ l, x = 1 ∨ x = 2) → ∀ (k : Nat) (t t' : Tg), l.length ≤ k → Tin t t' → fineI J (afterS J t l) = 1 → (bestM J k t').2 ≤ l.length
  | [], _, k, t, t', _, ht, hf => by
    have hw := (fine_1.1 hf).1
    rw [best_in (by obtain ⟨h1, h2, _⟩ := ht; simp only [afterS, List.foldl_nil] at hw; omega)]
    simp
  | s :: l, h12, 0, t, t', hk, _, _ => by simp at hk
  | s :: l, h12, k + 1, t, t', hk, ht, hf => by
    by_cases hw : (win J.wi J.sh).1 ≤ t'.p1 ∧ t'.p2 ≤ (win J.wi J.sh).2
    · rw [best_in hw]; simp only; omega
    · have hl : l.length ≤ k := by simp only [List.length_cons] at hk; omega
      have hsp : spoilI J.le (strk J t' s) = 2 := by
        rw [tin_spoil (tin_strk ht s)]
        exact after_thin hx l _ (fine_1.1 hf).2
      have hwo : worstOf (fun t => (bestM J k t).2) (strk J t' s) (readsL (strk J t' s).p1 (strk J t' s).p2 J.me) ≤ 1 + (l.length : Int) := by
        refine worst_le (by omega) fun r hr => ?_
        have hrs := reads_sub hr
        have := plan_best hx l (fun x hx => h12 x (List.mem_cons_of_mem _ hx)) k (strk J t s) { strk J t' s with p1 := r.1, p2 := r.2 } hl (by
          have := tin_strk (J := J) ht s
          unfold Tin at this ⊢
          simp only
          omega) hf
        exact Int.add_le_add_left this 1
      rw [best_out hw]
      rw [List.length_cons]
      rcases h12 s List.mem_cons_self with rfl | rfl
      · have h1 := choose_w (J := J) (f := fun t => (bestM J k t).2) (t := t') (m := (0, 5)) hsp
        have h2 := choose_top (J := J) (f := fun t => (bestM J k t).2) (t := t') (m := choose J (fun t => (bestM J k t).2) t' (0, 5) 1) (s := 2)
        omega
      · have h2 := choose_w (J := J) (f := fun t => (bestM J k t).2) (t := t') (m := choose J (fun t => (bestM J k t).2) t' (0, 5) 1) hsp
        omega
theorem plan_guide {J : Jb} (hx : 0 ≤ J.x1 ∧ 0 ≤ J.x2 ∧ 0 ≤ J.y1 ∧ 0 ≤ J.y2) {l : List Int} (h12 : ∀ x ∈ l, x = 1 ∨ x = 2) (h4 : l.length ≤ 4) (hf : fineS J l = 1) : guideI J ≤ l.length := by
  refine guide_le (by omega) fun r hr => ?_
  have hrs := reads_sub hr
  exact plan_best hx l h12 4 J.tg _ h4 ⟨hrs.1, hrs.2, rfl, rfl, rfl, rfl⟩ hf
/-- All is known but the thickness. -/
structure Ex (J : Jb) : Prop where
  u : J.u1 = J.u2
  d : J.d1 = J.d2
  x : J.x1 = J.x2
  y : J.y1 = J.y2
  me : 0 ≤ J.me
structure ExT (J : Jb) (t : Tg) : Prop where
  p : t.p1 = t.p2
  t1 : J.le ≤ t.t1
  t2 : t.t1 ≤ t.t2
  r1 : J.le ≤ t.r1
  r2 : t.r1 ≤ t.r2
theorem ex_reads {p m : Int} (hm : 0 ≤ m) : ∀ r ∈ readsL p p m, r = (p, p) := by
  intro r h
  obtain ⟨k, hk, rfl⟩ := List.mem_map.1 h
  have := List.mem_range.1 hk
  simp only [heardR, meet2]
  congr 1 <;> split <;> omega
theorem ex_mem {p m : Int} (hm : 0 ≤ m) : (p, p) ∈ readsL p p m := by
  refine List.mem_map.2 ⟨m.toNat, List.mem_range.2 (by omega), ?_⟩
  simp only [heardR, meet2]
  congr 1 <;> split <;> omega
theorem ex_strk {J : Jb} (h : Ex J) {t : Tg} (ht : ExT J t) {s : Int} (hs : spoilI J.le (strk J t s) = 2) : ExT J (strk J t s) := by
  obtain ⟨hu, hd, hx, hy, -⟩ := h
  obtain ⟨p, a, b, c, d⟩ := ht
  rw [spoil_2] at hs
  unfold strk at hs ⊢
  split
  · rename_i e; rw [if_pos e] at hs; simp only at hs; exact ⟨by simp only; omega, by simp only; omega, by simp only; omega, by simp only; omega, by simp only; omega⟩
  · rename_i e; rw [if_neg e] at hs
    split
    · rename_i e2; rw [if_pos e2] at hs; simp only at hs; exact ⟨by simp only; omega, by simp only; omega, by simp only; omega, by simp only; omega, by simp only; omega⟩
    · exact ⟨p, a, b, c, d⟩
theorem ex_worst {J : Jb} (h : Ex J) {t : Tg} (ht : ExT J t) (f : Tg → Int) (hf : ∀ t, 0 ≤ f t) : worstOf f t (readsL t.p1 t.p2 J.me) = 1 + f t := by
  have hp := ht.p
  have e : ({ t with p1 := t.p1, p2 := t.p1 } : Tg) = t := by cases t; simp only at hp; subst hp; rfl
  rw [← hp]
  refine Int.le_antisymm (worst_le (by have := hf t; omega) fun r hr => ?_) ?_
  · rw [ex_reads h.me r hr]
    simp only
    rw [e]
    exact Int.le_refl _
  · have := worst_ge (f := f) (t := t) (ex_mem (p := t.p1) h.me)
    simp only at this
    rw [e] at this
    exact this
theorem best_plan {J : Jb} (h : Ex J) : ∀ (k : Nat) (t : Tg), ExT J t → (bestM J k t).2 < 5 → ∃ l : List Int, (∀ x ∈ l, x = 1 ∨ x = 2) ∧ ((l.length : Nat) : Int) = (bestM J k t).2 ∧ fineI J (afterS J t l) = 1
  | k, t, ht, h5 => by
    by_cases hw : (win J.wi J.sh).1 ≤ t.p1 ∧ t.p2 ≤ (win J.wi J.sh).2
    · refine ⟨[], by simp, by rw [best_in hw]; rfl, fine_1.2 ⟨hw, spoil_2.2 ?_⟩⟩
      obtain ⟨p, a, b, c, d⟩ := ht
      simp only [afterS, List.foldl_nil]
      omega
    · cases k with
      | zero =>
        unfold bestM at h5
        rw [if_neg hw] at h5
        simp at h5
      | succ k =>
        rw [best_out hw] at h5 ⊢
        have key : ∀ s : Int, (s = 1 ∨ s = 2) → spoilI J.le (strk J t s) = 2 → worstOf (fun t => (bestM J k t).2) (strk J t s) (readsL (strk J t s).p1 (strk J t s).p2 J.me) < 5 → ∃ l : List Int, (∀ x ∈ l, x = 1 ∨ x = 2) ∧ ((l.length : Nat) : Int) = worstOf (fun t => (bestM J k t).2) (strk J t s) (readsL (strk J t s).p1 (strk J t s).p2 J.me) ∧ fineI J (afterS J t l) = 1 := by
          intro s h12 hs hlt
          have he := ex_strk h ht hs
          rw [ex_worst h he _ (fun t => (best_bound J k t).1)] at hlt ⊢
          obtain ⟨l, a, b, c⟩ := best_plan h k (strk J t s) he (by omega)
          refine ⟨s :: l, fun x hx => ?_, by simp only [List.length_cons]; omega, c⟩
          rcases List.mem_cons.1 hx with rfl | hx
          · exact h12
          · exact a x hx
        rcases choose_one J (fun t => (bestM J k t).2) t (choose J (fun t => (bestM J k t).2) t (0, 5) 1) 2 with e | ⟨hs, e, hlt⟩
        · rw [e] at h5 ⊢
          rcases choose_one J (fun t => (bestM J k t).2) t (0, 5) 1 with e1 | ⟨hs, e1, hlt⟩
          · rw [e1] at h5; simp at h5
          · rw [e1] at h5 ⊢
            exact key 1 (.inl rfl) hs hlt
        · rw [e] at h5 ⊢
          exact key 2 (.inr rfl) hs h5
theorem exact_guide {J : Jb} (h : Ex J) (ht : ExT J J.tg) (h5 : guideI J < 5) : ∃ l : List Int, (∀ x ∈ l, x = 1 ∨ x = 2) ∧ ((l.length : Nat) : Int) = guideI J ∧ fineS J l = 1 := by
  have hp := ht.p
  have hp' : J.p1 = J.p2 := hp
  have e : ({ J.tg with p1 := J.p1, p2 := J.p1 } : Tg) = J.tg := by unfold Jb.tg; simp only; rw [← hp']
  have hg : guideI J = (bestM J 4 J.tg).2 := by
    refine Int.le_antisymm (guide_le (best_bound J 4 _).1 fun r hr => ?_) ?_
    · rw [← hp'] at hr
      rw [ex_reads h.me r hr]
      simp only
      rw [e]
      exact Int.le_refl _
    · have := guide_ge (J := J) (r := (J.p1, J.p1)) (by conv => arg 1; rw [← hp']
                                                        exact ex_mem h.me)
      simp only at this
      rw [e] at this
      exact this
  rw [hg] at h5 ⊢
  exact best_plan h 4 J.tg ht h5
end Go.Proofs.Ytbebofmpimfbgaa
/- What a valid job is, in numbers, both ways. -/
namespace Go.Proofs.Ytbebofmpimfbgaa
set_option linter.all false
structure Jb.Full (J : Jb) : Prop where
  p : -60 ≤ J.p1 ∧ J.p1 ≤ J.p2 ∧ J.p2 ≤ 60
  t : 0 ≤ J.t1 ∧ J.t1 ≤ J.t2 ∧ J.t2 ≤ 100
  r : 0 ≤ J.r1 ∧ J.r1 ≤ J.r2 ∧ J.r2 ≤ 100
  u : 0 ≤ J.u1 ∧ J.u1 ≤ J.u2 ∧ J.u2 ≤ 12
  d : 0 ≤ J.d1 ∧ J.d1 ≤ J.d2 ∧ J.d2 ≤ 12
  x : 0 ≤ J.x1 ∧ J.x1 ≤ J.x2 ∧ J.x2 ≤ 12
  y : 0 ≤ J.y1 ∧ J.y1 ≤ J.y2 ∧ J.y2 ≤ 12
  le : 0 ≤ J.le ∧ J.le ≤ 100
  wi : 0 ≤ J.wi ∧ J.wi ≤ 60
  me : 0 ≤ J.me ∧ J.me ≤ 6
  len : J.sh.length ≤ 4
  sh : ∀ s ∈ J.sh, -60 ≤ s.1 ∧ s.1 ≤ s.2 ∧ s.2 ≤ 60
theorem rngE_mk {a b lo hi : Int} (h : lo ≤ a ∧ a ≤ b ∧ b ≤ hi) : rngE a b lo hi = 0 := by
  unfold rngE
  rw [if_neg (by omega), if_neg (by omega), if_neg (by omega)]
theorem numE_mk {a lo hi : Int} (h : lo ≤ a ∧ a ≤ hi) : numE a lo hi = 0 := by
  unfold numE
  rw [if_neg (by omega)]
theorem shE_mk : ∀ (l : List R2), (∀ s ∈ l, -60 ≤ s.1 ∧ s.1 ≤ s.2 ∧ s.2 ≤ 60) → shE l = 0
  | [], _ => rfl
  | e :: l, h => by
    unfold shE
    rw [if_pos (rngE_mk (h e List.mem_cons_self))]
    exact shE_mk l fun x hx => h x (List.mem_cons_of_mem _ hx)
theorem check_full {J : Jb} (h : J.check = 0) : J.Full := by
  unfold Jb.check at h
  by_cases h0 : J.head = 0
  · rw [if_pos h0] at h
    by_cases h1 : 4 < J.sh.length
    · rw [if_pos h1] at h; omega
    · rw [if_neg h1] at h
      by_cases h2 : shE J.sh = 0
      · rw [if_pos h2] at h
        have a := firstE_ok _ h0
        have b := firstE_ok _ h
        have s := shE_ok _ h2
        have a1 := rngE_ok (a _ (by simp : rngE J.p1 J.p2 (-60) 60 ∈ _))
        have a2 := rngE_ok (a _ (by simp : rngE J.t1 J.t2 0 100 ∈ _))
        have a3 := rngE_ok (a _ (by simp : rngE J.r1 J.r2 0 100 ∈ _))
        have a4 := rngE_ok (a _ (by simp : rngE J.u1 J.u2 0 12 ∈ _))
        have a5 := rngE_ok (a _ (by simp : rngE J.d1 J.d2 0 12 ∈ _))
        have a6 := rngE_ok (a _ (by simp : rngE J.x1 J.x2 0 12 ∈ _))
        have a7 := rngE_ok (a _ (by simp : rngE J.y1 J.y2 0 12 ∈ _))
        have a8 := numE_ok (a _ (by simp : numE J.le 0 100 ∈ _))
        have b1 := numE_ok (b _ (by simp : numE J.wi 0 60 ∈ _))
        have b2 := numE_ok (b _ (by simp : numE J.me 0 6 ∈ _))
        refine ⟨by omega, by omega, by omega, by omega, by omega, by omega, by omega, a8, b1, b2, by omega, fun q hq => ?_⟩
        have := rngE_ok (s q hq)
        omega
      · rw [if_neg h2] at h; exact absurd h h2
  · rw [if_neg h0] at h; exact absurd h h0
theorem Jb.Full.check {J : Jb} (h : J.Full) : J.check = 0 := by
  unfold Jb.check
  have h0 : J.head = 0 := by
    unfold Jb.head
    rw [rngE_mk h.p, rngE_mk h.t, rngE_mk h.r, rngE_mk h.u, rngE_mk h.d, rngE_mk h.x, rngE_mk h.y, numE_mk h.le]
    rfl
  rw [if_pos h0, if_neg (by have := h.len; omega), if_pos (shE_mk _ h.sh), numE_mk h.wi, numE_mk h.me]
  rfl
end Go.Proofs.Ytbebofmpimfbgaa
/- Contracts of the kit's copies and comparisons of jobs. -/
namespace Go.Proofs.Ytbebofmpimfbgaa
set_option linter.all false
open Go.RowKit

theorem rg_one (l : List R2) : ∀ u ∈ rgCells l, u.oneCell' = true := by
  induction l with
  | nil => intro u h; cases h
  | cons x l ih =>
    intro u h
    rcases List.mem_cons.1 h with rfl | h
    · rfl
    · rcases List.mem_cons.1 h with rfl | h
      · rfl
      · exact ih u h
theorem rg_news {W : World} {B : Nat} {ad : Addr} {l : List R2} (h : Rg W B (some ad) l) : ∀ j u, (rgCells l)[j]? = some u → W.cell? (ad.add j) = some u := by
  intro j u hj
  have hjl := (List.getElem?_eq_some_iff.1 hj).1
  rw [rgCells_len] at hjl
  have hk : j / 2 < l.length := by omega
  obtain ⟨b, off, e, _, e0, e1⟩ := h (j / 2) l[j / 2] (List.getElem?_eq_getElem hk)
  cases e
  obtain ⟨h0, h1⟩ := rgCells_at l (j / 2) l[j / 2] (List.getElem?_eq_getElem hk)
  have ha : ∀ k, (⟨b, off, none⟩ : Addr).add k = ⟨b, off + k, none⟩ := by
    intro k
    unfold Addr.add
    split
    · rename_i hk0; subst hk0; rfl
    · rfl
  rw [ha]
  rcases Nat.mod_two_eq_zero_or_one j with hm | hm
  · have : j = j / 2 * 2 := by omega
    rw [this] at hj ⊢
    rw [h0] at hj
    cases hj
    exact e0
  · have hj' : j = j / 2 * 2 + 1 := by omega
    have h2 : W.cell? ⟨b, off + j, none⟩ = W.cell? ⟨b, off + j / 2 * 2 + 1, none⟩ := by
      have : off + j = off + j / 2 * 2 + 1 := by omega
      rw [this]
    rw [h2, e1, ← h1, ← hj', hj]
theorem Rg.of_own {w : World} {B e n : Nat} {v : Value} {l : List R2} (h : w.ownsRow B e 2 v n (rgCells l)) : ∃ a c, v = .slice a n c ∧ n = l.length ∧ Rg w w.heap.size a l := by
  have hl := h.1
  rw [rgCells_len] at hl
  rcases h.2 with ⟨rfl, rfl⟩ | ⟨g, cap, cur, rfl, hb, hg, hnc, hcm, hcs, htk⟩
  · have e : l = [] := List.length_eq_zero_iff.1 (by omega)
    subst e
    exact ⟨none, 0, rfl, rfl, Rg.nil _ _ _⟩
  · refine ⟨some ⟨g, 0, none⟩, cap, rfl, by omega, fun k x hk => ⟨g, 0, rfl, (Array.getElem?_eq_some_iff.1 hg).1, ?_, ?_⟩⟩
    all_goals
      have hkl := (List.getElem?_eq_some_iff.1 hk).1
      obtain ⟨h0, h1⟩ := rgCells_at l k x hk
    · rw [cell_of_row w g (0 + k * 2) cur e (0, 0) hg, Nat.zero_add, ← Array.getElem?_toList]
      have h2 : (cur.toList.take (n * 2))[k * 2]? = some (.int .i64 x.1) := by rw [htk]; exact h0
      rw [List.getElem?_take_of_lt (by omega)] at h2
      exact h2
    · rw [cell_of_row w g (0 + k * 2 + 1) cur e (0, 0) hg, Nat.zero_add, ← Array.getElem?_toList]
      have h2 : (cur.toList.take (n * 2))[k * 2 + 1]? = some (.int .i64 x.2) := by rw [htk]; exact h1
      rw [List.getElem?_take_of_lt (by omega)] at h2
      exact h2
theorem own_lo {w : World} {B B' e n : Nat} {v : Value} {xs : List Value} (h : w.ownsRow B e 2 v n xs) (hB : B' ≤ B) : w.ownsRow B' e 2 v n xs :=
  ⟨h.1, h.2.imp id fun ⟨g, cap, cur, a, b, c⟩ => ⟨g, cap, cur, a, Nat.le_trans hB b, c⟩⟩
theorem own_keep {w w' : World} {B e n : Nat} {v : Value} {xs : List Value} (h : w.ownsRow B e 2 v n xs) (hk : ∀ g, B ≤ g → w'.heap[g]? = w.heap[g]?) : w'.ownsRow B e 2 v n xs :=
  ⟨h.1, h.2.imp id fun ⟨g, cap, cur, a, b, c, d⟩ => ⟨g, cap, cur, a, b, (hk g b).trans c, d⟩⟩
set_option maxHeartbeats 1000000 in
set_option maxRecDepth 100000 in
theorem ranges_some (ad : Addr) (n c : Nat) (l : List R2) (w : World) (hn : n = l.length) (hm : n ≤ 1000) (h : Rg w w.heap.size (some ad) l) :
    Calls Try.prog 51 #[.slice (some ad) n c] w fun e w' => ∃ v, e = .returned v ∧ w'.ownsRow w.heap.size 23 2 v n (rgCells l) ∧ Below w.heap.size w w' := by
  obtain ⟨i0, hi, hz0, hz1, hz2⟩ := info_parts infoRange
  have Hi : Hid (Try.prog.info? 23 = some i0) := hi
  have Hz0 := hidMk hz0
  have Hz1 := hidMk hz1
  have Hz2 := hidMk hz2
  clear hi hz0 hz1 hz2
  have Hn := hidMk hn
  have Hh := hidMk h
  clear hn h
  go_enter Try.func51, Try.ntmps51
  have own0 : (w.alloc (.cells #[] 23)).ownsRow w.heap.size 23 2 (.slice (some ⟨w.heap.size, 0, none⟩) 0 0) 0 [] :=
    ⟨rfl, .inr ⟨w.heap.size, 0, #[], rfl, Nat.le_refl _, Bk.new _ _ _, Nat.le_refl _, Nat.zero_le _, rfl, rfl⟩⟩
  have Ho := hidMk own0
  clear own0
  go_wp2_with (at_builtin; refine wpList_append_own_at _ rfl (.tmp 3) (.tmp 4) 28 rfl w.heap.size 23 i0 (.agg #[.int .i64 0, .int .i64 0]) 2 16 Try.underlying28 Hi.out Hz0.out Hz1.out Hz2.out rfl (by decide) _ 0 [] rfl Ho.out ad n c (rgCells l) rfl (by rw [rgCells_len, Hn.out]) (rg_news (Hh.out.up ((Below.refl _ _).alloc (Nat.le_refl _) _))) (rg_one l) (by unfold maxLen; omega) (by omega) (by simp) ?_; intro v' w3 own' hg _ at_)
  go_ret
  refine ⟨v', rfl, by simpa using own', ?_⟩
  exact ((Below.refl _ _).alloc (Nat.le_refl _) (.cells #[] 23)).grown hg (by simp) (fun g e => by cases e; exact Nat.le_refl _)
theorem ranges_none (n c : Nat) (hn : n = 0) (w : World) :
    Calls Try.prog 51 #[.slice none n c] w fun e w' => ∃ v, e = .returned v ∧ w'.ownsRow w.heap.size 23 2 v n [] ∧ Below w.heap.size w w' := by
  subst hn
  go_enter Try.func51, Try.ntmps51
  go_wp2_with fail
  go_ret
  exact ⟨_, rfl, ⟨rfl, .inr ⟨w.heap.size, 0, #[], rfl, Nat.le_refl _, Bk.new _ _ _, Nat.le_refl _, Nat.zero_le _, rfl, rfl⟩⟩, (Below.refl _ _).alloc (Nat.le_refl _) _⟩
theorem ranges_any (a : Option Addr) (n c : Nat) (l : List R2) (w : World) (hn : n = l.length) (hm : n ≤ 1000) (h : Rg w w.heap.size a l) :
    Calls Try.prog 51 #[.slice a n c] w fun e w' => ∃ v, e = .returned v ∧ w'.ownsRow w.heap.size 23 2 v n (rgCells l) ∧ Below w.heap.size w w' := by
  cases a with
  | some ad => exact ranges_some ad n c l w hn hm h
  | none =>
    have hl : l = [] := by
      cases l with
      | nil => rfl
      | cons x l =>
        obtain ⟨b, off, e, _⟩ := h 0 x rfl
        cases e
    subst hl
    exact ranges_none n c (by simpa using hn) w
set_option maxHeartbeats 1000000 in
set_option maxRecDepth 100000 in
theorem copyJob_any (J : Jb) (a : Option Addr) (n c : Nat) (w : World) (hn : n = J.sh.length) (hm : n ≤ 1000) (h : Rg w w.heap.size a J.sh) :
    Calls Try.prog 14 #[.agg (jobC J (.slice a n c))] w fun e w' => ∃ a' c', e = .returned (.agg (jobC J (.slice a' n c'))) ∧ w'.ownsRow w.heap.size 23 2 (.slice a' n c') n (rgCells J.sh) ∧ Below w.heap.size w w' := by
  have Hn := hidMk hn
  have Hh := hidMk h
  clear hn h
  have b0 : Bk ((w.alloc (.cells (jobC J (.slice a n c)) 30)).alloc (.cells (jobC zeroJ (.slice none 0 0)) 30)) w.heap.size 30 (jobC J (.slice a n c)) := (Bk.new w _ _).alloc _
  have b1 : Bk ((w.alloc (.cells (jobC J (.slice a n c)) 30)).alloc (.cells (jobC zeroJ (.slice none 0 0)) 30)) (w.heap.size + 1) 30 (jobC zeroJ (.slice none 0 0)) := Bk.newAt _ _ _ _ (by simp)
  have hW : Below w.heap.size w ((w.alloc (.cells (jobC J (.slice a n c)) 30)).alloc (.cells (jobC zeroJ (.slice none 0 0)) 30)) := ((Below.refl _ _).alloc (Nat.le_refl _) _).alloc (by simp) _
  have s15 := b0.at_ 15 (.slice a n c) rfl
  go_enter Try.func14, Try.ntmps14
  go_wp2_with fail
  refine (ranges_any a n c J.sh _ Hn.out hm (Hh.out.up hW)).mono ?_
  rintro e w1 ⟨v, rfl, own, hb1⟩
  obtain ⟨a', c', rfl, -, -⟩ := Rg.of_own own
  have hz1 := hb1.size
  simp only [World.size_alloc] at hz1
  have k0 := b0.below hb1 (by simp; omega)
  have k1 := b1.below hb1 (by simp)
  have hB1 : Below w.heap.size w w1 := hW.trans (hb1.mono (by simp; omega))
  have own1 : w1.ownsRow (w.heap.size + 1 + 1) 23 2 (.slice a' n c') n (rgCells J.sh) := by simpa using own
  have Own := hidMk own1
  have d15 := k0.at_ 15 (.slice a n c) rfl
  have f15 := k0.free 15
  clear own own1 hb1 b0 b1 hW s15
  have k0' : Bk (w1.setCell ⟨w.heap.size, 15, none⟩ (.slice a' n c')) w.heap.size 30 (jobC J (.slice a' n c')) := k0.put 15 _
  have k1' : Bk (w1.setCell ⟨w.heap.size, 15, none⟩ (.slice a' n c')) (w.heap.size + 1) 30 (jobC zeroJ (.slice none 0 0)) := k1.other (by simp) _
  go_wp2_with (first | (refine wpList_load_row rfl 30 _ rfl w.heap.size rfl _ (jobC J (.slice a' n c')) _ _ k0' Try.underlying30 rfl szJob ?_) | (refine wpList_store_row rfl 30 _ _ rfl (w.heap.size + 1) (jobC J (.slice a' n c')) rfl rfl _ _ k1' szJob rfl (oneJob _ _ _ _) ?_))
  refine bodyPost_ret (v := .agg (jobC J (.slice a' n c'))) (results_cell_row Try.results14 _ _ _ _ _ _ _ rfl (k1'.row _) Try.underlying30 rfl szJob) rfl ⟨a', c', rfl, ?_, ?_⟩
  · exact own_lo (own_keep Own.out fun g hg => (setRow_other _ _ _ _ (by omega)).trans (Below.heap_setCell _ _ _ _ (by show g ≠ w.heap.size; omega))) (by omega)
  · exact below_setRow (hB1.setCell (by simp) _) (by simp) _
end Go.Proofs.Ytbebofmpimfbgaa
/- The contract of NewPot: a new block with one number; nothing else is changed. -/
namespace Go.Proofs.Ytbebofmpimfbgaa
set_option linter.all false
open Go.RowKit
set_option maxHeartbeats 1000000 in
theorem newPot_any (a : Option Addr) (n c : Nat) (l : List Int) (w : World) (hn : n = l.length) (hm : n ≤ 9223372036854775807) (h : Is w w.heap.size a l) :
    Calls Try.prog 12 #[.slice a n c] w fun e w' => ∃ s t, e = .returned (.pointer (some ⟨w.heap.size, 0, none⟩)) ∧ Bk w' w.heap.size t #[.int .u64 s] ∧ Below w.heap.size w w' := by
  have Hn : Hid (n = l.length) := hn
  have Hh : Hid (Is w w.heap.size a l) := h
  clear hn h
  go_enter Try.func12, Try.ntmps12
  go_wp2
  go_loopw [4] (fun i wr => ∃ (k : Nat) (s : Int) (t : TypeId), k ≤ n ∧ i = .int .i64 k ∧ Bk wr w.heap.size t #[.int .u64 s] ∧ Below w.heap.size w wr) (fun i _ => n - (intOf i).toNat)
  case atStart => exact ⟨0, _, _, Nat.zero_le _, rfl, Bk.new w _ _, (Below.refl _ _).alloc (Nat.le_refl _) _⟩
  case round =>
    obtain ⟨k, s, t, hk, rfl, hb, hB⟩ := hrel
    have c0 := hb.at_ 0 _ rfl
    have f0 := hb.free 0
    have hl := hb.lt
    by_cases hlt : k < n
    · have hkl : k < l.length := by rw [← Hn.out]; exact hlt
      obtain ⟨b, off, rfl, hbl, e0⟩ := Hh.out k l[k] (List.getElem?_eq_getElem hkl)
      replace e0 := (hB.cell (p := ⟨b, off + k, none⟩) hbl).trans e0
      obtain ⟨x, hx⟩ : ∃ x, l[k] = x := ⟨_, rfl⟩
      rw [hx] at e0
      have hne : b ≠ w.heap.size := by omega
      have hne' : w.heap.size ≠ b := by omega
      have i0 : (0 : Int) ≤ ↑k := by omega
      have i1 : (↑k : Int) < ↑n := by omega
      have HB := hidMk hB
      have Hb := hidMk hb
      clear hB hb hx hbl Hh Hn hkl
      go_wp2
      go_region
      clear e0 hne hne'
      obtain ⟨s1, hs1⟩ : ∃ s1, IntKind.u64.wrap (bits BinOp.xor IntKind.u64 s (IntKind.u64.wrap x) * 15485907386658061715) = s1 := ⟨_, rfl⟩
      rw [hs1]
      clear hs1
      go_wp2
      go_region
      go_wp2
      go_roundw
      case rel =>
        exact ⟨k + 1, _, t, by omega, by go_num, ((Hb.out.put1 _).put1 _), ((HB.out.setCell (Nat.le_refl _) _).setCell (Nat.le_refl _) _).drew.drew⟩
      case measure => simp [intOf]; omega
    · obtain rfl : k = n := by omega
      go_wp2
      go_ret
      exact ⟨s, t, rfl, hb, hB⟩
end Go.Proofs.Ytbebofmpimfbgaa
/- Contracts of what a pot hands out: which numbers, and what is changed. -/
namespace Go.Proofs.Ytbebofmpimfbgaa
set_option linter.all false
open Go.RowKit

/-- Block b is a pot. -/
def Pt (w : World) (b : Nat) : Prop := ∃ t s, Bk w b t #[.int .u64 s]
/-- Of what lay under B, the pot alone may have been changed. -/
structure PB (b B : Nat) (w w' : World) : Prop where
  os : w'.os = w.os
  tape : w'.tape = w.tape
  output : w'.output = w.output
  size : w.heap.size ≤ w'.heap.size
  heap : ∀ k, k < B → k ≠ b → w'.heap[k]? = w.heap[k]?
section
variable {b B B' : Nat} {w w' w'' : World} {t : TypeId} {s : Int} {p : Addr}
theorem Pt.lt (h : Pt w b) : b < w.heap.size := by obtain ⟨t, s, h⟩ := h; exact h.lt
theorem Pt.alloc (h : Pt w b) (o : Obj) : Pt (w.alloc o) b := by obtain ⟨t, s, h⟩ := h; exact ⟨t, s, h.alloc o⟩
theorem Pt.drew (h : Pt w b) : Pt w.drew b := h
theorem Pt.other (h : Pt w b) (hp : b ≠ p.block) (u : Value) : Pt (w.setCell p u) b := by obtain ⟨t, s, h⟩ := h; exact ⟨t, s, h.other hp u⟩
theorem Pt.below (h : Pt w b) (hb : Below B w w') (hg : b < B) : Pt w' b := by obtain ⟨t, s, h⟩ := h; exact ⟨t, s, h.below hb hg⟩
theorem Pt.grown {row : Option Nat} (h : Pt w b) (hb : w.grownBy w' row) (hg : some b ≠ row) : Pt w' b := by obtain ⟨t, s, h⟩ := h; exact ⟨t, s, h.grown hb hg⟩
theorem PB.refl (b B : Nat) (w : World) : PB b B w w := ⟨rfl, rfl, rfl, Nat.le_refl _, fun _ _ _ => rfl⟩
theorem PB.trans (h : PB b B w w') (h' : PB b B' w' w'') (hB : B ≤ B') : PB b B w w'' := ⟨h'.os.trans h.os, h'.tape.trans h.tape, h'.output.trans h.output, Nat.le_trans h.size h'.size, fun k hk hb => (h'.heap k (Nat.lt_of_lt_of_le hk hB) hb).trans (h.heap k hk hb)⟩
theorem PB.below (h : PB b B w w') (h' : Below B' w' w'') (hB : B ≤ B') : PB b B w w'' := ⟨h'.os.trans h.os, h'.tape.trans h.tape, h'.output.trans h.output, Nat.le_trans h.size h'.size, fun k hk hb => (h'.block k (Nat.lt_of_lt_of_le hk hB)).trans (h.heap k hk hb)⟩
theorem PB.of (h : Below B w w') : PB b B w w' := ⟨h.os, h.tape, h.output, h.size, fun k hk _ => h.block k hk⟩
theorem PB.toBelow (h : PB b B w w') (hB : B ≤ b) : Below B w w' := ⟨h.os, h.tape, h.output, h.size, fun k hk => h.heap k hk (by omega)⟩
theorem PB.mono (h : PB b B w w') (hB : B' ≤ B) : PB b B' w w' := ⟨h.os, h.tape, h.output, h.size, fun k hk => h.heap k (by omega)⟩
theorem PB.alloc (h : PB b B w w') (hB : B ≤ w'.heap.size) (o : Obj) : PB b B w (w'.alloc o) := h.below ((Below.refl _ _).alloc hB o) (Nat.le_refl _)
theorem PB.setCell (h : PB b B w w') (hp : B ≤ p.block) (u : Value) : PB b B w (w'.setCell p u) := h.below ((Below.refl _ _).setCell hp u) (Nat.le_refl _)
theorem Pt.cell {i : Nat} {v : Value} (h : Pt w b) (hc : w.cell? ⟨b, i, none⟩ = some v) : ∃ s, v = .int .u64 s := by
  obtain ⟨t, s, h⟩ := h
  rw [cell_of_row w b i _ t (0, 0) h] at hc
  cases i with
  | zero => exact ⟨s, by simpa using hc.symm⟩
  | succ i => simp at hc
theorem PB.cell (h : PB b B w w') (hp : p.block < B) (hb : p.block ≠ b) : w'.cell? p = w.cell? p := World.cell?_of_block (h.heap _ hp hb)
end

end Go.Proofs.Ytbebofmpimfbgaa
/- What the laws take from pots and jobs made of numbers. -/
namespace Go.Proofs.Ytbebofmpimfbgaa
set_option linter.all false
open Go.RowKit
/-- What JobOf is known to hand back. -/
def JobP9 (b : Nat) (w : World) (e : Ending) (w' : World) : Prop :=
  ∃ (J : Jb) (a : Option Addr) (n c : Nat), e = .returned (.agg (jobC J (.slice a n c))) ∧ n = J.sh.length ∧ Rg w' w'.heap.size a J.sh ∧ J.check = 0 ∧ PB b w.heap.size w w' ∧ Pt w' b
theorem Rg.setg {w : World} {g : Nat} {a : Option Addr} {l : List R2} (h : Rg w g a l) (o : Nat) (v : Value) : Rg (w.setCell ⟨g, o, none⟩ v) g a l := h.below ((Below.refl g w).setCell (p := ⟨g, o, none⟩) (Nat.le_refl _) v)
theorem Rg.hi {w : World} {g : Nat} {a : Option Addr} {l : List R2} (h : Rg w g a l) (hg : g ≤ w.heap.size) : Rg w w.heap.size a l := h.keep hg (fun _ _ => rfl)
def JobOKn (x y : Int) : Prop := ∀ (b : Nat) (w : World), Pt w b → Calls Try.prog 13 #[.pointer (some ⟨b, 0, none⟩), .int .i64 x, .int .i64 y] w (JobP9 b w)
end Go.Proofs.Ytbebofmpimfbgaa
