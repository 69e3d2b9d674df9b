/- Part 6 of the proof: GdB, GdC, GdD, GrA, GnA, RefA, RefB, RefC, RefD, RefI, GrB, GrC, GrD, GrE, StepL, GrG. -/
import Derived.Deep.WholeRow
import Derived.OwnWalk
import Derived.Test.YtadmcafbffjjbaaE05
import Derived.Test.YtadmcafbffjjbaaE03
import Derived.Test.YtadmcafbffjjbaaE02
import Derived.Test.YtadmcafbffjjbaaE00
import Derived.Test.YtadmcafbffjjbaaE01
namespace Go.Proofs.Ytadmcafbffjjbaa
set_option linter.all false
open Go.RowKit Go.Shelf
attribute [local go_sem] Oper.semAt_some
theorem Stp.newCell {bm g6 g8 : Nat} {X0 X : World} (a : Stp bm g6 g6 X0 X) (h : X0.heap.size ≤ g8) (o : Nat) (v : Value) : Stp bm g6 g6 X0 (X.setCell ⟨g8,o,none⟩ v) := by
  have q : Below X0.heap.size X (X.setCell ⟨g8,o,none⟩ v) := (Below.refl _ _).setCell h v
  exact ⟨q.os.trans a.os,q.tape.trans a.tape,q.output.trans a.output,Nat.le_trans a.size q.size,fun i h0 h1 h2 h3 => (q.block i h0).trans (a.same i h0 h1 h2 h3)⟩
set_option maxHeartbeats 4000000 in
set_option maxRecDepth 1000000 in
theorem gr3 {J : Jb} {sa : Option Addr} {sn sc : Nat} {w0 : World} {g1 g2 g3 g5 g6 Bw Bf Bj Bb bm : Nat} {g7 g8 B Bp Bm l n : Nat} {pre : List R2} {x : R2} {X0 X : World} {u0 u4 u8 u9 A0 A1 A2 A3 A4 A5 A6 A7 A8 A9 Aa Ab Ac Ad Ae Af Ag Ah Ai Aj Ak Al Am An Ao Ap Aq : Value} (hs : SG J sa sn sc w0 g1 g2 g3 g5 g6 g8 Bw Bf Bj Bb bm ((pre.length + 1) * cost 4) x X0 X) (hv : Bk X g6 3 #[.int .i64 (gv J (pre ++ [x]))]) (h6 : ∃ z,Bk X0 g6 3 #[z]) (hn : GN w0.heap.size g1 g2 g3 g5 g6 Bw Bf Bj Bb bm) (hB : g6 < B ∧ B ≤ X0.heap.size) (hp1 : Bp < X0.heap.size ∧ Bp ≠ bm ∧ Bp ≠ g6) (hp2 : Bm < X0.heap.size ∧ Bm ≠ bm ∧ Bm ≠ g6) (hlen : (pre ++ [x]).length = pre.length + 1) : Code.wpIn (Fence.wide.inRound l) n Try.prog gb3 (ownPostG B (KpB Bp Bm) (GI J sa sn sc w0 g1 g2 g3 g5 g6 Bw Bf Bj Bb bm) (GX J w0 g2 g3) (pre ++ [x]) X0) ⟨#[u0,(.pointer (some ⟨g1,0,none⟩)),(.pointer (some ⟨g2,0,none⟩)),(.pointer (some ⟨g3,0,none⟩)),u4,(.pointer (some ⟨g5,0,none⟩)),(.pointer (some ⟨g6,0,none⟩)),(.pointer (some ⟨g7,0,none⟩)),u8,u9,A0,A1,A2,A3,A4,A5,A6,A7,A8,A9,Aa,Ab,Ac,Ad,Ae,Af,Ag,Ah,Ai,Aj,Ak,Al,Am,An,Ao,Ap,Aq],[]⟩ X := by
  rw [gb3_eq]
  have z6 := hv.at_ 0 (.int .i64 (gv J (pre ++ [x]))) rfl
  have c2 := hs.gs.r2.at_ 0 _ rfl
  have c3 := hs.gs.r3.at_ 0 _ rfl
  have f2 := hs.gs.r2.free 0
  have f3 := hs.gs.r3.free 0
  obtain ⟨dd,hdd,hMM⟩ := hs.memo
  have hne6 := bk_ne_memo hv hMM
  obtain ⟨zz,h6⟩ := h6
  have kk := hs.stp.keeps (B := B) (by have := hn.2.2.2.2.1; have := hn.2.2.2.2.2.2.2.2.2.1; omega) h6 h6
  have kp := hs.stp.kp ⟨hp1.1,hp1.2.1,hp1.2.2,hp1.2.2⟩ ⟨hp2.1,hp2.2.1,hp2.2.2,hp2.2.2⟩
  have e23 : g2 ≠ g3 := by unfold GN at hn; omega
  have e32 : g3 ≠ g2 := by unfold GN at hn; omega
  have HS := hidMk hs
  have HV := hidMk hv
  have HK := hidMk kk
  have HP := hidMk kp
  have HN := hidMk hn
  have HBB := hidMk hB
  have HL := hidMk hlen
  clear hs hv kk kp hn hB hdd hMM hne6 hp1 hp2 h6 hlen
  by_cases h5 : gv J (pre ++ [x]) = 5
  · rw [h5] at z6
    have H5 := hidMk h5
    clear h5
    gi_wp2_with fail
    have q2 : Stp g2 g2 g3 X (X.setCell ⟨g2,0,none⟩ (.int .i64 0)) := Stp.cell _ _ (.inl rfl)
    have q3 : Stp g2 g2 g3 (X.setCell ⟨g2,0,none⟩ (.int .i64 0)) ((X.setCell ⟨g2,0,none⟩ (.int .i64 0)).setCell ⟨g3,0,none⟩ (.int .i64 11)) := Stp.cell _ _ (.inr rfl)
    have hnn := HN.out
    have hbb := HBB.out
    unfold GN at hnn
    have r2 := HS.out.gs.r2.put1 (.int .i64 0)
    have r3 := HS.out.gs.r3.other (p := ⟨g2,0,none⟩) (by show g3 ≠ g2; omega) (.int .i64 0)
    refine ⟨HK.out.trans ((q2.trans q3).keeps (by omega) HS.out.gs.r2 HS.out.gs.r3),rfl,H5.out,?_,r2.other (p := ⟨g3,0,none⟩) (by show g2 ≠ g3; omega) _,r3.put1 _⟩
    exact HS.out.gs.ns.b0.trans ((((Below.refl _ _).setCell (by show w0.heap.size ≤ g2; omega) _)).setCell (by show w0.heap.size ≤ g3; omega) _)
  · have H5 := hidMk h5
    have hb5 : (gv J (pre ++ [x]) == 5) = false := by rw [beq_eq_false_iff_ne]; exact h5
    clear h5
    gi_wp2_with fail
    refine ⟨HK.out,HP.out,HS.out.gs,?_,HV.out,H5.out⟩
    rw [HL.out]
    exact HS.out.memo
set_option maxHeartbeats 4000000 in
set_option maxRecDepth 1000000 in
theorem gr2 {J : Jb} {sa : Option Addr} {sn sc : Nat} {w0 : World} {g1 g2 g3 g5 g6 Bw Bf Bj Bb bm : Nat} {g7 g8 B Bp Bm l n : Nat} {pre : List R2} {x : R2} {X0 X : World} {u0 u4 u9 A0 A1 A2 A3 A4 A5 A6 A7 A8 A9 Aa Ab Ac Ad Ae Af Ag Ah Ai Aj Ak Al Am An Ao Ap Aq : Value} (hs : SG J sa sn sc w0 g1 g2 g3 g5 g6 g8 Bw Bf Bj Bb bm (pre.length * cost 4) x X0 X) (hv : Bk X g6 3 #[.int .i64 (gv J pre)]) (hok : J.Ok) (hme : 0 ≤ J.me ∧ J.me ≤ 6) (hT : TgIn 4 { J.tg with p1 := x.1,p2 := x.2 }) (hlim : (pre.length + 1) * cost 4 ≤ 1000000000000000) (h6 : ∃ z,Bk X0 g6 3 #[z]) (hn : GN w0.heap.size g1 g2 g3 g5 g6 Bw Bf Bj Bb bm) (hB : g6 < B ∧ B ≤ X0.heap.size) (hp1 : Bp < X0.heap.size ∧ Bp ≠ bm ∧ Bp ≠ g6) (hp2 : Bm < X0.heap.size ∧ Bm ≠ bm ∧ Bm ≠ g6) (hlen : (pre ++ [x]).length = pre.length + 1) : Code.wpIn (Fence.wide.inRound l) n Try.prog gb2 (ownPostG B (KpB Bp Bm) (GI J sa sn sc w0 g1 g2 g3 g5 g6 Bw Bf Bj Bb bm) (GX J w0 g2 g3) (pre ++ [x]) X0) ⟨#[u0,(.pointer (some ⟨g1,0,none⟩)),(.pointer (some ⟨g2,0,none⟩)),(.pointer (some ⟨g3,0,none⟩)),u4,(.pointer (some ⟨g5,0,none⟩)),(.pointer (some ⟨g6,0,none⟩)),(.pointer (some ⟨g7,0,none⟩)),(.pointer (some ⟨g8,0,none⟩)),u9,A0,A1,A2,A3,A4,A5,A6,A7,A8,A9,Aa,Ab,Ac,Ad,Ae,Af,Ag,Ah,Ai,Aj,Ak,Al,Am,An,Ao,Ap,Aq],[]⟩ X := by
  rw [gb2_eq]
  have HOK := hidMk hok
  have HN := hidMk hn
  have HT := hidMk hT
  have HME : Hid (0 ≤ J.me ∧ J.me ≤ 6) := hidMk hme
  have HU : Hid (J.u1 ≤ J.u2 ∧ J.d1 ≤ J.d2) := hidMk ⟨hok.u,hok.d⟩
  have HB := hidMk hB
  have HP1 := hidMk hp1
  have HP2 := hidMk hp2
  have H6 := hidMk h6
  have HL := hidMk hlen
  have hlim := hidMk hlim
  have hmul : Hid ((pre.length + 1) * cost 4 = pre.length * cost 4 + cost 4) := hidMk (by rw [Nat.add_mul,Nat.one_mul])
  have hSd := (hs.drew hn).more (c' := (pre.length + 1) * cost 4) (by rw [Nat.add_mul]; omega)
  have hMt0 : Hid (∃ cc,cc ≤ pre.length * cost 4 ∧ Memo J X.drew bm cc) := hidMk (hs.drew hn).memo
  have hV0 := hv.drew
  clear hok hn hT hme hB hp1 hp2 h6 hlen hs hv
  refine wpIn_seq ?_
  refine region_inRound (fun a' w' => ∃ (v27 v28 v29 v30 v31 v32 v33 : Value),a' = ⟨#[u0,(.pointer (some ⟨g1,0,none⟩)),(.pointer (some ⟨g2,0,none⟩)),(.pointer (some ⟨g3,0,none⟩)),u4,(.pointer (some ⟨g5,0,none⟩)),(.pointer (some ⟨g6,0,none⟩)),(.pointer (some ⟨g7,0,none⟩)),(.pointer (some ⟨g8,0,none⟩)),u9,A0,A1,A2,A3,A4,A5,A6,A7,A8,A9,Aa,Ab,Ac,Ad,Ae,Af,Ag,v27,v28,v29,v30,v31,v32,v33,Ao,Ap,Aq],[]⟩ ∧ SG J sa sn sc w0 g1 g2 g3 g5 g6 g8 Bw Bf Bj Bb bm ((pre.length + 1) * cost 4) x X0 w' ∧ Bk w' g6 3 #[.int .i64 (gv J (pre ++ [x]))]) (fun w' => SG J sa sn sc w0 g1 g2 g3 g5 g6 g8 Bw Bf Bj Bb bm ((pre.length + 1) * cost 4) x X0 w') (by kernel_rfl) (by kernel_rfl) hSd (fun hS => ?_) ?_
  · have hV := hV0
    have hMt := hMt0
    generalize X.drew = wd at hS hV hMt ⊢
    clear hSd hV0 hMt0
    have bb := best_bound J 4 { J.tg with p1 := x.1,p2 := x.2 }
    have vb := gv_nn J pre
    have vt := gv_top J pre
    refine wpAnyH_take (i := 1) (v := ?_) rfl (by kernel_rfl) (by kernel_rfl) (by kernel_rfl) (fun _ _ _ h => by cases h.1) (.inl ⟨by rfl,?_⟩) (by assumption) ?_
    rotate_left
    · (intro w' hSw; (try dsimp only at hSw); have q := hSw.gs.fv.at_ 0 _ rfl; go_simp <;> with_reducible rfl)
    (try simp only [Act.put,aT,aZ,aS])
    refine wpAnyH_take (i := 2) rfl (by kernel_rfl) (by kernel_rfl) (by kernel_rfl) (fun _ _ _ h => by cases h.1) (yields_row (by rfl) 25 _ rfl g8 #[.int .i64 { J.tg with p1 := x.1,p2 := x.2 }.p1,.int .i64 { J.tg with p1 := x.1,p2 := x.2 }.p2,.int .i64 { J.tg with p1 := x.1,p2 := x.2 }.t1,.int .i64 { J.tg with p1 := x.1,p2 := x.2 }.t2,.int .i64 { J.tg with p1 := x.1,p2 := x.2 }.r1,.int .i64 { J.tg with p1 := x.1,p2 := x.2 }.r2] rfl 25 (fun w hw => hw.next) Try.underlying25 szTongue) (by assumption) ?_
    (try simp only [Act.put,aT,aZ,aS])
    refine wpAnyH_take (i := 3) (v := ?_) rfl (by kernel_rfl) (by kernel_rfl) (by kernel_rfl) (fun _ _ _ h => by cases h.1) (.inl ⟨by rfl,?_⟩) (by assumption) ?_
    rotate_left
    · (intro w' hSw; (try dsimp only at hSw); skip; go_simp <;> with_reducible rfl)
    (try simp only [Act.put,aT,aZ,aS])
    refine wpAnyH_ready (rs := [0,4]) (by kernel_rfl) (by simp) ?_
    refine AllReadyH.cons rfl (fun K hK => ?_) ?_
    · have z0 := hV.at_ 0 _ rfl
      go_simp
      clear z0
      refine hK.out _ _ hS (fun _ => ?_)
      clear hK K
      (try simp only [Act.put,aT,aZ,aS])
      refine wpAnyH_ready (rs := [4]) (by kernel_rfl) (by simp) ?_
      refine AllReadyH.cons rfl (fun K hK => ?_) ?_
      · go_simp
        obtain ⟨cc,hcc,hmm⟩ := hMt.out
        go_at_call 77
        refine (best_all J sa sn sc Bw Bf Bj Bb bm HOK.out.inn HME.out HU.out 4 (by decide) { J.tg with p1 := x.1,p2 := x.2 } cc _ hS.gs.env hmm HT.out (by have := hmul.out; have := hlim.out; omega)).mono ?_
        rintro e w9 ⟨rfl,⟨cd,hcd,hmd⟩,hg9⟩
        have hV_ := hV.grown hg9 (fun e => bk_ne_memo hV hmm (by injection e))
        have hS_ := hS.call (c' := (pre.length + 1) * cost 4) HN.out hg9 ⟨cd,by have := hmul.out; omega,hmd⟩
        clear hV hS hmm hcc hcd hmd hg9
        have hV := hV_
        have hS := hS_
        clear hV_ hS_
        go_wp2_with fail
        refine hK.out _ _ hS (fun _ => ?_)
        clear hK K
        (try simp only [Act.put,aT,aZ,aS])
        refine wpAnyH_ready (rs := [5]) (by kernel_rfl) (by simp) ?_
        refine AllReadyH.cons rfl (fun K hK => ?_) ?_
        · go_simp
          refine hK.out _ _ hS (fun _ => ?_)
          clear hK K
          (try simp only [Act.put,aT,aZ,aS])
          refine wpAnyH_ready (rs := [6]) (by kernel_rfl) (by simp) ?_
          refine AllReadyH.cons rfl (fun K hK => ?_) ?_
          · go_simp
            refine hK.out _ _ hS (fun _ => ?_)
            clear hK K
            (try simp only [Act.put,aT,aZ,aS])
            refine wpAnyH_ready (rs := [7]) (by kernel_rfl) (by simp) ?_
            refine AllReadyH.cons rfl (fun K hK => ?_) ?_
            · have z0 := hV.at_ 0 _ rfl
              have f0 := hV.free 0
              go_simp
              have hV_ := hV.put1 (.int .i64 (mx (gv J pre) (bestM J 4 { J.tg with p1 := x.1,p2 := x.2 }).2))
              have hS_ := hS.store HN.out (.int .i64 (mx (gv J pre) (bestM J 4 { J.tg with p1 := x.1,p2 := x.2 }).2))
              refine hK.out _ _ hS_ (fun _ => ?_)
              clear z0 f0 hV hS
              clear hK K
              (try simp only [Act.put,aT,aZ,aS])
              refine wpAnyH_done (by kernel_rfl) ?_ _
              exact ⟨rfl,_,_,_,_,_,_,_,rfl,hS_,by rw [gv_snoc]; exact hV_⟩
            exact AllReadyH.nil
          exact AllReadyH.nil
        exact AllReadyH.nil
      exact AllReadyH.nil
    refine AllReadyH.cons rfl (fun K hK => ?_) ?_
    · go_simp
      obtain ⟨cc,hcc,hmm⟩ := hMt.out
      go_at_call 77
      refine (best_all J sa sn sc Bw Bf Bj Bb bm HOK.out.inn HME.out HU.out 4 (by decide) { J.tg with p1 := x.1,p2 := x.2 } cc _ hS.gs.env hmm HT.out (by have := hmul.out; have := hlim.out; omega)).mono ?_
      rintro e w9 ⟨rfl,⟨cd,hcd,hmd⟩,hg9⟩
      have hV_ := hV.grown hg9 (fun e => bk_ne_memo hV hmm (by injection e))
      have hS_ := hS.call (c' := (pre.length + 1) * cost 4) HN.out hg9 ⟨cd,by have := hmul.out; omega,hmd⟩
      clear hV hS hmm hcc hcd hmd hg9
      have hV := hV_
      have hS := hS_
      clear hV_ hS_
      go_wp2_with fail
      refine hK.out _ _ hS (fun _ => ?_)
      clear hK K
      (try simp only [Act.put,aT,aZ,aS])
      refine wpAnyH_ready (rs := [0,5]) (by kernel_rfl) (by simp) ?_
      refine AllReadyH.cons rfl (fun K hK => ?_) ?_
      · have z0 := hV.at_ 0 _ rfl
        go_simp
        clear z0
        refine hK.out _ _ hS (fun _ => ?_)
        clear hK K
        (try simp only [Act.put,aT,aZ,aS])
        refine wpAnyH_ready (rs := [5]) (by kernel_rfl) (by simp) ?_
        refine AllReadyH.cons rfl (fun K hK => ?_) ?_
        · go_simp
          refine hK.out _ _ hS (fun _ => ?_)
          clear hK K
          (try simp only [Act.put,aT,aZ,aS])
          refine wpAnyH_ready (rs := [6]) (by kernel_rfl) (by simp) ?_
          refine AllReadyH.cons rfl (fun K hK => ?_) ?_
          · go_simp
            refine hK.out _ _ hS (fun _ => ?_)
            clear hK K
            (try simp only [Act.put,aT,aZ,aS])
            refine wpAnyH_ready (rs := [7]) (by kernel_rfl) (by simp) ?_
            refine AllReadyH.cons rfl (fun K hK => ?_) ?_
            · have z0 := hV.at_ 0 _ rfl
              have f0 := hV.free 0
              go_simp
              have hV_ := hV.put1 (.int .i64 (mx (gv J pre) (bestM J 4 { J.tg with p1 := x.1,p2 := x.2 }).2))
              have hS_ := hS.store HN.out (.int .i64 (mx (gv J pre) (bestM J 4 { J.tg with p1 := x.1,p2 := x.2 }).2))
              refine hK.out _ _ hS_ (fun _ => ?_)
              clear z0 f0 hV hS
              clear hK K
              (try simp only [Act.put,aT,aZ,aS])
              refine wpAnyH_done (by kernel_rfl) ?_ _
              exact ⟨rfl,_,_,_,_,_,_,_,rfl,hS_,by rw [gv_snoc]; exact hV_⟩
            exact AllReadyH.nil
          exact AllReadyH.nil
        exact AllReadyH.nil
      refine AllReadyH.cons rfl (fun K hK => ?_) ?_
      · go_simp
        refine hK.out _ _ hS (fun _ => ?_)
        clear hK K
        (try simp only [Act.put,aT,aZ,aS])
        refine wpAnyH_ready (rs := [0]) (by kernel_rfl) (by simp) ?_
        refine AllReadyH.cons rfl (fun K hK => ?_) ?_
        · have z0 := hV.at_ 0 _ rfl
          go_simp
          clear z0
          refine hK.out _ _ hS (fun _ => ?_)
          clear hK K
          (try simp only [Act.put,aT,aZ,aS])
          refine wpAnyH_ready (rs := [6]) (by kernel_rfl) (by simp) ?_
          refine AllReadyH.cons rfl (fun K hK => ?_) ?_
          · go_simp
            refine hK.out _ _ hS (fun _ => ?_)
            clear hK K
            (try simp only [Act.put,aT,aZ,aS])
            refine wpAnyH_ready (rs := [7]) (by kernel_rfl) (by simp) ?_
            refine AllReadyH.cons rfl (fun K hK => ?_) ?_
            · have z0 := hV.at_ 0 _ rfl
              have f0 := hV.free 0
              go_simp
              have hV_ := hV.put1 (.int .i64 (mx (gv J pre) (bestM J 4 { J.tg with p1 := x.1,p2 := x.2 }).2))
              have hS_ := hS.store HN.out (.int .i64 (mx (gv J pre) (bestM J 4 { J.tg with p1 := x.1,p2 := x.2 }).2))
              refine hK.out _ _ hS_ (fun _ => ?_)
              clear z0 f0 hV hS
              clear hK K
              (try simp only [Act.put,aT,aZ,aS])
              refine wpAnyH_done (by kernel_rfl) ?_ _
              exact ⟨rfl,_,_,_,_,_,_,_,rfl,hS_,by rw [gv_snoc]; exact hV_⟩
            exact AllReadyH.nil
          exact AllReadyH.nil
        exact AllReadyH.nil
      exact AllReadyH.nil
    exact AllReadyH.nil
  · rintro a' w' ⟨v27,v28,v29,v30,v31,v32,v33,rfl,hs',hv'⟩
    exact gr3 hs' hv' H6.out HN.out HB.out HP1.out HP2.out HL.out
set_option maxHeartbeats 4000000 in
set_option maxRecDepth 1000000 in
theorem gr1 {J : Jb} {sa : Option Addr} {sn sc : Nat} {w0 : World} {g1 g2 g3 g5 g6 Bw Bf Bj Bb bm : Nat} {g7 g8 B Bp Bm l n : Nat} {pre : List R2} {x : R2} {X0 X : World} {u0 u4 u9 A0 A1 A2 A3 A4 A5 A6 A7 A8 A9 Aa Ab Ac Ad Ae Af Ag Ah Ai Aj Ak Al Am An Ao Ap Aq : Value} (hi : GI J sa sn sc w0 g1 g2 g3 g5 g6 Bw Bf Bj Bb bm pre X0) (h8 : Bk X g8 25 #[.int .i64 J.p1,.int .i64 J.p2,.int .i64 J.t1,.int .i64 J.t2,.int .i64 J.r1,.int .i64 J.r2]) (hst : Stp bm g6 g6 X0 X) (hmx : ∀ d,Memo J X0 bm d → Memo J X bm d) (hvx : Bk X g6 3 #[.int .i64 (gv J pre)]) (hg8 : X0.heap.size ≤ g8) (h76 : g7 ≠ g6) (h7 : Bk X0 g7 23 #[.int .i64 x.1,.int .i64 x.2]) (hok : J.Ok) (hme : 0 ≤ J.me ∧ J.me ≤ 6) (hT : TgIn 4 { J.tg with p1 := x.1,p2 := x.2 }) (hlim : (pre.length + 1) * cost 4 ≤ 1000000000000000) (hn : GN w0.heap.size g1 g2 g3 g5 g6 Bw Bf Bj Bb bm) (hB : g6 < B ∧ B ≤ X0.heap.size) (hp1 : Bp < X0.heap.size ∧ Bp ≠ bm ∧ Bp ≠ g6) (hp2 : Bm < X0.heap.size ∧ Bm ≠ bm ∧ Bm ≠ g6) : Code.wpIn (Fence.wide.inRound l) n Try.prog gb1 (ownPostG B (KpB Bp Bm) (GI J sa sn sc w0 g1 g2 g3 g5 g6 Bw Bf Bj Bb bm) (GX J w0 g2 g3) (pre ++ [x]) X0) ⟨#[u0,(.pointer (some ⟨g1,0,none⟩)),(.pointer (some ⟨g2,0,none⟩)),(.pointer (some ⟨g3,0,none⟩)),u4,(.pointer (some ⟨g5,0,none⟩)),(.pointer (some ⟨g6,0,none⟩)),(.pointer (some ⟨g7,0,none⟩)),(.pointer (some ⟨g8,0,none⟩)),u9,A0,A1,A2,A3,A4,A5,A6,A7,A8,A9,Aa,Ab,Ac,Ad,Ae,Af,Ag,Ah,Ai,Aj,Ak,Al,Am,An,Ao,Ap,Aq],[]⟩ X := by
  rw [gb1_eq]
  have a0 := (hst.bk h7 (bk_ne_memo h7 hi.memo.choose_spec.2) h76 h76).at_ 0 _ rfl
  have a1 := (hst.bk h7 (bk_ne_memo h7 hi.memo.choose_spec.2) h76 h76).at_ 1 _ rfl
  have z0 := h8.at_ 0 (.int .i64 J.p1) rfl
  have z1 := h8.at_ 1 (.int .i64 J.p2) rfl
  have f0 := h8.free 0
  have f1 := h8.free 1
  have H8 := hidMk h8
  have HMX := hidMk hmx
  have HVX := hidMk hvx
  clear hmx hvx
  have HI := hidMk hi
  have HST := hidMk hst
  have HG8 := hidMk hg8
  have HOK := hidMk hok
  have HME : Hid (0 ≤ J.me ∧ J.me ≤ 6) := hidMk hme
  have HT := hidMk hT
  have HLI := hidMk hlim
  have HN := hidMk hn
  have HB := hidMk hB
  have HP1 := hidMk hp1
  have HP2 := hidMk hp2
  clear h7 h76 h8 hi hst hg8 hok hme hT hlim hn hB hp1 hp2
  gi_wp2_with fail
  have b8 := (H8.out.put 0 (.int .i64 x.1)).put 1 (.int .i64 x.2)
  have st2 : Stp bm g6 g6 X0 ((X.setCell ⟨g8,0,none⟩ (.int .i64 x.1)).setCell ⟨g8,1,none⟩ (.int .i64 x.2)) := (HST.out.newCell HG8.out 0 (.int .i64 x.1)).newCell HG8.out 1 (.int .i64 x.2)
  obtain ⟨dd,hdd,hMM⟩ := HI.out.memo
  have hm2 : Memo J ((X.setCell ⟨g8,0,none⟩ (.int .i64 x.1)).setCell ⟨g8,1,none⟩ (.int .i64 x.2)) bm dd := by
    obtain ⟨l1,l2⟩ : bm < X0.heap.size ∧ X0.heap.size ≤ g8 := ⟨hMM.lt,HG8.out⟩
    exact ((HMX.out dd hMM).kept (grownBy_setCellA X g8 0 _) (by intro e; injection e with e; omega)).kept (grownBy_setCellA _ g8 1 _) (by intro e; injection e with e; omega)
  have l6 := HI.out.val.lt
  have l8 := HG8.out
  have hv1 : Bk X g6 3 #[.int .i64 (gv J pre)] := HVX.out
  have hv2 := (hv1.other (p := ⟨g8,0,none⟩) (by show g6 ≠ g8; omega) (.int .i64 x.1)).other (p := ⟨g8,1,none⟩) (by show g6 ≠ g8; omega) (.int .i64 x.2)
  exact gr2 ⟨st2,HI.out.gs.stp hMM HN.out st2,⟨dd,hdd,hm2⟩,b8,⟨_,hv2⟩⟩ hv2 HOK.out HME.out HT.out HLI.out ⟨_,HI.out.val⟩ HN.out HB.out HP1.out HP2.out (by simp)
set_option maxHeartbeats 4000000 in
set_option maxRecDepth 1000000 in
theorem gr0 {J : Jb} {sa : Option Addr} {sn sc : Nat} {w0 : World} {g1 g2 g3 g5 g6 Bw Bf Bj Bb bm : Nat} {g7 B Bp Bm l n : Nat} {pre : List R2} {x : R2} {X : World} {u0 u4 u8 u9 A0 A1 A2 A3 A4 A5 A6 A7 A8 A9 Aa Ab Ac Ad Ae Af Ag Ah Ai Aj Ak Al Am An Ao Ap Aq : Value} (hi : GI J sa sn sc w0 g1 g2 g3 g5 g6 Bw Bf Bj Bb bm pre X) (h76 : g7 ≠ g6) (h7 : Bk X g7 23 #[.int .i64 x.1,.int .i64 x.2]) (hok : J.Ok) (hme : 0 ≤ J.me ∧ J.me ≤ 6) (hT : TgIn 4 { J.tg with p1 := x.1,p2 := x.2 }) (hlim : (pre.length + 1) * cost 4 ≤ 1000000000000000) (hn : GN w0.heap.size g1 g2 g3 g5 g6 Bw Bf Bj Bb bm) (hB : g6 < B ∧ B ≤ X.heap.size) (hp1 : Bp < X.heap.size ∧ Bp ≠ bm ∧ Bp ≠ g6) (hp2 : Bm < X.heap.size ∧ Bm ≠ bm ∧ Bm ≠ g6) : Code.wpIn (Fence.wide.inRound l) n Try.prog gb0 (ownPostG B (KpB Bp Bm) (GI J sa sn sc w0 g1 g2 g3 g5 g6 Bw Bf Bj Bb bm) (GX J w0 g2 g3) (pre ++ [x]) X) ⟨#[u0,(.pointer (some ⟨g1,0,none⟩)),(.pointer (some ⟨g2,0,none⟩)),(.pointer (some ⟨g3,0,none⟩)),u4,(.pointer (some ⟨g5,0,none⟩)),(.pointer (some ⟨g6,0,none⟩)),(.pointer (some ⟨g7,0,none⟩)),u8,u9,A0,A1,A2,A3,A4,A5,A6,A7,A8,A9,Aa,Ab,Ac,Ad,Ae,Af,Ag,Ah,Ai,Aj,Ak,Al,Am,An,Ao,Ap,Aq],[]⟩ X := by
  rw [gb0_eq]
  have hj := hi.gs.ns.job
  have c0 := hj.at_ 0 (.int .i64 J.p1) rfl
  have c1 := hj.at_ 1 (.int .i64 J.p2) rfl
  have c2 := hj.at_ 2 (.int .i64 J.t1) rfl
  have c3 := hj.at_ 3 (.int .i64 J.t2) rfl
  have c4 := hj.at_ 4 (.int .i64 J.r1) rfl
  have c5 := hj.at_ 5 (.int .i64 J.r2) rfl
  have HI := hidMk hi
  have H7 := hidMk h7
  have H76 := hidMk h76
  have HOK := hidMk hok
  have HME : Hid (0 ≤ J.me ∧ J.me ≤ 6) := hidMk hme
  have HT := hidMk hT
  have HLI := hidMk hlim
  have HN := hidMk hn
  have HB := hidMk hB
  have HP1 := hidMk hp1
  have HP2 := hidMk hp2
  clear hj hi h7 h76 hok hme hT hlim hn hB hp1 hp2
  gi_wp2_with fail
  have q : Below X.heap.size X (X.alloc (.cells #[.int .i64 J.p1,.int .i64 J.p2,.int .i64 J.t1,.int .i64 J.t2,.int .i64 J.r1,.int .i64 J.r2] 25)) := (Below.refl _ _).alloc (Nat.le_refl _) _
  exact gr1 HI.out (Bk.new _ _ _) (Stp.below q) (fun d h => h.kept (grown_of_below q none) (by simp)) (HI.out.val.below q HI.out.val.lt) (Nat.le_refl _) H76.out H7.out HOK.out HME.out HT.out HLI.out HN.out HB.out HP1.out HP2.out
end Go.Proofs.Ytadmcafbffjjbaa
namespace Go.Proofs.Ytadmcafbffjjbaa
set_option linter.all false
open Go.RowKit Go.Shelf
attribute [local go_sem] Oper.semAt_some
set_option maxHeartbeats 4000000 in
set_option maxRecDepth 1000000 in
theorem gd_rf {J : Jb} {sa : Option Addr} {sn sc : Nat} {w0 : World} {g1 g2 g3 g5 g6 Bw Bf Bj Bb bm : Nat} {Bp Bm : Nat} {w : World} {Q : Exit → Act → World → Prop} {u0 u4 u7 u8 u9 A0 A1 A2 A3 A4 A5 A6 A7 A8 A9 Aa Ac Ad Ae Af Ag Ah Ai Aj Ak Al Am An Ao Ap Aq : Value}
    (hI : GI J sa sn sc w0 g1 g2 g3 g5 g6 Bw Bf Bj Bb bm [] w) (hp : Bk w Bp 23 #[.int .i64 J.p1,.int .i64 J.p2]) (hm : Bk w Bm 3 #[.int .i64 J.me]) (hok : J.Ok) (hme : 0 ≤ J.me ∧ J.me ≤ 6) (hn : GN w0.heap.size g1 g2 g3 g5 g6 Bw Bf Bj Bb bm) (hp1 : Bp ≠ bm ∧ Bp ≠ g6) (hp2 : Bm ≠ bm ∧ Bm ≠ g6)
    (hdone : ∀ (D : Nat) (w' : World),w.heap.size ≤ D → GI J sa sn sc w0 g1 g2 g3 g5 g6 Bw Bf Bj Bb bm (readsL J.p1 J.p2 J.me) w' → w'.heap[D]? = some (.deferred (some [])) → Q .normal ⟨#[u0,(.pointer (some ⟨g1,0,none⟩)),(.pointer (some ⟨g2,0,none⟩)),(.pointer (some ⟨g3,0,none⟩)),u4,(.pointer (some ⟨g5,0,none⟩)),(.pointer (some ⟨g6,0,none⟩)),u7,u8,u9,A0,A1,A2,A3,A4,A5,A6,A7,A8,A9,Aa,(.func (.func 79) #[] #[.pointer (some ⟨Bp,0,none⟩),.pointer (some ⟨Bm,0,none⟩)]),Ac,Ad,Ae,Af,Ag,Ah,Ai,Aj,Ak,Al,Am,An,Ao,Ap,Aq],[{ target := .collected D,args := #[] }]⟩ w')
    (hstop : ∀ (D : Nat) (w' : World),w.heap.size ≤ D → guideI J = 5 → GX J w0 g2 g3 .ret (readsL J.p1 J.p2 J.me) w' → w'.heap[D]? = some (.deferred (some [])) → Q .ret ⟨#[u0,(.pointer (some ⟨g1,0,none⟩)),(.pointer (some ⟨g2,0,none⟩)),(.pointer (some ⟨g3,0,none⟩)),u4,(.pointer (some ⟨g5,0,none⟩)),(.pointer (some ⟨g6,0,none⟩)),u7,u8,u9,A0,A1,A2,A3,A4,A5,A6,A7,A8,A9,Aa,(.func (.func 79) #[] #[.pointer (some ⟨Bp,0,none⟩),.pointer (some ⟨Bm,0,none⟩)]),Ac,Ad,Ae,Af,Ag,Ah,Ai,Aj,Ak,Al,Am,An,Ao,Ap,Aq],[{ target := .collected D,args := #[] }]⟩ w') : Code.wpIn Fence.wide 3 Try.prog (.rangeFunc (.tmp 21) #[22] gfa gfb) Q ⟨#[u0,(.pointer (some ⟨g1,0,none⟩)),(.pointer (some ⟨g2,0,none⟩)),(.pointer (some ⟨g3,0,none⟩)),u4,(.pointer (some ⟨g5,0,none⟩)),(.pointer (some ⟨g6,0,none⟩)),u7,u8,u9,A0,A1,A2,A3,A4,A5,A6,A7,A8,A9,Aa,(.func (.func 79) #[] #[.pointer (some ⟨Bp,0,none⟩),.pointer (some ⟨Bm,0,none⟩)]),Ac,Ad,Ae,Af,Ag,Ah,Ai,Aj,Ak,Al,Am,An,Ao,Ap,Aq],[]⟩ w := by
  have hok0 := hok
  obtain ⟨hinn,h12,-,-,-,-,-,-,-⟩ := hok0
  have i1 := hinn.p1
  have i2 := hinn.p2
  have hlr := reads_len (a := J.p1) (b := J.p2) (m := J.me) (by omega)
  have l6 := hI.val.lt
  have lb := hI.memo.choose_spec.2.lt
  have hn0 := hn
  unfold GN at hn0
  have hzW : w0.heap.size ≤ w.heap.size := hI.gs.ns.b0.size
  refine wpIn_rangeFunc_ownH (α := R2) rfl (by decide) (gf := 79) (lb := #[.pointer (some ⟨Bp,0,none⟩),.pointer (some ⟨Bm,0,none⟩)]) rfl trivial (enters_of Try.func79 (by kernel_rfl) rfl)
    (readings_clip 2 Bp Bm J.p1 J.p2 J.me (by omega) w hp hm) (fun h k => ⟨k.1.trans h.1,k.2.trans h.2⟩) (fun W' l o o' hl _ _ _ => ⟨World.putObj_heap_other (by have := hp.lt; omega),World.putObj_heap_other (by have := hm.lt; omega)⟩) (Below.refl _ _) (fun _ => rfl)
    (fun (pre : List R2) (X : World) => GI J sa sn sc w0 g1 g2 g3 g5 g6 Bw Bf Bj Bb bm (pre.map (clipR J.p1 J.p2 J.me)) X ∧ w.heap.size ≤ X.heap.size)
    (fun (cd : Code) (pre : List R2) (X : World) => GX J w0 g2 g3 cd (pre.map (clipR J.p1 J.p2 J.me)) X)
    (OwnFrom.and (GI.own hzW lb _) (fun _ _ _ _ h hg _ => Nat.le_trans h hg.size)) (fun cd => GX.own hzW cd _) ⟨hI,Nat.le_refl _⟩
    (fun x a' X => ∃ g7,Bk X g7 23 #[.int .i64 (clipR J.p1 J.p2 J.me x).1,.int .i64 (clipR J.p1 J.p2 J.me x).2] ∧ g7 ≠ g6 ∧ a' = ⟨#[u0,(.pointer (some ⟨g1,0,none⟩)),(.pointer (some ⟨g2,0,none⟩)),(.pointer (some ⟨g3,0,none⟩)),u4,(.pointer (some ⟨g5,0,none⟩)),(.pointer (some ⟨g6,0,none⟩)),(.pointer (some ⟨g7,0,none⟩)),u8,u9,A0,A1,A2,A3,A4,A5,A6,A7,A8,A9,Aa,(.func (.func 79) #[] #[.pointer (some ⟨Bp,0,none⟩),.pointer (some ⟨Bm,0,none⟩)]),(.agg #[.int .i64 (clipR J.p1 J.p2 J.me x).1,.int .i64 (clipR J.p1 J.p2 J.me x).2]),Ad,Ae,Af,Ag,Ah,Ai,Aj,Ak,Al,Am,An,Ao,Ap,Aq],[]⟩)
    (fun x a' _ X Y row hs hg hr => by obtain ⟨g7,e1,e3,e2⟩ := hs; exact ⟨g7,e1.grown hg (row_ne e1 hr),e3,e2⟩)
    ?assign ?body ?done ?stop
  case assign =>
    rintro l pre x X K ⟨hi,hsz⟩ hK
    have hpl := hp.lt
    have hml := hm.lt
    rw [gfa_eq]
    gi_wp2_with fail
    exact hK _ _ ⟨by simp,fun i o _ ho _ => (Below.heap_alloc _ _ i (Array.getElem?_eq_some_iff.1 ho).1).trans ho⟩ ⟨Below.heap_alloc _ _ _ (by omega),Below.heap_alloc _ _ _ (by omega)⟩ ⟨GI.own hzW lb (clipR J.p1 J.p2 J.me) pre X _ none hi (World.grownBy_alloc _ _ _) (by simp),by simp; omega⟩ ⟨X.heap.size,Bk.new _ _ _,by omega,rfl⟩
  case body =>
    rintro l pre x a' X hl - ⟨hi,hsz⟩ ⟨g7,h7,h76,rfl⟩ hlt
    have hpl := hp.lt
    have hml := hm.lt
    have hcl := clip_in (a := J.p1) (b := J.p2) h12 hme.1 x
    have hle : (pre.map (clipR J.p1 J.p2 J.me)).length + 1 ≤ 1000 := by rw [List.length_map]; omega
    have hmul : ((pre.map (clipR J.p1 J.p2 J.me)).length + 1) * cost 4 ≤ 1000 * cost 4 := Nat.mul_le_mul_right _ hle
    have hlim : ((pre.map (clipR J.p1 J.p2 J.me)).length + 1) * cost 4 ≤ 1000000000000000 := Nat.le_trans hmul (by decide)
    have hT : TgIn 4 { J.tg with p1 := (clipR J.p1 J.p2 J.me x).1,p2 := (clipR J.p1 J.p2 J.me x).2 } := by
      have h0 := hinn.tg
      refine ⟨?_,hcl.2.1⟩
      simp only [Tg.In,Jb.tg] at h0 ⊢
      omega
    rw [gfb_eq]
    refine wpIn_block ?_
    refine wpIn_mono (gr0 (x := (clipR J.p1 J.p2 J.me x)) (pre := pre.map (clipR J.p1 J.p2 J.me)) (B := w.heap.size) (Bp := Bp) (Bm := Bm) hi h76 h7 hok hme hT hlim hn ⟨l6,hsz⟩ ⟨by omega,hp1⟩ ⟨by omega,hp2⟩) ?_
    intro e a3 W3 h
    have em : (pre ++ [x]).map (clipR J.p1 J.p2 J.me) = pre.map (clipR J.p1 J.p2 J.me) ++ [(clipR J.p1 J.p2 J.me x)] := by simp
    cases e with
    | normal =>
      simp only [Exit.inBlock,ownPostG] at h ⊢
      rw [em]
      exact ⟨h.1,h.2.1,h.2.2,Nat.le_trans hsz h.1.size⟩
    | ret =>
      simp only [Exit.inBlock,ownPostG] at h ⊢
      rw [em]
      exact h
    | exit id =>
      simp only [ownPostG] at h
      exact absurd h.2.out (by simp)
    | goto t =>
      simp only [ownPostG] at h
      exact absurd h.2.out (by simp)
    | _ => exact h
  case done =>
    rintro D xs X hD rfl ⟨hi,-⟩ hd
    refine hdone D X hD ?_ hd
    rw [clip_map fun x h => h] at hi
    exact hi
  case stop =>
    rintro D cd pre X hD hpre hi hd
    have hc := hi.out
    subst hc
    have hmm : ∀ y ∈ pre,y ∈ readsL J.p1 J.p2 J.me := fun y hy => by
      obtain ⟨q,hq⟩ := hpre
      rw [← hq]
      exact List.mem_append_left _ hy
    rw [clip_map hmm] at hi
    have hw := gv_pre J hpre
    have hmr := hi.more
    have ht := gv_top J (readsL J.p1 J.p2 J.me)
    have h5 : guideI J = 5 := by rw [← gv_all]; omega
    have hst := hstop D X hD h5 ⟨rfl,by rw [gv_all]; exact h5,hi.b0,hi.r2,hi.r3⟩ hd
    gi_wp2_with fail
    exact hst
end Go.Proofs.Ytadmcafbffjjbaa
namespace Go.Proofs.Ytadmcafbffjjbaa
set_option linter.all false
open Go.RowKit Go.Shelf
def QGD (J : Jb) (w0 : World) : Exit → Act → World → Prop := bodyPostM Fence.wide 3 Try.prog Try.f12 (fun e w' => e = .returned (.tuple #[.int .i64 (guidedI J).1,.int .i64 (guidedI J).2]) ∧ Below w0.heap.size w0 w')
theorem gd_ends {J : Jb} {w0 w : World} {g2 g3 D : Nat} {tmps : Array Value} {a b : Int} (hB : Below w0.heap.size w0 w) (hD : w0.heap.size ≤ D) (hd : w.heap[D]? = some (.deferred (some []))) (h2 : Bk w g2 3 #[.int .i64 a]) (h3 : Bk w g3 39 #[.int .i64 b])
    (t2 : tmps.getD 2 undef = .pointer (some ⟨g2,0,none⟩)) (t3 : tmps.getD 3 undef = .pointer (some ⟨g3,0,none⟩)) (he : guidedI J = (a,b)) : LeavesInM Fence.wide 3 Try.prog Try.f12 tmps (fun e w' => e = .returned (.tuple #[.int .i64 (guidedI J).1,.int .i64 (guidedI J).2]) ∧ Below w0.heap.size w0 w') [{ target := .collected D,args := #[] }] .returning w := by
  refine leaves_marks (lo := w0.heap.size) (hi := w.heap.size) _ _ ⟨fun d hm => ?_,List.pairwise_singleton _ _⟩ fun w' hs => ?_
  · rw [List.mem_singleton] at hm
    subst hm
    exact ⟨D,rfl,hD,(Array.getElem?_eq_some_iff.1 hd).1,hd⟩
  · have k2 : Bk w' g2 3 #[.int .i64 a] := (hs.same _ (.inr (by intro x; rw [show w.heap[g2]? = _ from h2]; simp))).trans h2
    have k3 : Bk w' g3 39 #[.int .i64 b] := (hs.same _ (.inr (by intro x; rw [show w.heap[g3]? = _ from h3]; simp))).trans h3
    refine ⟨_,results_int2 Try.results12 _ _ _ _ _ _ _ _ t2 t3 k2 k3 Try.underlying3 Try.underlying39,by rw [he],?_⟩
    exact hB.trans ⟨hs.os,hs.tape,hs.output,by rw [hs.size]; exact Nat.le_refl _,fun i hi => hs.same i (.inl hi)⟩
set_option maxHeartbeats 4000000 in
set_option maxRecDepth 1000000 in
theorem gdpart5 {J : Jb} {sa : Option Addr} {sn sc : Nat} {w0 : World} {g1 g2 g3 g5 g6 Bw Bf Bj Bb bm : Nat} {w : World} {D : Nat} {u0 u4 u7 u8 u9 A0 A1 A2 A3 A4 A5 A6 A7 A8 A9 Aa Ab Ac Ad Ae Af Ag Ah Ai Aj Ak Al Am An Ao Ap Aq : Value} (hi : GI J sa sn sc w0 g1 g2 g3 g5 g6 Bw Bf Bj Bb bm (readsL J.p1 J.p2 J.me) w) (hn : GN w0.heap.size g1 g2 g3 g5 g6 Bw Bf Bj Bb bm) (hc : J.check = 0) (hD : w0.heap.size ≤ D) (hdd : w.heap[D]? = some (.deferred (some []))) : Code.wp Try.prog gdrest5 (QGD J w0) ⟨#[u0,(.pointer (some ⟨g1,0,none⟩)),(.pointer (some ⟨g2,0,none⟩)),(.pointer (some ⟨g3,0,none⟩)),u4,(.pointer (some ⟨g5,0,none⟩)),(.pointer (some ⟨g6,0,none⟩)),u7,u8,u9,A0,A1,A2,A3,A4,A5,A6,A7,A8,A9,Aa,Ab,Ac,Ad,Ae,Af,Ag,Ah,Ai,Aj,Ak,Al,Am,An,Ao,Ap,Aq],[{ target := .collected D,args := #[] }]⟩ w := by
  rw [gdrest5_eq]
  have z6 := hi.val.at_ 0 (.int .i64 (guideI J)) (by rw [gv_all]; rfl)
  have hl : ¬ guideI J = 5 := by rw [← gv_all]; exact hi.less
  have e1 : guidedI J = (guideI J,0) := by unfold guidedI; rw [if_pos hc,if_neg hl]
  have c2 := hi.gs.r2.at_ 0 _ rfl
  have c3 := hi.gs.r3.at_ 0 _ rfl
  have f2 := hi.gs.r2.free 0
  have f3 := hi.gs.r3.free 0
  have hn0 := hn
  unfold GN at hn0
  have e23 : g2 ≠ g3 := by omega
  have e32 : g3 ≠ g2 := by omega
  have e62 : g6 ≠ g2 := by omega
  have HI := hidMk hi
  have HE := hidMk e1
  have HD := hidMk hD
  have HDD := hidMk hdd
  have HN := hidMk hn0
  clear hi e1 hn hn0 hl hc hD hdd
  go_wp2_with fail
  unfold QGD
  have hn0 := HN.out
  have q : Below w0.heap.size w ((w.setCell ⟨g2,0,none⟩ (.int .i64 (guideI J))).setCell ⟨g3,0,none⟩ (.int .i64 0)) := ((Below.refl _ _).setCell (by show w0.heap.size ≤ g2; omega) _).setCell (by show w0.heap.size ≤ g3; omega) _
  have hdg2 : D ≠ g2 := by rintro rfl; have a := HDD.out; rw [show w.heap[D]? = _ from HI.out.gs.r2] at a; cases a
  have hdg3 : D ≠ g3 := by rintro rfl; have a := HDD.out; rw [show w.heap[D]? = _ from HI.out.gs.r3] at a; cases a
  exact gd_ends (HI.out.gs.ns.b0.trans q) HD.out ((Below.heap_setCell _ ⟨g3,0,none⟩ _ D hdg3).trans ((Below.heap_setCell _ ⟨g2,0,none⟩ _ D hdg2).trans HDD.out)) ((HI.out.gs.r2.put1 _).other (by show g2 ≠ g3; omega) _) ((HI.out.gs.r3.other (p := ⟨g2,0,none⟩) (by show g3 ≠ g2; omega) _).put1 _) rfl rfl HE.out
set_option maxHeartbeats 4000000 in
set_option maxRecDepth 1000000 in
theorem gdpart4 {J : Jb} {sa : Option Addr} {sn sc : Nat} {w0 : World} {g1 g2 g3 g5 g6 Bw Bf Bj Bb bm : Nat} {w : World} {u0 u4 u7 u8 u9 A0 A1 A2 A3 A4 A5 A6 A7 A8 A9 Aa Ab Ac Ad Ae Af Ag Ah Ai Aj Ak Al Am An Ao Ap Aq : Value} (hi : GI J sa sn sc w0 g1 g2 g3 g5 g6 Bw Bf Bj Bb bm [] w) (hn : GN w0.heap.size g1 g2 g3 g5 g6 Bw Bf Bj Bb bm) (hc : J.check = 0) : Code.wp Try.prog gdrest4 (QGD J w0) ⟨#[u0,(.pointer (some ⟨g1,0,none⟩)),(.pointer (some ⟨g2,0,none⟩)),(.pointer (some ⟨g3,0,none⟩)),u4,(.pointer (some ⟨g5,0,none⟩)),(.pointer (some ⟨g6,0,none⟩)),u7,u8,u9,A0,A1,A2,A3,A4,A5,A6,A7,A8,A9,Aa,Ab,Ac,Ad,Ae,Af,Ag,Ah,Ai,Aj,Ak,Al,Am,An,Ao,Ap,Aq],[]⟩ w := by
  rw [gdrest4_cut]
  have hj := hi.gs.ns.job
  have j0 := hj.at_ 0 (.int .i64 J.p1) rfl
  have j1 := hj.at_ 1 (.int .i64 J.p2) rfl
  have j17 := hj.at_ 17 (.int .i64 J.me) rfl
  have HI := hidMk hi
  have HN := hidMk hn
  have HC := hidMk hc
  clear hj hi hn hc
  go_wp2_with (go_at_call 49; refine (readings_any J.p1 J.p2 J.me _).mono ?_; rintro e w2 ⟨rfl,rfl⟩)
  have q1 : Below w.heap.size w ((w.alloc (.cells #[.int .i64 J.p1,.int .i64 J.p2] 23)).alloc (.cells #[.int .i64 J.me] 3)) := ((Below.refl _ _).alloc (Nat.le_refl _) _).alloc (by simp) _
  have bp : Bk ((w.alloc (.cells #[.int .i64 J.p1,.int .i64 J.p2] 23)).alloc (.cells #[.int .i64 J.me] 3)) w.heap.size 23 #[.int .i64 J.p1,.int .i64 J.p2] := (Bk.new _ _ _).alloc _
  have bq : Bk ((w.alloc (.cells #[.int .i64 J.p1,.int .i64 J.p2] 23)).alloc (.cells #[.int .i64 J.me] 3)) (w.heap.size + 1) 3 #[.int .i64 J.me] := Bk.newAt _ _ _ _ (by simp)
  generalize ((w.alloc (.cells #[.int .i64 J.p1,.int .i64 J.p2] 23)).alloc (.cells #[.int .i64 J.me] 3)) = w2 at q1 bp bq ⊢
  have l6 := HI.out.val.lt
  have lb := HI.out.memo.choose_spec.2.lt
  have hi2 : GI J sa sn sc w0 g1 g2 g3 g5 g6 Bw Bf Bj Bb bm [] w2 := ⟨HI.out.gs.own HI.out.gs.ns.b0.size (grown_of_below q1 none) (by simp),by obtain ⟨d,hd,hm⟩ := HI.out.memo; exact ⟨d,hd,hm.kept (grown_of_below q1 none) (by simp)⟩,HI.out.val.below q1 l6,(by rw [show gv J [] = 0 from rfl]; decide)⟩
  have HI2 := hidMk hi2
  have HQ1 := hidMk q1
  clear hi2 q1
  refine (wpIn_wide (n := 3)).1 (gd_rf HI2.out bp bq (check_ok HC.out) (check_me HC.out) HN.out (by omega) (by omega) ?_ ?_)
  · intro D w' hD hg hdd
    have HG := hidMk hg
    have HD := hidMk hD
    have HDD := hidMk hdd
    clear hg hD hdd
    go_wp2_with fail
    exact gdpart5 HG.out HN.out HC.out (Nat.le_trans HI2.out.gs.ns.b0.size HD.out) HDD.out
  · intro D w' hD h5 hg hdd
    have HG := hidMk hg
    have HD := hidMk hD
    have HDD := hidMk hdd
    have H5 := hidMk h5
    clear hg hD hdd h5
    go_wp2_with fail
    unfold QGD
    exact gd_ends HG.out.b0 (Nat.le_trans HI2.out.gs.ns.b0.size HD.out) HDD.out HG.out.r2 HG.out.r3 rfl rfl (by unfold guidedI; rw [if_pos HC.out,if_pos H5.out])
set_option maxHeartbeats 4000000 in
set_option maxRecDepth 1000000 in
theorem gdpart3 {J : Jb} {sa : Option Addr} {sn sc : Nat} {w0 : World} {g1 g2 g3 g5 Bw Bf Bj Bb bm : Nat} {w : World} {u0 u4 u6 u7 u8 u9 A0 A1 A2 A3 A4 A5 A6 A7 A8 A9 Aa Ab Ac Ad Ae Af Ag Ah Ai Aj Ak Al Am An Ao Ap Aq : Value} (hs : GS J sa sn sc w0 g1 g2 g3 g5 Bw Bf Bj Bb bm w) (hM : Memo J w bm 0) (hn : w0.heap.size ≤ g1 ∧ g1 < g2 ∧ g2 < g3 ∧ g3 < g5 ∧ Bw < g5 ∧ Bf < g5 ∧ Bj < g5 ∧ Bb < g5 ∧ bm < g5 ∧ w0.heap.size ≤ bm) (hc : J.check = 0) : Code.wp Try.prog gdrest3 (QGD J w0) ⟨#[u0,(.pointer (some ⟨g1,0,none⟩)),(.pointer (some ⟨g2,0,none⟩)),(.pointer (some ⟨g3,0,none⟩)),u4,(.pointer (some ⟨g5,0,none⟩)),u6,u7,u8,u9,A0,A1,A2,A3,A4,A5,A6,A7,A8,A9,Aa,Ab,Ac,Ad,Ae,Af,Ag,Ah,Ai,Aj,Ak,Al,Am,An,Ao,Ap,Aq],[]⟩ w := by
  rw [gdrest3_eq]
  have HS := hidMk hs
  have HM := hidMk hM
  have HNN := hidMk hn
  have HC := hidMk hc
  clear hs hM hn hc
  go_wp2_with fail
  have q1 : Below w.heap.size w (w.alloc (.cells #[.int .i64 0] 3)) := (Below.refl _ _).alloc (Nat.le_refl _) _
  have hn0 := HNN.out
  refine gdpart4 (g6 := w.heap.size) ⟨HS.out.own HS.out.ns.b0.size (grown_of_below q1 none) (by simp),⟨0,by simp,HM.out.kept (grown_of_below q1 none) (by simp)⟩,Bk.new _ _ _,(by rw [show gv J [] = 0 from rfl]; decide)⟩ ?_ HC.out
  have l5 := HS.out.fv.lt
  unfold GN
  omega
set_option maxHeartbeats 4000000 in
set_option maxRecDepth 1000000 in
theorem gdpart2 {J : Jb} {sa : Option Addr} {sn sc : Nat} {w0 : World} {g1 g2 g3 : Nat} {w : World} {u0 u4 u5 u6 u7 u8 u9 A0 A1 A2 A3 A4 A5 A6 A7 A8 A9 Aa Ab Ac Ad Ae Af Ag Ah Ai Aj Ak Al Am An Ao Ap Aq : Value} (hs : NS J sa sn sc w0 g1 w) (h2 : Bk w g2 3 #[.int .i64 0]) (h3 : Bk w g3 39 #[.int .i64 0]) (hn : w0.heap.size ≤ g1 ∧ g1 < g2 ∧ g2 < g3) (hsn : sn = J.sh.length) (hc : J.check = 0) : Code.wp Try.prog gdrest2 (QGD J w0) ⟨#[u0,(.pointer (some ⟨g1,0,none⟩)),(.pointer (some ⟨g2,0,none⟩)),(.pointer (some ⟨g3,0,none⟩)),u4,u5,u6,u7,u8,u9,A0,A1,A2,A3,A4,A5,A6,A7,A8,A9,Aa,Ab,Ac,Ad,Ae,Af,Ag,Ah,Ai,Aj,Ak,Al,Am,An,Ao,Ap,Aq],[]⟩ w := by
  rw [gdrest2_eq]
  have HS := hidMk hs
  have HR2 := hidMk h2
  have HR3 := hidMk h3
  have HNN := hidMk hn
  have HSN := hidMk hsn
  have HC := hidMk hc
  clear hs h2 h3 hn hc hsn
  go_wp2_with (refine wpList_load_row rfl 30 _ rfl g1 rfl _ (jobC J (.slice sa sn sc)) _ _ HS.out.job Try.underlying30 rfl szJob ?_)
  refine (player_any J sa sn sc _ (check_ok HC.out).inn HSN.out HS.out.rg).mono ?_
  rintro e wp ⟨Bw,Bf,Bj,Bb,bm,rfl,hE,hM,hb,hbm⟩
  have HE := hidMk hE
  have HM := hidMk hM
  have HB := hidMk hb
  have HBM := hidMk hbm
  clear hE hM hb hbm
  have hst : (store ⟨wp.heap.size,0,none⟩ (.func (.func 77) #[] #[.pointer (some ⟨Bw,0,none⟩),.pointer (some ⟨Bf,0,none⟩),.pointer (some ⟨Bj,0,none⟩),.pointer (some ⟨Bb,0,none⟩)])).run Try.prog (wp.alloc (.cells #[.nilFunc] 83)) = stored Try.prog (wp.alloc (.cells #[.nilFunc] 83)) ⟨wp.heap.size,0,none⟩ (.func (.func 77) #[] #[.pointer (some ⟨Bw,0,none⟩),.pointer (some ⟨Bf,0,none⟩),.pointer (some ⟨Bj,0,none⟩),.pointer (some ⟨Bb,0,none⟩)]) .plain := run_store _ _ _ _ _ rfl
  go_wp2_with fail
  have q1 : Below wp.heap.size wp (wp.alloc (.cells #[(.func (.func 77) #[] #[.pointer (some ⟨Bw,0,none⟩),.pointer (some ⟨Bf,0,none⟩),.pointer (some ⟨Bj,0,none⟩),.pointer (some ⟨Bb,0,none⟩)])] 83)) := (Below.refl _ _).alloc (Nat.le_refl _) _
  have ns := (HS.out.next HB.out).next q1
  have l1 := HE.out.win.lt
  have l2 := HE.out.found.lt
  have l3 := HE.out.job.lt
  have l4 := HE.out.best.lt
  have l5 := HM.out.lt
  have hz := HB.out.size
  have hz0 := HS.out.b0.size
  have hbm := HBM.out
  have hnn := HNN.out
  have lr3 := HR3.out.lt
  have lr2 := HR2.out.lt
  exact gdpart3 (g5 := wp.heap.size) ⟨ns,HE.out.below q1,(HR2.out.below HB.out HR2.out.lt).below q1 (by omega),(HR3.out.below HB.out HR3.out.lt).below q1 (by omega),Bk.new _ _ _⟩ (HM.out.kept (grown_of_below q1 none) (by simp)) (by omega) HC.out
set_option maxHeartbeats 4000000 in
set_option maxRecDepth 1000000 in
theorem gdpart1 {J : Jb} {sa : Option Addr} {sn sc : Nat} {w0 : World} {g1 g2 g3 : Nat} {w : World} {u0 u4 u5 u6 u7 u8 u9 A0 A1 A2 A3 A4 A5 A6 A7 A8 A9 Aa Ab Ac Ad Ae Af Ag Ah Ai Aj Ak Al Am An Ao Ap Aq : Value} (hs : NS J sa sn sc w0 g1 w) (h2 : Bk w g2 3 #[.int .i64 0]) (h3 : Bk w g3 39 #[.int .i64 0]) (hn : w0.heap.size ≤ g1 ∧ g1 < g2 ∧ g2 < g3) (hsn : sn = J.sh.length) (hm : sn ≤ 9223372036854775807) : Code.wp Try.prog gdrest1 (QGD J w0) ⟨#[u0,(.pointer (some ⟨g1,0,none⟩)),(.pointer (some ⟨g2,0,none⟩)),(.pointer (some ⟨g3,0,none⟩)),u4,u5,u6,u7,u8,u9,A0,A1,A2,A3,A4,A5,A6,A7,A8,A9,Aa,Ab,Ac,Ad,Ae,Af,Ag,Ah,Ai,Aj,Ak,Al,Am,An,Ao,Ap,Aq],[]⟩ w := by
  rw [gdrest1_eq]
  have HS := hidMk hs
  have HR2 := hidMk h2
  have HR3 := hidMk h3
  have HNN := hidMk hn
  have HSN := hidMk hsn
  clear hs h2 h3 hn hsn
  go_wp2_with (refine wpList_load_row rfl 30 _ rfl g1 rfl _ (jobC J (.slice sa sn sc)) _ _ HS.out.job Try.underlying30 rfl szJob ?_)
  refine (check_any J sa sn sc _ HSN.out hm HS.out.rg).mono ?_
  rintro e w1 ⟨rfl,hb1⟩
  have HS1 := hidMk (HS.out.next hb1)
  have k2 := HR2.out.below hb1 HR2.out.lt
  have k3 := HR3.out.below hb1 HR3.out.lt
  have HK2 := hidMk k2
  have HK3 := hidMk k3
  by_cases hc : J.check = 0
  · have hb0 : (J.check != 0) = false := by simp [hc]
    have HC := hidMk hc
    clear hc k2 k3 hb1
    go_wp2_with fail
    exact gdpart2 HS1.out HK2.out HK3.out HNN.out HSN.out HC.out
  · have hb0 : (J.check != 0) = true := by simpa using hc
    have e1 : guidedI J = (0,J.check) := by unfold guidedI; rw [if_neg hc]
    have HE := hidMk e1
    have f2 := k2.free 0
    have f3 := k3.free 0
    have hnn := HNN.out
    have hz0 := HS1.out.b0.size
    have e23 : g2 ≠ g3 := by omega
    have e32 : g3 ≠ g2 := by omega
    have c2 := k2.at_ 0 _ rfl
    have c3 := k3.at_ 0 _ rfl
    clear hc e1 k2 k3 hb1
    go_wp2_with fail
    unfold QGD
    have q : Below w0.heap.size w1 ((w1.setCell ⟨g2,0,none⟩ (.int .i64 0)).setCell ⟨g3,0,none⟩ (.int .i64 J.check)) := ((Below.refl _ _).setCell (by show w0.heap.size ≤ g2; omega) _).setCell (by show w0.heap.size ≤ g3; omega) _
    refine ⟨_,results_int2 Try.results12 _ _ _ _ _ _ _ _ rfl rfl ((HK2.out.put1 _).other (by show g2 ≠ g3; omega) _) ((HK3.out.other (p := ⟨g2,0,none⟩) (by show g3 ≠ g2; omega) _).put1 _) Try.underlying3 Try.underlying39,by rw [HE.out],HS1.out.b0.trans q⟩
set_option maxHeartbeats 4000000 in
set_option maxRecDepth 1000000 in
theorem guided_any (J : Jb) (sa : Option Addr) (sn sc : Nat) (w : World) (hn : sn = J.sh.length) (hm : sn ≤ 9223372036854775807) (h : Rg w w.heap.size sa J.sh) :
    Calls Try.prog 12 #[.agg (jobC J (.slice sa sn sc))] w fun e w' => e = .returned (.tuple #[.int .i64 (guidedI J).1,.int .i64 (guidedI J).2]) ∧ Below w.heap.size w w' := by
  have q0 : Below w.heap.size w (((w.alloc (.cells (jobC J (.slice sa sn sc)) 30)).alloc (.cells #[.int .i64 0] 3)).alloc (.cells #[.int .i64 0] 39)) := (((Below.refl _ _).alloc (Nat.le_refl _) _).alloc (by simp) _).alloc (by simp; omega) _
  have hs : NS J sa sn sc w w.heap.size (((w.alloc (.cells (jobC J (.slice sa sn sc)) 30)).alloc (.cells #[.int .i64 0] 3)).alloc (.cells #[.int .i64 0] 39)) := ⟨q0,((Bk.new _ _ _).alloc _).alloc _,h.below q0⟩
  have HS := hidMk hs
  have HN := hidMk hn
  clear q0 hs h hn
  refine (callsIn_wide (n := 3)).1 (callsIn_of_wp_marks Try.func12 rfl trivial ?_ rfl)
  simp only [Try.ntmps12,List.size_toArray,List.length_cons,List.length_nil,Nat.reduceAdd,Nat.reduceSub,Array.replicate_succ,Array.replicate_zero,List.push_toArray,List.append_toArray,List.nil_append,List.cons_append]
  refine wpIn_wide.2 ?_
  show Code.wp Try.prog gdbody (QGD J w) _ _
  rw [gdbody_eq]
  go_wp2_with fail
  exact gdpart1 HS.out ((Bk.newAt _ _ _ _ (by simp)).alloc _) (Bk.newAt _ _ _ _ (by simp)) (by omega) HN.out hm
end Go.Proofs.Ytadmcafbffjjbaa
namespace Go.Proofs.Ytadmcafbffjjbaa
set_option linter.all false
def inW (J : Jb) (t : Tg) : Bool := decide ((win J.wi J.sh).1 ≤ t.p1 ∧ t.p2 ≤ (win J.wi J.sh).2)
def knowsB (J : Jb) : Nat → Tg → Bool
  | 0,t => inW J t
  | k + 1,t => inW J t ||
    (decide (spoilI J.le (strk J t 1) = 2) && (readsL (strk J t 1).p1 (strk J t 1).p2 J.me).all fun r => knowsB J k { strk J t 1 with p1 := r.1,p2 := r.2 }) ||
    (decide (spoilI J.le (strk J t 2) = 2) && (readsL (strk J t 2).p1 (strk J t 2).p2 J.me).all fun r => knowsB J k { strk J t 2 with p1 := r.1,p2 := r.2 })
def readsB (J : Jb) (k : Nat) (t : Tg) : Bool := (readsL t.p1 t.p2 J.me).all fun r => knowsB J k { t with p1 := r.1,p2 := r.2 }
def makesB (J : Jb) (k : Nat) (t : Tg) (s : Int) : Bool := decide (spoilI J.le (strk J t s) = 2) && readsB J k (strk J t s)
theorem knowsB_succ (J : Jb) (k : Nat) (t : Tg) : knowsB J (k + 1) t = (inW J t || makesB J k t 1 || makesB J k t 2) := rfl
theorem worst_iff {f : Tg → Int} {t : Tg} {l : List R2} {k : Int} (h0 : 0 ≤ k) : worstOf f t l ≤ k + 1 ↔ ∀ r ∈ l,f { t with p1 := r.1,p2 := r.2 } ≤ k := by
  constructor
  · intro h r hr
    have h1 := worst_ge (f := f) (t := t) hr
    have h2 : 1 + f { t with p1 := r.1,p2 := r.2 } ≤ k + 1 := Int.le_trans h1 h
    exact Int.le_of_add_le_add_left (a := 1) (by rw [Int.add_comm 1 k]; exact h2)
  · intro h
    refine worst_le (by omega) fun r hr => ?_
    have h1 := h r hr
    rw [Int.add_comm k 1]
    exact Int.add_le_add_left h1 1
theorem reads_some {a b m : Int} (hab : a ≤ b) (hm : 0 ≤ m) : ∃ r,r ∈ readsL a b m := by
  refine ⟨_,List.mem_map.2 ⟨0,List.mem_range.2 (by omega),rfl⟩⟩
theorem worst_pos {f : Tg → Int} (hf : ∀ t,0 ≤ f t) {t : Tg} (hp : t.p1 ≤ t.p2) {m : Int} (hm : 0 ≤ m) : 1 ≤ worstOf f t (readsL t.p1 t.p2 m) := by
  obtain ⟨r,hr⟩ := reads_some hp hm
  have h1 := worst_ge (f := f) (t := t) hr
  have h2 := hf { t with p1 := r.1,p2 := r.2 }
  exact Int.le_trans (by have := Int.add_le_add_left h2 1; simpa using this) h1
theorem strk_p {J : Jb} (hu : J.u1 ≤ J.u2 ∧ J.d1 ≤ J.d2) {t : Tg} (hp : t.p1 ≤ t.p2) (s : Int) : (strk J t s).p1 ≤ (strk J t s).p2 := by
  unfold strk
  split
  · simp only; omega
  · split
    · simp only; omega
    · exact hp
theorem knows_best {J : Jb} (hu : J.u1 ≤ J.u2 ∧ J.d1 ≤ J.d2) (hm : 0 ≤ J.me) : ∀ (K k : Nat),k ≤ K → K ≤ 4 → ∀ t : Tg,t.p1 ≤ t.p2 → (knowsB J k t = true ↔ (bestM J K t).2 ≤ k)
  | 0,k,hk,_,t,hp => by
    obtain rfl : k = 0 := by omega
    unfold knowsB inW
    rw [decide_eq_true_iff]
    by_cases c : (win J.wi J.sh).1 ≤ t.p1 ∧ t.p2 ≤ (win J.wi J.sh).2
    · rw [best_in c]; simp [c]
    · have : (bestM J 0 t).2 = 5 := by unfold bestM; rw [if_neg c]
      rw [this]
      constructor
      · intro h; exact absurd h c
      · intro h; omega
  | K + 1,k,hk,hK,t,hp => by
    have hf : ∀ t,0 ≤ (bestM J K t).2 := fun t => (best_bound J K t).1
    by_cases c : (win J.wi J.sh).1 ≤ t.p1 ∧ t.p2 ≤ (win J.wi J.sh).2
    · rw [best_in c]
      have hi : inW J t = true := decide_eq_true c
      cases k with
      | zero => simp [knowsB,hi]
      | succ k => simp [knowsB_succ,hi]; omega
    · have hi : inW J t = false := decide_eq_false c
      cases k with
      | zero =>
        constructor
        · intro h; unfold knowsB at h; rw [hi] at h; cases h
        · intro h
          rcases best_cases (k := K) c with e | ⟨s,h12,hs,e,-⟩
          · rw [e] at h; simp at h
          · rw [e] at h
            have := worst_pos hf (strk_p hu hp s) hm
            simp only at h
            omega
      | succ k =>
        have key : ∀ s : Int,(makesB J k t s = true ↔ spoilI J.le (strk J t s) = 2 ∧ worstOf (fun t => (bestM J K t).2) (strk J t s) (readsL (strk J t s).p1 (strk J t s).p2 J.me) ≤ (k : Int) + 1) := by
          intro s
          unfold makesB readsB
          rw [Bool.and_eq_true,decide_eq_true_iff,List.all_eq_true,worst_iff (by omega)]
          refine and_congr_right fun _ => ?_
          refine forall_congr' fun r => ?_
          refine imp_congr_right fun hr => ?_
          exact knows_best hu hm K k (by omega) (by omega) { strk J t s with p1 := r.1,p2 := r.2 } (reads_in (strk_p hu hp s) hm hr).2.1
        rw [knowsB_succ,hi]
        simp only [Bool.false_or,Bool.or_eq_true]
        rw [key 1,key 2]
        constructor
        · rintro (⟨h1,h2⟩ | ⟨h1,h2⟩)
          · have := best_stroke (J := J) (k := K) (s := 1) (.inl rfl) c h1
            push_cast; omega
          · have := best_stroke (J := J) (k := K) (s := 2) (.inr rfl) c h1
            push_cast; omega
        · intro h
          rcases best_cases (k := K) c with e | ⟨s,h12,hs,e,-⟩
          · rw [e] at h; simp only at h; push_cast at h; omega
          · rw [e] at h
            simp only at h
            push_cast at h
            rcases h12 with rfl | rfl
            · exact .inl ⟨hs,h⟩
            · exact .inr ⟨hs,h⟩
end Go.Proofs.Ytadmcafbffjjbaa
namespace Go.Proofs.Ytadmcafbffjjbaa
set_option linter.all false
open Go.RowKit
theorem reads_in' {a b m : Int} {t : Tg} (hp : a ≤ b) (hm : 0 ≤ m) {r : R2} (hr : r ∈ readsL a b m) : ({ t with p1 := r.1,p2 := r.2 } : Tg).p1 ≤ ({ t with p1 := r.1,p2 := r.2 } : Tg).p2 := (reads_in hp hm hr).2.1

def capk (k : Nat) (v : Int) : Int := if v ≤ (k : Int) then v else (k : Int) + 1
def gT (J : Jb) (t : Tg) : Int := (readsL t.p1 t.p2 J.me).foldl (fun m r => mx m (bestM J 4 { t with p1 := r.1,p2 := r.2 }).2) 0
theorem mx_le {a b c : Int} : mx a b ≤ c ↔ a ≤ c ∧ b ≤ c := by unfold mx; split <;> omega
theorem fold_le_iff {α : Type} (f : α → Int) (b : Int) : ∀ (l : List α) (m : Int),l.foldl (fun m r => mx m (f r)) m ≤ b ↔ m ≤ b ∧ ∀ r ∈ l,f r ≤ b
  | [],m => by simp
  | x :: l,m => by
    rw [List.foldl_cons,fold_le_iff f b l (mx m (f x)),mx_le]
    simp only [List.mem_cons,forall_eq_or_imp]
    exact and_assoc
theorem mx_cap (k : Nat) (a b : Int) : mx (capk k a) (capk k b) = capk k (mx a b) := by
  unfold mx capk
  repeat' split
  all_goals omega
theorem fold_cap {α : Type} (k : Nat) (f : α → Int) : ∀ (l : List α) (m : Int),l.foldl (fun m r => mx m (capk k (f r))) (capk k m) = capk k (l.foldl (fun m r => mx m (f r)) m)
  | [],m => rfl
  | x :: l,m => by
    rw [List.foldl_cons,List.foldl_cons,mx_cap]
    exact fold_cap k f l (mx m (f x))
theorem fold_mono {α : Type} (f : α → Int) : ∀ (l : List α) (m : Int),m ≤ l.foldl (fun m r => mx m (f r)) m
  | [],m => Int.le_refl _
  | x :: l,m => by
    rw [List.foldl_cons]
    exact Int.le_trans (by unfold mx; split <;> omega) (fold_mono f l _)
theorem gT_le {J : Jb} {t : Tg} {n : Int} (hn : 0 ≤ n) : gT J t ≤ n ↔ ∀ r ∈ readsL t.p1 t.p2 J.me,(bestM J 4 { t with p1 := r.1,p2 := r.2 }).2 ≤ n := by
  unfold gT
  rw [fold_le_iff (fun r : R2 => (bestM J 4 { t with p1 := r.1,p2 := r.2 }).2)]
  exact ⟨fun h => h.2,fun h => ⟨hn,h⟩⟩
theorem gT_nn (J : Jb) (t : Tg) : 0 ≤ gT J t := fold_mono _ _ 0
theorem reads_gT {J : Jb} (hu : J.u1 ≤ J.u2 ∧ J.d1 ≤ J.d2) (hm : 0 ≤ J.me) {t : Tg} (hp : t.p1 ≤ t.p2) (n : Nat) (hn : n ≤ 4) : readsB J n t = true ↔ gT J t ≤ n := by
  rw [gT_le (Int.natCast_nonneg n)]
  unfold readsB
  rw [List.all_eq_true]
  constructor
  · intro h r hr
    exact (knows_best hu hm 4 n hn (by omega) _ (reads_in' hp hm hr)).1 (h r hr)
  · intro h r hr
    exact (knows_best hu hm 4 n hn (by omega) _ (reads_in' hp hm hr)).2 (h r hr)
theorem best_step {J : Jb} (hu : J.u1 ≤ J.u2 ∧ J.d1 ≤ J.d2) (hm : 0 ≤ J.me) {t : Tg} (hp : t.p1 ≤ t.p2) (hw : inW J t = false) (n : Nat) (hn : n ≤ 3) :
    (bestM J 4 t).2 ≤ (n : Int) + 1 ↔ (spoilI J.le (strk J t 1) = 2 ∧ gT J (strk J t 1) ≤ n) ∨ (spoilI J.le (strk J t 2) = 2 ∧ gT J (strk J t 2) ≤ n) := by
  have h := knows_best hu hm 4 (n + 1) (by omega) (by omega) t hp
  push_cast at h
  rw [← h,knowsB_succ,hw,Bool.false_or,Bool.or_eq_true]
  unfold makesB
  rw [Bool.and_eq_true,Bool.and_eq_true,decide_eq_true_eq,decide_eq_true_eq,reads_gT hu hm (strk_p hu hp 1) n (by omega),reads_gT hu hm (strk_p hu hp 2) n (by omega)]
theorem best_pos {J : Jb} (hu : J.u1 ≤ J.u2 ∧ J.d1 ≤ J.d2) (hm : 0 ≤ J.me) {t : Tg} (hp : t.p1 ≤ t.p2) (hw : inW J t = false) : 1 ≤ (bestM J 4 t).2 := by
  have h := knows_best hu hm 4 0 (by omega) (by omega) t hp
  have h2 : knowsB J 0 t = inW J t := rfl
  rw [h2,hw] at h
  simp at h
  omega
def needB (J : Jb) (k : Nat) (t : Tg) : Int :=
  if spoilI J.le (strk J t 2) = 2 then mn (if spoilI J.le (strk J t 1) = 2 then mn ((k : Int) + 2) (1 + capk k (gT J (strk J t 1))) else (k : Int) + 2) (1 + capk k (gT J (strk J t 2)))
  else if spoilI J.le (strk J t 1) = 2 then mn ((k : Int) + 2) (1 + capk k (gT J (strk J t 1))) else (k : Int) + 2
theorem cap_le {k : Nat} {v : Int} {n : Nat} (hn : n ≤ k) : capk k v ≤ n ↔ v ≤ n := by unfold capk; split <;> omega
theorem cap_top (k : Nat) (v : Int) : capk k v ≤ (k : Int) + 1 := by unfold capk; split <;> omega
theorem cap_nn (k : Nat) {v : Int} (h : 0 ≤ v) : 0 ≤ capk k v := by unfold capk; split <;> omega
theorem cap_same {k : Nat} {a v : Int} (h1 : a ≤ (k : Int) + 1) (h0 : 1 ≤ a) (h2 : 1 ≤ v) (h : ∀ n : Nat,n + 1 ≤ k → (a ≤ (n : Int) + 1 ↔ v ≤ (n : Int) + 1)) : a = capk k v := by
  have key : ∀ n : Nat,1 ≤ n → n ≤ k → (a ≤ (n : Int) ↔ v ≤ (n : Int)) := by
    intro n h1 h2
    have := h (n - 1) (by omega)
    rw [show ((n - 1 : Nat) : Int) + 1 = (n : Int) from by omega] at this
    exact this
  unfold capk
  by_cases hv : v ≤ (k : Int)
  · rw [if_pos hv]
    have h3 := (key v.toNat (by omega) (by omega)).2 (by omega)
    have h4 : a ≤ v := by omega
    have h5 := (key a.toNat (by omega) (by omega)).1 (by omega)
    omega
  · rw [if_neg hv]
    by_cases ha : a ≤ (k : Int)
    · have := (key a.toNat (by omega) (by omega)).1 (by omega)
      omega
    · omega
theorem mn_le {a b c : Int} : mn a b ≤ c ↔ a ≤ c ∨ b ≤ c := by unfold mn; split <;> omega
theorem le_mn {a b c : Int} : c ≤ mn a b ↔ c ≤ a ∧ c ≤ b := by unfold mn; split <;> omega
theorem need_best {J : Jb} (hu : J.u1 ≤ J.u2 ∧ J.d1 ≤ J.d2) (hm : 0 ≤ J.me) {t : Tg} (hp : t.p1 ≤ t.p2) (hw : inW J t = false) (k : Nat) (hk : k ≤ 3) : needB J k t = capk (k + 1) (bestM J 4 t).2 := by
  have g1 := cap_nn k (gT_nn J (strk J t 1))
  have g2 := cap_nn k (gT_nn J (strk J t 2))
  have key : needB J k t ≤ (k : Int) + 2 ∧ 1 ≤ needB J k t ∧ ∀ n : Nat,n ≤ k → (needB J k t ≤ (n : Int) + 1 ↔ (spoilI J.le (strk J t 1) = 2 ∧ capk k (gT J (strk J t 1)) ≤ n) ∨ (spoilI J.le (strk J t 2) = 2 ∧ capk k (gT J (strk J t 2)) ≤ n)) := by
    unfold needB
    generalize capk k (gT J (strk J t 1)) = a1 at g1 ⊢
    generalize capk k (gT J (strk J t 2)) = a2 at g2 ⊢
    by_cases s1 : spoilI J.le (strk J t 1) = 2
    · by_cases s2 : spoilI J.le (strk J t 2) = 2
      · simp only [s1,s2,↓reduceIte,true_and,mn_le,le_mn]
        exact ⟨by omega,by omega,fun n hn => by omega⟩
      · simp only [s1,s2,↓reduceIte,true_and,false_and,or_false,mn_le,le_mn]
        exact ⟨by omega,by omega,fun n hn => by omega⟩
    · by_cases s2 : spoilI J.le (strk J t 2) = 2
      · simp only [s1,s2,↓reduceIte,true_and,false_and,false_or,mn_le,le_mn]
        exact ⟨by omega,by omega,fun n hn => by omega⟩
      · simp only [s1,s2,↓reduceIte,false_and,or_false]
        exact ⟨by omega,by omega,fun n hn => ⟨fun h => by omega,fun h => by cases h⟩⟩
  obtain ⟨k1,k2,k3⟩ := key
  refine cap_same (by push_cast; omega) k2 (best_pos hu hm hp hw) fun n hn => ?_
  rw [best_step hu hm hp hw n (by omega),k3 n (by omega),cap_le (v := gT J (strk J t 1)) (show n ≤ k by omega),cap_le (v := gT J (strk J t 2)) (show n ≤ k by omega)]
end Go.Proofs.Ytadmcafbffjjbaa
namespace Go.Proofs.Ytadmcafbffjjbaa
set_option linter.all false
open Go.RowKit

end Go.Proofs.Ytadmcafbffjjbaa
namespace Go.Proofs.Ytadmcafbffjjbaa
set_option linter.all false
open Go.RowKit

end Go.Proofs.Ytadmcafbffjjbaa
namespace Go.Proofs.Ytadmcafbffjjbaa
set_option linter.all false
open Go.RowKit
structure CS (w0 : World) (g : Nat) (J : Jb) (a : Option Addr) (n c : Nat) (w : World) : Prop where
  job : Bk w g 30 (jobC J (.slice a n c))
  b0 : Below w0.heap.size w0 w
  rg : Rg w0 w0.heap.size a J.sh
  en : n = J.sh.length
  nm : n ≤ 9223372036854775807
theorem CS.next {w0 w w' : World} {g : Nat} {J : Jb} {a : Option Addr} {n c : Nat} (h : CS w0 g J a n c w) (hb : Below w.heap.size w w') : CS w0 g J a n c w' :=
  ⟨h.job.below hb h.job.lt,h.b0.trans (hb.mono h.b0.size),h.rg,h.en,h.nm⟩
end Go.Proofs.Ytadmcafbffjjbaa
namespace Go.Proofs.Ytadmcafbffjjbaa
set_option linter.all false
open Go.RowKit
end Go.Proofs.Ytadmcafbffjjbaa
namespace Go.Proofs.Ytadmcafbffjjbaa
set_option linter.all false
open Go.RowKit
def tgV (t : Tg) : Array Value := #[.int .i64 t.p1,.int .i64 t.p2,.int .i64 t.t1,.int .i64 t.t2,.int .i64 t.r1,.int .i64 t.r2]
end Go.Proofs.Ytadmcafbffjjbaa
namespace Go.Proofs.Ytadmcafbffjjbaa
set_option linter.all false
open Go.RowKit
end Go.Proofs.Ytadmcafbffjjbaa
namespace Go.Proofs.Ytadmcafbffjjbaa
set_option linter.all false
open Go.RowKit
structure KS (G : Jb) (t : Tg) (sa : Option Addr) (sn sc : Nat) (w0 : World) (g3 g4 : Nat) (w : World) : Prop where
  ns : NS G sa sn sc w0 g3 w
  tg : Bk w g4 25 (tgV t)
theorem KS.next {G : Jb} {t : Tg} {sa : Option Addr} {sn sc : Nat} {w0 : World} {g3 g4 : Nat} {w w' : World} (h : KS G t sa sn sc w0 g3 g4 w) (hb : Below w.heap.size w w') : KS G t sa sn sc w0 g3 g4 w' := ⟨h.ns.next hb,h.tg.below hb h.tg.lt⟩
end Go.Proofs.Ytadmcafbffjjbaa
namespace Go.Proofs.Ytadmcafbffjjbaa
set_option linter.all false
open Go.RowKit Go.Shelf
theorem KS.drew {G : Jb} {t : Tg} {sa : Option Addr} {sn sc : Nat} {w0 : World} {g3 g4 : Nat} {w : World} (h : KS G t sa sn sc w0 g3 g4 w) : KS G t sa sn sc w0 g3 g4 w.drew := h.next (Below.refl _ _).drew
end Go.Proofs.Ytadmcafbffjjbaa
namespace Go.Proofs.Ytadmcafbffjjbaa
set_option linter.all false
open Go.RowKit
end Go.Proofs.Ytadmcafbffjjbaa
namespace Go.Proofs.Ytadmcafbffjjbaa
set_option linter.all false
open Go.RowKit
section
variable {P : Program} {ops : Array Oper} {Q : Exit → Act → World → Prop} {a : Act} {w : World} {i : Nat} {rest : List Nat} {o : Oper}
theorem wp_region_l {id : Nat} (l : List Nat) (hl : List.range ops.size = l) (h : wpOps P ops Q l a w) : (Code.region id ops false).wp P Q a w := wp_region (by rw [hl]; exact h)
theorem opsL_take {v : Value} (ho : ops[i]? = some o) (hw : Region.wanted o (yielded ops a.tmps) = true) (hv : (execOp a.eval o).run P w = .ok (.value v) w) (h : wpOps P ops Q rest (a.put o.dst v) w) : wpOps P ops Q (i :: rest) a w := by
  simp only [wpOps,ho,hw,if_true]
  exact .inl (by simp only [Oper.wp,hv,Oper.upon]; exact h)
theorem opsL_skip (ho : ops[i]? = some o) (hw : Region.wanted o (yielded ops a.tmps) = false) (h : wpOps P ops Q rest (a.put o.dst undef) w) : wpOps P ops Q (i :: rest) a w := by
  simp only [wpOps,ho,hw,if_false,Bool.false_eq_true]
  exact h
end
end Go.Proofs.Ytadmcafbffjjbaa
namespace Go.Proofs.Ytadmcafbffjjbaa
set_option linter.all false
open Go.RowKit
theorem hL_take {P : Program} {ops : Array Oper} {Q : Exit → Act → World → Prop} {rest : List Nat} {i : Nat} {o : Oper} {a : Act} {w : World} {v : Value} (ho : ops[i]? = some o) (hw : Region.wanted o (yielded ops a.tmps) = true) (hv : (execOp a.eval o).run P w = .ok (.value v) w) (h : Hid (wpOps P ops Q rest (a.put o.dst v) w)) : Hid (wpOps P ops Q (i :: rest) a w) := hidMk (opsL_take ho hw hv h.out)
theorem hL_skip {P : Program} {ops : Array Oper} {Q : Exit → Act → World → Prop} {a : Act} {w : World} {i : Nat} {rest : List Nat} {o : Oper} (ho : ops[i]? = some o) (hw : Region.wanted o (yielded ops a.tmps) = false) (h : Hid (wpOps P ops Q rest (a.put o.dst undef) w)) : Hid (wpOps P ops Q (i :: rest) a w) := hidMk (opsL_skip ho hw h.out)
theorem hL_skipD {P : Program} {ops : Array Oper} {Q : Exit → Act → World → Prop} {a : Act} {w : World} {i : Nat} {rest : List Nat} (d : Option Nat) (ho : (ops[i]?.map fun o => (o.dst,Region.wanted o (yielded ops a.tmps))) = some (d,false)) (h : Hid (wpOps P ops Q rest (a.put d undef) w)) : Hid (wpOps P ops Q (i :: rest) a w) := by
  cases hq : ops[i]? with
  | none => rw [hq] at ho; cases ho
  | some o =>
    rw [hq] at ho
    simp only [Option.map_some,Option.some.injEq,Prod.mk.injEq] at ho
    obtain ⟨rfl,h2⟩ := ho
    exact hL_skip hq h2 h
end Go.Proofs.Ytadmcafbffjjbaa
