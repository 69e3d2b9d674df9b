/- Part 3 of the proof: BmD, ReadB, BmE, BmF, BmG. -/
import Derived.IntWalk
import Derived.Test.YtadmcafbffjjbaaE02
import Derived.Test.YtadmcafbffjjbaaE01
namespace Go.Proofs.Ytadmcafbffjjbaa
set_option linter.all false
open Go.RowKit Go.Shelf
theorem SR.env {J : Jb} {s : Value} {Bw Bf Bj Bb bm k cnt : Nat} {t : Tg} {W : World} {g5 g6 g7 g9 : Nat} {m : Int × Int} {T : Tg} {g12 g13 c lo hi : Nat} {ds : List Deferred} {x : R2} {X0 X : World} (h : SR J s Bw Bf Bj Bb bm k t W g5 g6 g7 g9 m T g12 g13 c lo hi ds x X0 X) (HE : Env J s Bw Bf Bj Bb bm W) (HM : Memo J W bm cnt) : Env J s Bw Bf Bj Bb bm X := HE.grown HM h.bs.gr
theorem SR.call {J : Jb} {s : Value} {Bw Bf Bj Bb bm k : Nat} {t : Tg} {W : World} {g5 g6 g7 g9 : Nat} {m : Int × Int} {T : Tg} {g12 g13 c c' lo hi : Nat} {ds : List Deferred} {x : R2} {X0 X Y : World} (h : SR J s Bw Bf Bj Bb bm k t W g5 g6 g7 g9 m T g12 g13 c lo hi ds x X0 X) (hg : X.grownBy Y (some bm)) (hm : ∃ d,d ≤ c' ∧ Memo J Y bm d) (hn : g12 ≠ bm ∧ g13 ≠ bm) (hlo : bm < lo) : SR J s Bw Bf Bj Bb bm k t W g5 g6 g7 g9 m T g12 g13 c' lo hi ds x X0 Y := by
  obtain ⟨z,hz⟩ := h.val
  exact ⟨h.stp.trans (.grown hg),h.bs.grown hg,⟨fun d hd => by
    obtain ⟨D,e,h1,h2,h3⟩ := h.ds.1 d hd
    exact ⟨D,e,h1,h2,(hg.block D (Array.getElem?_eq_some_iff.1 h3).1 (fun e' => by injection e' with e'; omega)).trans h3⟩,h.ds.2⟩,hm,h.next.grown hg (by intro e; injection e with e; exact hn.1 e),⟨z,hz.grown hg (by intro e; injection e with e; exact hn.2 e)⟩⟩
theorem SR.more {J : Jb} {s : Value} {Bw Bf Bj Bb bm k : Nat} {t : Tg} {W : World} {g5 g6 g7 g9 : Nat} {m : Int × Int} {T : Tg} {g12 g13 c c' lo hi : Nat} {ds : List Deferred} {x : R2} {X0 X : World} (h : SR J s Bw Bf Bj Bb bm k t W g5 g6 g7 g9 m T g12 g13 c lo hi ds x X0 X) (hc : c ≤ c') : SR J s Bw Bf Bj Bb bm k t W g5 g6 g7 g9 m T g12 g13 c' lo hi ds x X0 X := by
  obtain ⟨d,hd,hm⟩ := h.memo
  exact ⟨h.stp,h.bs,h.ds,⟨d,by omega,hm⟩,h.next,h.val⟩
theorem SR.ne {J : Jb} {s : Value} {Bw Bf Bj Bb bm k : Nat} {t : Tg} {W : World} {g5 g6 g7 g9 : Nat} {m : Int × Int} {T : Tg} {g12 g13 c lo hi : Nat} {ds : List Deferred} {x : R2} {X0 X : World} (h : SR J s Bw Bf Bj Bb bm k t W g5 g6 g7 g9 m T g12 g13 c lo hi ds x X0 X) : g12 ≠ g13 := by
  rintro rfl
  obtain ⟨z,hz⟩ := h.val
  have a := h.next
  unfold Bk at a hz
  rw [a] at hz
  simp [jobC] at hz
theorem SR.store {J : Jb} {s : Value} {Bw Bf Bj Bb bm k : Nat} {t : Tg} {W : World} {g5 g6 g7 g9 : Nat} {m : Int × Int} {T : Tg} {g12 g13 c lo hi : Nat} {ds : List Deferred} {x : R2} {X0 X : World} (h : SR J s Bw Bf Bj Bb bm k t W g5 g6 g7 g9 m T g12 g13 c lo hi ds x X0 X)
    (hf : (W.heap.size ≤ g12 ∧ g12 ≠ g5 ∧ g12 ≠ g6 ∧ g12 ≠ g7 ∧ g12 ≠ g9) ∧ (W.heap.size ≤ g13 ∧ g13 ≠ g5 ∧ g13 ≠ g6 ∧ g13 ≠ g7 ∧ g13 ≠ g9)) (hlo : bm < lo) (v : Value) : SR J s Bw Bf Bj Bb bm k t W g5 g6 g7 g9 m T g12 g13 c lo hi ds x X0 (X.setCell ⟨g13,0,none⟩ v) := by
  have q : Stp bm g12 g13 X (X.setCell ⟨g13,0,none⟩ v) := Stp.cell _ _ (.inr rfl)
  obtain ⟨z,hz⟩ := h.val
  obtain ⟨d,hd,hm⟩ := h.memo
  have hlm := h.bs.lm
  obtain ⟨e0,e1⟩ := hf
  exact ⟨h.stp.trans q,h.bs.stp q (.inr e0) (.inr e1),h.ds.stp q hlo h.next hz,⟨d,hd,hm.kept (grownBy_setCell' X g13 v) (by intro e; injection e with e; omega)⟩,h.next.other (by exact h.ne) _,⟨v,hz.put1 v⟩⟩
theorem SR.drew {J : Jb} {s : Value} {Bw Bf Bj Bb bm k : Nat} {t : Tg} {W : World} {g5 g6 g7 g9 : Nat} {m : Int × Int} {T : Tg} {g12 g13 c lo hi : Nat} {ds : List Deferred} {x : R2} {X0 X : World} (h : SR J s Bw Bf Bj Bb bm k t W g5 g6 g7 g9 m T g12 g13 c lo hi ds x X0 X) : SR J s Bw Bf Bj Bb bm k t W g5 g6 g7 g9 m T g12 g13 c lo hi ds x X0 X.drew := by
  obtain ⟨z,hz⟩ := h.val
  obtain ⟨d,hd,hm⟩ := h.memo
  exact ⟨h.stp.drew,h.bs.below (Below.refl _ _).drew,h.ds,⟨d,hd,hm.kept (row := none) ⟨rfl,rfl,rfl,Nat.le_refl _,fun _ _ _ => rfl⟩ (by simp)⟩,h.next,⟨z,hz⟩⟩
theorem grownBy_setCellA (W : World) (b i : Nat) (v : Value) : W.grownBy (W.setCell ⟨b,i,none⟩ v) (some b) := ⟨by unfold World.setCell; split <;> rfl,by unfold World.setCell; split <;> rfl,by unfold World.setCell; split <;> rfl,by rw [size_setCell']; exact Nat.le_refl _,fun k _ hk => Below.heap_setCell W _ v k (fun e => hk (by rw [e]))⟩
attribute [local go_sem] Oper.semAt_some
set_option maxHeartbeats 4000000 in
set_option maxRecDepth 1000000 in
theorem bm_round {J : Jb} {s : Value} {Bw Bf Bj Bb bm k cnt : Nat} {t : Tg} {W : World} {g5 g6 g7 g9 : Nat} {m : Int × Int} {T : Tg} {g12 g13 g14 c lo hi B Bp Bm l n : Nat} {ds : List Deferred} {pre : List R2} {x : R2} {X : World} {u0 u6 u8 u9 A0 A1 A5 A6 A7 A8 A9 Aa Ab Ac Ad Ae Af Ag Ah Ai Aj Ak Al Am An Ao Ap Aq Ar As At Au Av Aw Ax Ay Az C0 C1 C2 C3 C4 C5 C6 C7 C8 C9 Ca Cb Cc Cd Ce Cf Cg Ch Ci Cj Ck Cl Cm Cn Co Cp Cq Cr Cs Ct Cu Cv Cw Cx Cy Cz D0 D1 D2 D3 D4 D5 : Value}
    (ih : BestOK J s Bw Bf Bj Bb bm k) (HE : Env J s Bw Bf Bj Bb bm W) (HM : Memo J W bm cnt) (hI : IR J s bm k t W g5 g6 g7 g9 m T g12 g13 c lo hi ds pre X) (h14 : Bk X g14 23 #[.int .i64 x.1,.int .i64 x.2]) (hTx : TgIn k { T with p1 := x.1,p2 := x.2 }) (hcs : c + (pre.length + 1) * cost k ≤ 1000000000000000) (hk4 : k ≤ 4)
    (hf : (W.heap.size ≤ g12 ∧ g12 ≠ g5 ∧ g12 ≠ g6 ∧ g12 ≠ g7 ∧ g12 ≠ g9) ∧ (W.heap.size ≤ g13 ∧ g13 ≠ g5 ∧ g13 ≠ g6 ∧ g13 ≠ g7 ∧ g13 ≠ g9)) (hbB : bm < B) (hp1 : Bp < X.heap.size ∧ Bp ≠ bm ∧ Bp ≠ g12 ∧ Bp ≠ g13) (hp2 : Bm < X.heap.size ∧ Bm ≠ bm ∧ Bm ≠ g12 ∧ Bm ≠ g13) (hlo : bm < lo) : Code.wpIn (Fence.wide.inRound l) n Try.prog rfb (ownPostG B (KpB Bp Bm) (IR J s bm k t W g5 g6 g7 g9 m T g12 g13 c lo hi ds) (IX J s bm k t W g5 g6 g7 g9 m T c lo hi ds) (pre ++ [x]) X) ⟨#[u0,(.pointer (some ⟨Bw,0,none⟩)),(.pointer (some ⟨Bf,0,none⟩)),(.pointer (some ⟨Bj,0,none⟩)),(.pointer (some ⟨Bb,0,none⟩)),(.pointer (some ⟨g5,0,none⟩)),u6,(.pointer (some ⟨g7,0,none⟩)),u8,u9,A0,A1,(.pointer (some ⟨g12,0,none⟩)),(.pointer (some ⟨g13,0,none⟩)),(.pointer (some ⟨g14,0,none⟩)),A5,A6,A7,A8,A9,Aa,Ab,Ac,Ad,Ae,Af,Ag,Ah,Ai,Aj,Ak,Al,Am,An,Ao,Ap,Aq,Ar,As,At,Au,Av,Aw,Ax,Ay,Az,C0,C1,C2,C3,C4,C5,C6,C7,C8,C9,Ca,Cb,Cc,Cd,Ce,Cf,Cg,Ch,Ci,Cj,Ck,Cl,Cm,Cn,Co,Cp,Cq,Cr,Cs,Ct,Cu,Cv,Cw,Cx,Cy,Cz,D0,D1,D2,D3,D4,D5],[]⟩ X := by
  rw [rfb_eq]
  obtain ⟨p1,p2,hnx⟩ := hI.next
  have a0 := h14.at_ 0 _ rfl
  have a1 := h14.at_ 1 _ rfl
  have z0 := hnx.at_ 0 _ rfl
  have z1 := hnx.at_ 1 _ rfl
  have f0 := hnx.free 0
  have f1 := hnx.free 1
  have hNX := hidMk hnx
  have HI := hidMk hI
  have hcs := hidMk hcs
  have hTx := hidMk hTx
  have hF := hidMk hf
  have hP1 := hidMk hp1
  have hP2 := hidMk hp2
  have hbB := hidMk hbB
  have hlo := hidMk hlo
  clear hI h14 hf hp1 hp2 hnx
  gi_wp2_with fail
  have hS0 : SR J s Bw Bf Bj Bb bm k t W g5 g6 g7 g9 m T g12 g13 (c + pre.length * cost k) lo hi ds x X ((X.setCell ⟨g12,0,none⟩ (.int .i64 x.1)).setCell ⟨g12,1,none⟩ (.int .i64 x.2)) := by
    have q1 : Stp bm g12 g13 X ((X.setCell ⟨g12,0,none⟩ (.int .i64 x.1)).setCell ⟨g12,1,none⟩ (.int .i64 x.2)) := (Stp.cell (g := g12) (h := g13) ⟨g12,0,none⟩ _ (.inl rfl)).trans (Stp.cell ⟨g12,1,none⟩ _ (.inl rfl))
    obtain ⟨e0,e1⟩ := hF.out
    have hbW := HI.out.bs.lm
    obtain ⟨cc,hcc,hmm⟩ := HI.out.memo
    have n12 : g12 ≠ bm := by omega
    have hne : g13 ≠ g12 := by
      rintro rfl
      have a := hNX.out
      have b := HI.out.val
      unfold Bk at a b
      rw [a] at b
      simp [jobC] at b
    refine ⟨q1,HI.out.bs.stp q1 (.inr e0) (.inr e1),HI.out.ds.stp q1 hlo.out hNX.out HI.out.val,⟨cc,hcc,?_⟩,(hNX.out.put 0 (.int .i64 x.1)).put 1 (.int .i64 x.2),⟨_,(HI.out.val.other (by exact hne) _).other (by exact hne) _⟩⟩
    exact (hmm.kept (grownBy_setCellA X g12 0 _) (by intro e; injection e with e; omega)).kept (grownBy_setCellA _ g12 1 _) (by intro e; injection e with e; omega)
  have hV0 : Bk ((X.setCell ⟨g12,0,none⟩ (.int .i64 x.1)).setCell ⟨g12,1,none⟩ (.int .i64 x.2)) g13 3 #[.int .i64 (wv J k T pre)] := by
    have hne : g13 ≠ g12 := by
      rintro rfl
      have a := hNX.out
      have b := HI.out.val
      unfold Bk at a b
      rw [a] at b
      simp [jobC] at b
    exact (HI.out.val.other (by exact hne) _).other (by exact hne) _
  generalize ((X.setCell ⟨g12,0,none⟩ (.int .i64 x.1)).setCell ⟨g12,1,none⟩ (.int .i64 x.2)) = Y at hS0 hV0 ⊢
  have hNX2 := hNX
  clear a0 a1 z0 z1 f0 f1 hNX
  have hSd : SR J s Bw Bf Bj Bb bm k t W g5 g6 g7 g9 m T g12 g13 (c + (pre.length + 1) * cost k) lo hi ds x X Y.drew := hS0.drew.more (by rw [Nat.add_mul]; omega)
  refine region_inRound (fun a' w' => ∃ (v63 v64 v65 v66 v67 v68 v69 v70 v71 v72 v73 v74 v75 : Value),a' = ⟨#[u0,(.pointer (some ⟨Bw,0,none⟩)),(.pointer (some ⟨Bf,0,none⟩)),(.pointer (some ⟨Bj,0,none⟩)),(.pointer (some ⟨Bb,0,none⟩)),(.pointer (some ⟨g5,0,none⟩)),u6,(.pointer (some ⟨g7,0,none⟩)),u8,u9,A0,A1,(.pointer (some ⟨g12,0,none⟩)),(.pointer (some ⟨g13,0,none⟩)),(.pointer (some ⟨g14,0,none⟩)),A5,A6,A7,A8,A9,Aa,Ab,Ac,Ad,Ae,Af,Ag,Ah,Ai,Aj,Ak,Al,Am,An,Ao,Ap,Aq,Ar,As,At,Au,Av,Aw,Ax,Ay,Az,C0,C1,C2,C3,C4,C5,C6,C7,C8,C9,Ca,Cb,Cc,(.agg #[.int .i64 x.1,.int .i64 x.2]),(.pointer (some ⟨g12,0,none⟩)),(.pointer (some ⟨g12,0,none⟩)),(.pointer (some ⟨g12,0,none⟩)),v63,v64,v65,v66,v67,v68,v69,v70,v71,v72,v73,v74,v75,Cu,Cv,Cw,Cx,Cy,Cz,D0,D1,D2,D3,D4,D5],[]⟩ ∧ SR J s Bw Bf Bj Bb bm k t W g5 g6 g7 g9 m T g12 g13 (c + (pre.length + 1) * cost k) lo hi ds x X w' ∧ Bk w' g13 3 #[.int .i64 (wv J k T (pre ++ [x]))]) (fun w' => SR J s Bw Bf Bj Bb bm k t W g5 g6 g7 g9 m T g12 g13 (c + (pre.length + 1) * cost k) lo hi ds x X w') (by kernel_rfl) (by kernel_rfl) hSd (fun hS => ?_) ?_
  · have hV := hV0.drew
    have hMt : Hid (∃ cc,cc ≤ c + pre.length * cost k ∧ Memo J Y.drew bm cc) := hidMk hS0.drew.memo
    have hmul : Hid ((pre.length + 1) * cost k = pre.length * cost k + cost k) := hidMk (by rw [Nat.add_mul,Nat.one_mul])
    have hbms : Hid (g12 ≠ bm ∧ g13 ≠ bm) := hidMk (by have := hF.out; have := HI.out.bs.lm; omega)
    generalize Y.drew = wd at hS hV hMt ⊢
    clear hSd hS0 hV0
    have bb := best_bound J k { T with p1 := x.1,p2 := x.2 }
    have wb : IntKind.i64.wrap (1 + (bestM J k { T with p1 := x.1,p2 := x.2 }).2) = 1 + (bestM J k { T with p1 := x.1,p2 := x.2 }).2 := IntWalk.i64_in _ (by omega)
    have wk : IntKind.i64.wrap (k : Int) = (k : Int) := IntWalk.i64_in _ (by omega)
    have vb := wv_nn J k T pre
    have vt := wv_top J k T pre
    refine wpAnyH_take (i := 1) (v := ?_) rfl (by kernel_rfl) (by kernel_rfl) (by kernel_rfl) (fun _ _ _ h => by cases h.1) (.inl ⟨by rfl,?_⟩) (by assumption) ?_
    rotate_left
    · (intro w' hSw; (try dsimp only at hSw); have q := (hSw.env HE HM).best.at_ 0 _ rfl; go_simp <;> with_reducible rfl)
    (try simp only [Act.put,aT,aZ,aS])
    refine wpAnyH_take (i := 2) (v := ?_) rfl (by kernel_rfl) (by kernel_rfl) (by kernel_rfl) (fun _ _ _ h => by cases h.1) (.inl ⟨by rfl,?_⟩) (by assumption) ?_
    rotate_left
    · (intro w' hSw; (try dsimp only at hSw); skip; go_simp <;> with_reducible rfl)
    (try simp only [Act.put,aT,aZ,aS])
    refine wpAnyH_take (i := 3) (v := ?_) rfl (by kernel_rfl) (by kernel_rfl) (by kernel_rfl) (fun _ _ _ h => by cases h.1) (.inl ⟨by rfl,?_⟩) (by assumption) ?_
    rotate_left
    · (intro w' hSw; (try dsimp only at hSw); skip; go_simp <;> with_reducible rfl)
    (try simp only [Act.put,aT,aZ,aS])
    refine wpAnyH_take (i := 4) rfl (by kernel_rfl) (by kernel_rfl) (by kernel_rfl) (fun _ _ _ h => by cases h.1) (yields_midB (by rfl) 25 _ rfl g12 0 rfl #[.int .i64 x.1,.int .i64 x.2,.int .i64 T.t1,.int .i64 T.t2,.int .i64 T.r1,.int .i64 T.r2] _ (fun w hw => tg_row hw.next) Try.underlying25 rfl szTongue) (by assumption) ?_
    (try simp only [Act.put,aT,aZ,aS])
    refine wpAnyH_take (i := 5) (v := ?_) rfl (by kernel_rfl) (by kernel_rfl) (by kernel_rfl) (fun _ _ _ h => by cases h.1) (.inl ⟨by rfl,?_⟩) (by assumption) ?_
    rotate_left
    · (intro w' hSw; (try dsimp only at hSw); skip; go_simp <;> with_reducible rfl)
    (try simp only [Act.put,aT,aZ,aS])
    refine wpAnyH_take (i := 6) (v := ?_) rfl (by kernel_rfl) (by kernel_rfl) (by kernel_rfl) (fun _ _ _ h => by cases h.1) (.inl ⟨by rfl,?_⟩) (by assumption) ?_
    rotate_left
    · (intro w' hSw; (try dsimp only at hSw); have q := hSw.bs.b5.at_ 6 (.int .i64 ((k : Int) + 1)) (by rw [knownC_succ]; rfl); go_simp <;> with_reducible rfl)
    (try simp only [Act.put,aT,aZ,aS])
    refine wpAnyH_take (i := 7) (v := ?_) rfl (by kernel_rfl) (by kernel_rfl) (by kernel_rfl) (fun _ _ _ h => by cases h.1) (.inl ⟨by rfl,?_⟩) (by assumption) ?_
    rotate_left
    · (intro w' hSw; (try dsimp only at hSw); skip; go_simp <;> with_reducible rfl)
    (try simp only [Act.put,aT,aZ,aS])
    refine wpAnyH_take (i := 8) (v := ?_) rfl (by kernel_rfl) (by kernel_rfl) (by kernel_rfl) (fun _ _ _ h => by cases h.1) (.inl ⟨by rfl,?_⟩) (by assumption) ?_
    rotate_left
    · (intro w' hSw; (try dsimp only at hSw); skip; go_simp <;> with_reducible rfl)
    (try simp only [Act.put,aT,aZ,aS])
    refine wpAnyH_ready (rs := [0,9]) (by kernel_rfl) (by simp) ?_
    refine AllReadyH.cons rfl (fun K hK => ?_) ?_
    · have z0 := hV.at_ 0 _ rfl
      go_simp
      clear z0
      refine hK.out _ _ hS (fun _ => ?_)
      clear hK K
      (try simp only [Act.put,aT,aZ,aS])
      refine wpAnyH_ready (rs := [9]) (by kernel_rfl) (by simp) ?_
      refine AllReadyH.cons rfl (fun K hK => ?_) ?_
      · go_simp
        obtain ⟨cc,hcc,hmm⟩ := hMt.out
        go_at_call 77
        refine (ih { T with p1 := x.1,p2 := x.2 } cc _ (hS.env HE HM) hmm hTx.out (by have := hcs.out; have := hmul.out; omega)).mono ?_
        rintro e w9 ⟨rfl,⟨cd,hcd,hmd⟩,hg9⟩
        have hV_ := hV.grown hg9 (by intro e; injection e with e; exact hbms.out.2 e)
        have hS_ := hS.call (c' := c + (pre.length + 1) * cost k) hg9 ⟨cd,by have := hmul.out; omega,hmd⟩ hbms.out hlo.out
        clear hV hS hmm hcc hcd hmd hg9
        have hV := hV_
        have hS := hS_
        clear hV_ hS_
        go_wp2_with fail
        refine hK.out _ _ hS (fun _ => ?_)
        clear hK K
        (try simp only [Act.put,aT,aZ,aS])
        refine wpAnyH_ready (rs := [10]) (by kernel_rfl) (by simp) ?_
        refine AllReadyH.cons rfl (fun K hK => ?_) ?_
        · go_simp
          refine hK.out _ _ hS (fun _ => ?_)
          clear hK K
          (try simp only [Act.put,aT,aZ,aS])
          refine wpAnyH_ready (rs := [11]) (by kernel_rfl) (by simp) ?_
          refine AllReadyH.cons rfl (fun K hK => ?_) ?_
          · go_simp
            refine hK.out _ _ hS (fun _ => ?_)
            clear hK K
            (try simp only [Act.put,aT,aZ,aS])
            refine wpAnyH_ready (rs := [12]) (by kernel_rfl) (by simp) ?_
            refine AllReadyH.cons rfl (fun K hK => ?_) ?_
            · go_simp
              refine hK.out _ _ hS (fun _ => ?_)
              clear hK K
              (try simp only [Act.put,aT,aZ,aS])
              refine wpAnyH_ready (rs := [13]) (by kernel_rfl) (by simp) ?_
              refine AllReadyH.cons rfl (fun K hK => ?_) ?_
              · have z0 := hV.at_ 0 _ rfl
                have f0 := hV.free 0
                go_simp
                have hV_ := hV.put1 (.int .i64 (mx (wv J k T pre) (1 + (bestM J k { T with p1 := x.1,p2 := x.2 }).2)))
                have hS_ := hS.store hF.out hlo.out (.int .i64 (mx (wv J k T pre) (1 + (bestM J k { T with p1 := x.1,p2 := x.2 }).2)))
                refine hK.out _ _ hS_ (fun _ => ?_)
                clear z0 f0 hV hS
                clear hK K
                (try simp only [Act.put,aT,aZ,aS])
                refine wpAnyH_done (by kernel_rfl) ?_ _
                exact ⟨rfl,_,_,_,_,_,_,_,_,_,_,_,_,_,rfl,hS_,by rw [wv_snoc]; exact hV_⟩
              exact AllReadyH.nil
            exact AllReadyH.nil
          exact AllReadyH.nil
        exact AllReadyH.nil
      exact AllReadyH.nil
    refine AllReadyH.cons rfl (fun K hK => ?_) ?_
    · go_simp
      obtain ⟨cc,hcc,hmm⟩ := hMt.out
      go_at_call 77
      refine (ih { T with p1 := x.1,p2 := x.2 } cc _ (hS.env HE HM) hmm hTx.out (by have := hcs.out; have := hmul.out; omega)).mono ?_
      rintro e w9 ⟨rfl,⟨cd,hcd,hmd⟩,hg9⟩
      have hV_ := hV.grown hg9 (by intro e; injection e with e; exact hbms.out.2 e)
      have hS_ := hS.call (c' := c + (pre.length + 1) * cost k) hg9 ⟨cd,by have := hmul.out; omega,hmd⟩ hbms.out hlo.out
      clear hV hS hmm hcc hcd hmd hg9
      have hV := hV_
      have hS := hS_
      clear hV_ hS_
      go_wp2_with fail
      refine hK.out _ _ hS (fun _ => ?_)
      clear hK K
      (try simp only [Act.put,aT,aZ,aS])
      refine wpAnyH_ready (rs := [0,10]) (by kernel_rfl) (by simp) ?_
      refine AllReadyH.cons rfl (fun K hK => ?_) ?_
      · have z0 := hV.at_ 0 _ rfl
        go_simp
        clear z0
        refine hK.out _ _ hS (fun _ => ?_)
        clear hK K
        (try simp only [Act.put,aT,aZ,aS])
        refine wpAnyH_ready (rs := [10]) (by kernel_rfl) (by simp) ?_
        refine AllReadyH.cons rfl (fun K hK => ?_) ?_
        · go_simp
          refine hK.out _ _ hS (fun _ => ?_)
          clear hK K
          (try simp only [Act.put,aT,aZ,aS])
          refine wpAnyH_ready (rs := [11]) (by kernel_rfl) (by simp) ?_
          refine AllReadyH.cons rfl (fun K hK => ?_) ?_
          · go_simp
            refine hK.out _ _ hS (fun _ => ?_)
            clear hK K
            (try simp only [Act.put,aT,aZ,aS])
            refine wpAnyH_ready (rs := [12]) (by kernel_rfl) (by simp) ?_
            refine AllReadyH.cons rfl (fun K hK => ?_) ?_
            · go_simp
              refine hK.out _ _ hS (fun _ => ?_)
              clear hK K
              (try simp only [Act.put,aT,aZ,aS])
              refine wpAnyH_ready (rs := [13]) (by kernel_rfl) (by simp) ?_
              refine AllReadyH.cons rfl (fun K hK => ?_) ?_
              · have z0 := hV.at_ 0 _ rfl
                have f0 := hV.free 0
                go_simp
                have hV_ := hV.put1 (.int .i64 (mx (wv J k T pre) (1 + (bestM J k { T with p1 := x.1,p2 := x.2 }).2)))
                have hS_ := hS.store hF.out hlo.out (.int .i64 (mx (wv J k T pre) (1 + (bestM J k { T with p1 := x.1,p2 := x.2 }).2)))
                refine hK.out _ _ hS_ (fun _ => ?_)
                clear z0 f0 hV hS
                clear hK K
                (try simp only [Act.put,aT,aZ,aS])
                refine wpAnyH_done (by kernel_rfl) ?_ _
                exact ⟨rfl,_,_,_,_,_,_,_,_,_,_,_,_,_,rfl,hS_,by rw [wv_snoc]; exact hV_⟩
              exact AllReadyH.nil
            exact AllReadyH.nil
          exact AllReadyH.nil
        exact AllReadyH.nil
      refine AllReadyH.cons rfl (fun K hK => ?_) ?_
      · go_simp
        refine hK.out _ _ hS (fun _ => ?_)
        clear hK K
        (try simp only [Act.put,aT,aZ,aS])
        refine wpAnyH_ready (rs := [0,11]) (by kernel_rfl) (by simp) ?_
        refine AllReadyH.cons rfl (fun K hK => ?_) ?_
        · have z0 := hV.at_ 0 _ rfl
          go_simp
          clear z0
          refine hK.out _ _ hS (fun _ => ?_)
          clear hK K
          (try simp only [Act.put,aT,aZ,aS])
          refine wpAnyH_ready (rs := [11]) (by kernel_rfl) (by simp) ?_
          refine AllReadyH.cons rfl (fun K hK => ?_) ?_
          · go_simp
            refine hK.out _ _ hS (fun _ => ?_)
            clear hK K
            (try simp only [Act.put,aT,aZ,aS])
            refine wpAnyH_ready (rs := [12]) (by kernel_rfl) (by simp) ?_
            refine AllReadyH.cons rfl (fun K hK => ?_) ?_
            · go_simp
              refine hK.out _ _ hS (fun _ => ?_)
              clear hK K
              (try simp only [Act.put,aT,aZ,aS])
              refine wpAnyH_ready (rs := [13]) (by kernel_rfl) (by simp) ?_
              refine AllReadyH.cons rfl (fun K hK => ?_) ?_
              · have z0 := hV.at_ 0 _ rfl
                have f0 := hV.free 0
                go_simp
                have hV_ := hV.put1 (.int .i64 (mx (wv J k T pre) (1 + (bestM J k { T with p1 := x.1,p2 := x.2 }).2)))
                have hS_ := hS.store hF.out hlo.out (.int .i64 (mx (wv J k T pre) (1 + (bestM J k { T with p1 := x.1,p2 := x.2 }).2)))
                refine hK.out _ _ hS_ (fun _ => ?_)
                clear z0 f0 hV hS
                clear hK K
                (try simp only [Act.put,aT,aZ,aS])
                refine wpAnyH_done (by kernel_rfl) ?_ _
                exact ⟨rfl,_,_,_,_,_,_,_,_,_,_,_,_,_,rfl,hS_,by rw [wv_snoc]; exact hV_⟩
              exact AllReadyH.nil
            exact AllReadyH.nil
          exact AllReadyH.nil
        refine AllReadyH.cons rfl (fun K hK => ?_) ?_
        · go_simp
          refine hK.out _ _ hS (fun _ => ?_)
          clear hK K
          (try simp only [Act.put,aT,aZ,aS])
          refine wpAnyH_ready (rs := [0]) (by kernel_rfl) (by simp) ?_
          refine AllReadyH.cons rfl (fun K hK => ?_) ?_
          · have z0 := hV.at_ 0 _ rfl
            go_simp
            clear z0
            refine hK.out _ _ hS (fun _ => ?_)
            clear hK K
            (try simp only [Act.put,aT,aZ,aS])
            refine wpAnyH_ready (rs := [12]) (by kernel_rfl) (by simp) ?_
            refine AllReadyH.cons rfl (fun K hK => ?_) ?_
            · go_simp
              refine hK.out _ _ hS (fun _ => ?_)
              clear hK K
              (try simp only [Act.put,aT,aZ,aS])
              refine wpAnyH_ready (rs := [13]) (by kernel_rfl) (by simp) ?_
              refine AllReadyH.cons rfl (fun K hK => ?_) ?_
              · have z0 := hV.at_ 0 _ rfl
                have f0 := hV.free 0
                go_simp
                have hV_ := hV.put1 (.int .i64 (mx (wv J k T pre) (1 + (bestM J k { T with p1 := x.1,p2 := x.2 }).2)))
                have hS_ := hS.store hF.out hlo.out (.int .i64 (mx (wv J k T pre) (1 + (bestM J k { T with p1 := x.1,p2 := x.2 }).2)))
                refine hK.out _ _ hS_ (fun _ => ?_)
                clear z0 f0 hV hS
                clear hK K
                (try simp only [Act.put,aT,aZ,aS])
                refine wpAnyH_done (by kernel_rfl) ?_ _
                exact ⟨rfl,_,_,_,_,_,_,_,_,_,_,_,_,_,rfl,hS_,by rw [wv_snoc]; exact hV_⟩
              exact AllReadyH.nil
            exact AllReadyH.nil
          exact AllReadyH.nil
        exact AllReadyH.nil
      exact AllReadyH.nil
    exact AllReadyH.nil
  · rintro a' w' ⟨v63,v64,v65,v66,v67,v68,v69,v70,v71,v72,v73,v74,v75,rfl,hs',hv'⟩
    have hk := hs'.stp.keeps hbB.out hNX2.out HI.out.val
    have hkp := hs'.stp.kp hP1.out hP2.out
    obtain ⟨V,hV⟩ : ∃ V,V = wv J k T (pre ++ [x]) := ⟨_,rfl⟩
    have hlen : (pre ++ [x]).length = pre.length + 1 := by simp
    have z0 := hv'.at_ 0 (.int .i64 V) (by rw [hV]; rfl)
    have z1 := hs'.bs.b7.at_ 1 _ rfl
    have HV := hidMk hV
    have HS := hidMk hs'
    have HVV := hidMk hv'
    have HK := hidMk hk
    have HKP := hidMk hkp
    have HL := hidMk hlen
    clear hs' hv' hk hkp hV hlen
    by_cases hle : m.2 ≤ V
    · gi_wp2_with fail
      refine ⟨HK.out,rfl,by rw [← HV.out]; exact hle,HS.out.bs,HS.out.ds,?_⟩
      rw [HL.out]
      exact HS.out.memo
    · gi_wp2_with fail
      refine ⟨HK.out,HKP.out,HS.out.bs,HS.out.ds,?_,⟨_,_,HS.out.next⟩,HVV.out,.inr (by rw [← HV.out]; omega)⟩
      rw [HL.out]
      exact HS.out.memo
end Go.Proofs.Ytadmcafbffjjbaa
namespace Go.Proofs.Ytadmcafbffjjbaa
set_option linter.all false
open Go.RowKit Go.Shelf

attribute [local go_sem] Oper.semAt_some

set_option maxRecDepth 100000 in
set_option maxHeartbeats 1000000 in
theorem readings1_mem (n N0 l Bp Bm : Nat) (a b m : Int) (ha : -1000 ≤ a ∧ a ≤ 1000 ∧ -1000 ≤ b ∧ b ≤ 1000 ∧ 0 ≤ m ∧ m ≤ 100 ∧ a ≤ b) (J Jx : List R2 → World → Prop) (hJ : AbidesFrom N0 J)
    (hY : ∀ pre (x : R2) W,x ∈ readsL a b m → J pre W → pre.length < (readsL a b m).length → YieldAt Fence.wide (n - 1) Try.prog l #[.agg #[.int .i64 x.1,.int .i64 x.2]] W fun e W' =>
      (e = .returned (.bool true) ∧ J (pre ++ [x]) W' ∧ KpB Bp Bm W W') ∨ (e = .returned (.bool false) ∧ Jx (pre ++ [x]) W'))
    (W : World) (hp : Bk W Bp 23 #[.int .i64 a,.int .i64 b]) (hm : Bk W Bm 3 #[.int .i64 m]) (h0 : J [] W) :
    CallsIn Fence.wide n Try.prog 79 #[.func (.yield l) #[] #[],.pointer (some ⟨Bp,0,none⟩),.pointer (some ⟨Bm,0,none⟩)] W fun e W' => (∃ v,e = .returned v) ∧
      ((∃ ys,ys = readsL a b m ∧ J ys W') ∨ (∃ pre,pre <+: readsL a b m ∧ Jx pre W')) := by
  obtain ⟨a1,a2,a3,a4,a5,a6,a7⟩ := ha
  have c0 := hp.at_ 0 _ rfl
  have c1 := hp.at_ 1 _ rfl
  have d0 := hm.at_ 0 _ rfl
  have HP := hidMk hp
  have HM := hidMk hm
  have H0 := hidMk h0
  clear hp hm h0
  refine callsIn_of_wp Try.func79 rfl trivial ?_ rfl
  simp only [Try.ntmps79,List.size_toArray,List.length_cons,List.length_nil,Nat.reduceAdd,Nat.reduceSub,Array.replicate_succ,Array.replicate_zero,List.push_toArray,List.append_toArray,List.nil_append,List.cons_append]
  gi_wp2
  gi_loopw [4] (fun p wr => ∃ (k : Nat) (r : Int),p = .int .i64 r ∧ Hid (r = a - m + (k : Int)) ∧ -2000 ≤ r ∧ r ≤ b + m + 1 ∧ Hid (J (upto a b m k) wr) ∧ Bk wr Bp 23 #[.int .i64 a,.int .i64 b] ∧ Bk wr Bm 3 #[.int .i64 m])
    (fun p _ => (b + m + 1 - intOf p).toNat)
  case atStart =>
    exact ⟨0,a - m,rfl,hidMk (by simp),by omega,by omega,H0,HP.out,HM.out⟩
  case round =>
    clear c0 c1 d0
    obtain ⟨k,r,rfl,Hr,r1,r2,HJ,hp,hm⟩ := hrel
    have c0 := hp.at_ 0 _ rfl
    have c1 := hp.at_ 1 _ rfl
    have d0 := hm.at_ 0 _ rfl
    have l1 := hp.lt
    have l2 := hm.lt
    by_cases hlt : r ≤ b + m
    · have hkN : Hid (k < (b + m - (a - m) + 1).toNat) := by show k < _; have := Hr.out; omega
      gi_wp2_with (refine ⟨trivial,(fun h => by cases h),?_⟩; gi_at_call 68; refine (callsIn_wide.2 (heard_any a b r m _ (by omega))).mono ?_; rintro e w2 ⟨rfl,hb⟩; have p2 := hp.below hb l1; have m2 := hm.below hb l2; have c02 := p2.at_ 0 _ rfl; have c12 := p2.at_ 1 _ rfl; have d02 := m2.at_ 0 _ rfl; have HJ2 := hidMk (abides_of_below hJ HJ.out hb); obtain ⟨fn,tmps,assign,body,hy,hR⟩ := hY _ (heardR a b r m) w2 (List.mem_map.2 ⟨k,List.mem_range.2 hkN.out,by rw [Hr.out]⟩) HJ2.out (by rw [upto_len,upto_all,upto_len]; exact hkN.out))
      refine ⟨(fun h => by cases h),hR.mono ?_⟩
      have hx : upto a b m k ++ [heardR a b r m] = upto a b m (k + 1) := by rw [upto_succ,Hr.out]
      rw [hx]
      rintro e W3 (⟨rfl,hJ3,hk1,hk2⟩ | ⟨rfl,hJx3⟩)
      · have p3 : Bk W3 Bp 23 #[.int .i64 a,.int .i64 b] := hk1.trans p2
        have m3 : Bk W3 Bm 3 #[.int .i64 m] := hk2.trans m2
        have c03 := p3.at_ 0 _ rfl
        have c13 := p3.at_ 1 _ rfl
        have d03 := m3.at_ 0 _ rfl
        clear hx
        gi_wp2
        go_roundw
        case rel => exact ⟨k + 1,r + 1,rfl,hidMk (by have := Hr.out; omega),by omega,by omega,hidMk hJ3,p3,m3⟩
        case measure => simp [intOf]; omega
      · clear hx
        gi_wp2
        refine bodyPost_ret (results_none rfl _ _ _) rfl ?_
        exact ⟨⟨_,rfl⟩,.inr ⟨_,by rw [upto_all]; exact upto_pre a b m (k + 1) _ hkN.out,hJx3⟩⟩
    · gi_wp2
      go_end0
      have hk : k = (b + m - (a - m) + 1).toNat := by have := Hr.out; omega
      first | exact ⟨⟨_,rfl⟩,.inl ⟨_,rfl,by rw [upto_all,← hk]; exact HJ.out⟩⟩ | exact ⟨⟨_,rfl⟩,.inl (by rw [upto_all,← hk]; exact HJ.out)⟩

def clipR (a b m : Int) (x : R2) : R2 := if x ∈ readsL a b m then x else (a,b)
theorem clip_mem {a b m : Int} {x : R2} (h : x ∈ readsL a b m) : clipR a b m x = x := if_pos h
theorem clip_map {a b m : Int} {l : List R2} (h : ∀ x ∈ l,x ∈ readsL a b m) : l.map (clipR a b m) = l := by
  induction l with
  | nil => rfl
  | cons x l ih => rw [List.map_cons,clip_mem (h x List.mem_cons_self),ih fun y hy => h y (List.mem_cons_of_mem _ hy)]
theorem reads_in {a b m : Int} (hab : a ≤ b) (hm : 0 ≤ m) {x : R2} (h : x ∈ readsL a b m) : a ≤ x.1 ∧ x.1 ≤ x.2 ∧ x.2 ≤ b := by
  obtain ⟨k,hk,rfl⟩ := List.mem_map.1 h
  have := List.mem_range.1 hk
  simp only [heardR,meet2]
  split <;> split <;> omega
theorem clip_in {a b m : Int} (hab : a ≤ b) (hm : 0 ≤ m) (x : R2) : a ≤ (clipR a b m x).1 ∧ (clipR a b m x).1 ≤ (clipR a b m x).2 ∧ (clipR a b m x).2 ≤ b := by
  unfold clipR
  split
  · rename_i h; exact reads_in hab hm h
  · exact ⟨Int.le_refl _,hab,Int.le_refl _⟩
theorem readings_clip (n Bp Bm : Nat) (a b m : Int) (ha : -1000 ≤ a ∧ a ≤ 1000 ∧ -1000 ≤ b ∧ b ≤ 1000 ∧ 0 ≤ m ∧ m ≤ 100 ∧ a ≤ b) (w : World) (hp : Bk w Bp 23 #[.int .i64 a,.int .i64 b]) (hm : Bk w Bm 3 #[.int .i64 m]) :
    SeqStopsK Fence.wide n Try.prog 79 #[.pointer (some ⟨Bp,0,none⟩),.pointer (some ⟨Bm,0,none⟩)] (fun x : R2 => #[Value.agg #[.int .i64 (clipR a b m x).1,.int .i64 (clipR a b m x).2]]) (KpB Bp Bm) (fun ys => ys = readsL a b m) (fun pre => pre <+: readsL a b m) (readsL a b m).length w :=
  fun l J Jx W hW hJ _ hY h0 => readings1_mem n W.heap.size l Bp Bm a b m ha J Jx hJ (fun pre x W1 hx hj hl => by
    have h := hY pre x W1 hj hl
    simp only [clip_mem hx] at h
    exact h) W (hp.below hW hp.lt) (hm.below hW hm.lt) h0
end Go.Proofs.Ytadmcafbffjjbaa
namespace Go.Proofs.Ytadmcafbffjjbaa
set_option linter.all false
open Go.RowKit Go.Shelf
theorem row_ne {w : World} {row : Option Nat} {B g : Nat} {u : TypeId} {cs : Array Value} (h : Bk w g u cs) (hr : ∀ r,row = some r → B ≤ r ∧ ∃ o : Obj,w.heap[r]? = some o ∧ o.isCells = false) : some g ≠ row := by
  intro e
  obtain ⟨_,o,ho,hc⟩ := hr g e.symm
  rw [show w.heap[g]? = _ from h] at ho
  cases ho
  cases hc
theorem IR.own {J : Jb} {s : Value} {bm k : Nat} {t : Tg} {W : World} {g5 g6 g7 g9 : Nat} {m : Int × Int} {T : Tg} {g12 g13 c lo hi : Nat} {ds : List Deferred} {B : Nat} (hB : hi ≤ B) (hW : W.heap.size ≤ B) (f : R2 → R2) : OwnFrom B (fun (pre : List R2) (X : World) => IR J s bm k t W g5 g6 g7 g9 m T g12 g13 c lo hi ds (pre.map f) X) := by
  intro pre X Y row h hg hr
  obtain ⟨p1,p2,hn⟩ := h.next
  obtain ⟨d,hd,hm⟩ := h.memo
  have hlm := h.bs.lm
  exact ⟨h.bs.own hg (fun r e => ⟨by have := (hr r e).1; omega,(hr r e).2⟩),h.ds.own hg (fun r e => by have := (hr r e).1; omega),⟨d,hd,hm.kept hg (by intro e; have := (hr bm e.symm).1; omega)⟩,⟨p1,p2,hn.grown hg (row_ne hn hr)⟩,h.val.grown hg (row_ne h.val hr),h.less⟩
theorem IX.own {J : Jb} {s : Value} {bm k : Nat} {t : Tg} {W : World} {g5 g6 g7 g9 : Nat} {m : Int × Int} {T : Tg} {c lo hi : Nat} {ds : List Deferred} {B : Nat} (hB : hi ≤ B) (hW : W.heap.size ≤ B) (cd : Code) (f : R2 → R2) : OwnFrom B (fun (pre : List R2) (X : World) => IX J s bm k t W g5 g6 g7 g9 m T c lo hi ds cd (pre.map f) X) := by
  intro pre X Y row h hg hr
  obtain ⟨d,hd,hm⟩ := h.memo
  have hlm := h.bs.lm
  exact ⟨h.out,h.more,h.bs.own hg (fun r e => ⟨by have := (hr r e).1; omega,(hr r e).2⟩),h.ds.own hg (fun r e => by have := (hr r e).1; omega),⟨d,hd,hm.kept hg (by intro e; have := (hr bm e.symm).1; omega)⟩⟩
theorem wv_pre (J : Jb) (k : Nat) (T : Tg) {p l : List R2} (h : p <+: l) : wv J k T p ≤ wv J k T l := by
  obtain ⟨q,rfl⟩ := h
  unfold wv worstOf
  rw [List.foldl_append]
  exact fold_le _ _ _
theorem reads_len {a b m : Int} (h : -200 ≤ a ∧ b ≤ 200 ∧ 0 ≤ m ∧ m ≤ 6) : (readsL a b m).length ≤ 1000 := by
  unfold readsL
  rw [List.length_map,List.length_range]
  omega
end Go.Proofs.Ytadmcafbffjjbaa
namespace Go.Proofs.Ytadmcafbffjjbaa
set_option linter.all false
open Go.RowKit Go.Shelf
attribute [local go_sem] Oper.semAt_some
set_option maxHeartbeats 4000000 in
set_option maxRecDepth 1000000 in
theorem bm_rf {J : Jb} {s : Value} {Bw Bf Bj Bb bm k cnt : Nat} {t : Tg} {W : World} {g5 g6 g7 g9 : Nat} {m : Int × Int} {T : Tg} {g12 g13 c lo hi Bp Bm : Nat} {ds : List Deferred} {w : World} {st : Int} {Q : Exit → Act → World → Prop} {u0 u6 u8 u9 A0 A4 A5 A6 A7 A8 A9 Aa Ab Ac Ad Ae Af Ag Ah Ai Aj Ak Al Am An Ao Ap Aq Ar As At Au Av Aw Ax Ay Az C0 C1 C2 C3 C4 C5 C6 C7 C8 C9 Ca Cc Cd Ce Cf Cg Ch Ci Cj Ck Cl Cm Cn Co Cp Cq Cr Cs Ct Cu Cv Cw Cx Cy Cz D0 D1 D2 D3 D4 D5 : Value}
    (ih : BestOK J s Bw Bf Bj Bb bm k) (HE : Env J s Bw Bf Bj Bb bm W) (HM : Memo J W bm cnt) (hI : IR J s bm k t W g5 g6 g7 g9 m T g12 g13 c lo hi ds [] w) (hp : Bk w Bp 23 #[.int .i64 T.p1,.int .i64 T.p2]) (hm : Bk w Bm 3 #[.int .i64 J.me]) (hT : TgIn k T) (hme : 0 ≤ J.me ∧ J.me ≤ 6) (hcs : c + 1000 * cost k ≤ 1000000000000000) (hk4 : k ≤ 4)
    (hf : (W.heap.size ≤ g12 ∧ g12 ≠ g5 ∧ g12 ≠ g6 ∧ g12 ≠ g7 ∧ g12 ≠ g9) ∧ (W.heap.size ≤ g13 ∧ g13 ≠ g5 ∧ g13 ≠ g6 ∧ g13 ≠ g7 ∧ g13 ≠ g9)) (hp1 : Bp ≠ bm ∧ Bp ≠ g12 ∧ Bp ≠ g13) (hp2 : Bm ≠ bm ∧ Bm ≠ g12 ∧ Bm ≠ g13) (hlo : bm < lo) (hhi : hi ≤ w.heap.size)
    (hdone : ∀ (D : Nat) (w' : World),w.heap.size ≤ D → IR J s bm k t W g5 g6 g7 g9 m T g12 g13 c lo hi ds (readsL T.p1 T.p2 J.me) w' → w'.heap[D]? = some (.deferred (some [])) → Q .normal ⟨#[u0,(.pointer (some ⟨Bw,0,none⟩)),(.pointer (some ⟨Bf,0,none⟩)),(.pointer (some ⟨Bj,0,none⟩)),(.pointer (some ⟨Bb,0,none⟩)),(.pointer (some ⟨g5,0,none⟩)),u6,(.pointer (some ⟨g7,0,none⟩)),u8,u9,A0,(.int .i64 st),(.pointer (some ⟨g12,0,none⟩)),(.pointer (some ⟨g13,0,none⟩)),A4,A5,A6,A7,A8,A9,Aa,Ab,Ac,Ad,Ae,Af,Ag,Ah,Ai,Aj,Ak,Al,Am,An,Ao,Ap,Aq,Ar,As,At,Au,Av,Aw,Ax,Ay,Az,C0,C1,C2,C3,C4,C5,C6,C7,C8,C9,Ca,(.func (.func 79) #[] #[.pointer (some ⟨Bp,0,none⟩),.pointer (some ⟨Bm,0,none⟩)]),Cc,Cd,Ce,Cf,Cg,Ch,Ci,Cj,Ck,Cl,Cm,Cn,Co,Cp,Cq,Cr,Cs,Ct,Cu,Cv,Cw,Cx,Cy,Cz,D0,D1,D2,D3,D4,D5],{ target := .collected D,args := #[] } :: ds⟩ w')
    (hstop : ∀ (D : Nat) (w' : World),w.heap.size ≤ D → m.2 ≤ wv J k T (readsL T.p1 T.p2 J.me) → IX J s bm k t W g5 g6 g7 g9 m T c lo hi ds (.exit 1) (readsL T.p1 T.p2 J.me) w' → w'.heap[D]? = some (.deferred (some [])) → Q (.exit 1) ⟨#[u0,(.pointer (some ⟨Bw,0,none⟩)),(.pointer (some ⟨Bf,0,none⟩)),(.pointer (some ⟨Bj,0,none⟩)),(.pointer (some ⟨Bb,0,none⟩)),(.pointer (some ⟨g5,0,none⟩)),u6,(.pointer (some ⟨g7,0,none⟩)),u8,u9,A0,(.int .i64 st),(.pointer (some ⟨g12,0,none⟩)),(.pointer (some ⟨g13,0,none⟩)),A4,A5,A6,A7,A8,A9,Aa,Ab,Ac,Ad,Ae,Af,Ag,Ah,Ai,Aj,Ak,Al,Am,An,Ao,Ap,Aq,Ar,As,At,Au,Av,Aw,Ax,Ay,Az,C0,C1,C2,C3,C4,C5,C6,C7,C8,C9,Ca,(.func (.func 79) #[] #[.pointer (some ⟨Bp,0,none⟩),.pointer (some ⟨Bm,0,none⟩)]),Cc,Cd,Ce,Cf,Cg,Ch,Ci,Cj,Ck,Cl,Cm,Cn,Co,Cp,Cq,Cr,Cs,Ct,Cu,Cv,Cw,Cx,Cy,Cz,D0,D1,D2,D3,D4,D5],{ target := .collected D,args := #[] } :: ds⟩ w') : Code.wpIn Fence.wide 3 Try.prog (.rangeFunc (.tmp 57) #[58] rfa rfb) Q ⟨#[u0,(.pointer (some ⟨Bw,0,none⟩)),(.pointer (some ⟨Bf,0,none⟩)),(.pointer (some ⟨Bj,0,none⟩)),(.pointer (some ⟨Bb,0,none⟩)),(.pointer (some ⟨g5,0,none⟩)),u6,(.pointer (some ⟨g7,0,none⟩)),u8,u9,A0,(.int .i64 st),(.pointer (some ⟨g12,0,none⟩)),(.pointer (some ⟨g13,0,none⟩)),A4,A5,A6,A7,A8,A9,Aa,Ab,Ac,Ad,Ae,Af,Ag,Ah,Ai,Aj,Ak,Al,Am,An,Ao,Ap,Aq,Ar,As,At,Au,Av,Aw,Ax,Ay,Az,C0,C1,C2,C3,C4,C5,C6,C7,C8,C9,Ca,(.func (.func 79) #[] #[.pointer (some ⟨Bp,0,none⟩),.pointer (some ⟨Bm,0,none⟩)]),Cc,Cd,Ce,Cf,Cg,Ch,Ci,Cj,Ck,Cl,Cm,Cn,Co,Cp,Cq,Cr,Cs,Ct,Cu,Cv,Cw,Cx,Cy,Cz,D0,D1,D2,D3,D4,D5],ds⟩ w := by
  have hzW : W.heap.size ≤ w.heap.size := hI.bs.gr.size
  have hlW := hI.bs.lm
  have h1 := hT.1.1
  have h2 := hT.1.2.1
  have h3 := hT.1.2.2.1
  have h4 := hT.1.2.2.2.1
  have hN := reads_len (a := T.p1) (b := T.p2) (m := J.me) (by omega)
  refine wpIn_rangeFunc_ownH (α := R2) rfl (by decide) (gf := 79) (lb := #[.pointer (some ⟨Bp,0,none⟩),.pointer (some ⟨Bm,0,none⟩)]) rfl trivial (enters_of Try.func79 (by kernel_rfl) rfl)
    (readings_clip 2 Bp Bm T.p1 T.p2 J.me (by have := hT.2; omega) w hp hm) (fun h k => ⟨k.1.trans h.1,k.2.trans h.2⟩) (fun W' l o o' hl _ _ _ => ⟨World.putObj_heap_other (by have := hp.lt; omega),World.putObj_heap_other (by have := hm.lt; omega)⟩) (Below.refl _ _) (fun _ => rfl)
    (fun (pre : List R2) (X : World) => IR J s bm k t W g5 g6 g7 g9 m T g12 g13 c lo hi ds (pre.map (clipR T.p1 T.p2 J.me)) X ∧ w.heap.size ≤ X.heap.size)
    (fun (cd : Code) (pre : List R2) (X : World) => IX J s bm k t W g5 g6 g7 g9 m T c lo hi ds cd (pre.map (clipR T.p1 T.p2 J.me)) X)
    (OwnFrom.and (IR.own hhi hzW _) (fun _ _ _ _ h hg _ => Nat.le_trans h hg.size)) (fun cd => IX.own hhi hzW cd _) ⟨hI,Nat.le_refl _⟩
    (fun x a' X => ∃ g14,Bk X g14 23 #[.int .i64 (clipR T.p1 T.p2 J.me x).1,.int .i64 (clipR T.p1 T.p2 J.me x).2] ∧ a' = ⟨#[u0,(.pointer (some ⟨Bw,0,none⟩)),(.pointer (some ⟨Bf,0,none⟩)),(.pointer (some ⟨Bj,0,none⟩)),(.pointer (some ⟨Bb,0,none⟩)),(.pointer (some ⟨g5,0,none⟩)),u6,(.pointer (some ⟨g7,0,none⟩)),u8,u9,A0,(.int .i64 st),(.pointer (some ⟨g12,0,none⟩)),(.pointer (some ⟨g13,0,none⟩)),(.pointer (some ⟨g14,0,none⟩)),A5,A6,A7,A8,A9,Aa,Ab,Ac,Ad,Ae,Af,Ag,Ah,Ai,Aj,Ak,Al,Am,An,Ao,Ap,Aq,Ar,As,At,Au,Av,Aw,Ax,Ay,Az,C0,C1,C2,C3,C4,C5,C6,C7,C8,C9,Ca,(.func (.func 79) #[] #[.pointer (some ⟨Bp,0,none⟩),.pointer (some ⟨Bm,0,none⟩)]),(.agg #[.int .i64 (clipR T.p1 T.p2 J.me x).1,.int .i64 (clipR T.p1 T.p2 J.me x).2]),Cd,Ce,Cf,Cg,Ch,Ci,Cj,Ck,Cl,Cm,Cn,Co,Cp,Cq,Cr,Cs,Ct,Cu,Cv,Cw,Cx,Cy,Cz,D0,D1,D2,D3,D4,D5],[]⟩)
    (fun x a' _ X Y row hs hg hr => by obtain ⟨g14,e1,e2⟩ := hs; exact ⟨g14,e1.grown hg (row_ne e1 hr),e2⟩)
    ?assign ?body ?done ?stop
  case assign =>
    rintro l pre x X K ⟨hi,hsz⟩ hK
    have hpl := hp.lt
    have hml := hm.lt
    rw [rfa_eq]
    gi_wp2_with fail
    exact hK _ _ ⟨by simp,fun i o _ ho _ => (Below.heap_alloc _ _ i (Array.getElem?_eq_some_iff.1 ho).1).trans ho⟩ ⟨Below.heap_alloc _ _ _ (by omega),Below.heap_alloc _ _ _ (by omega)⟩ ⟨IR.own hhi hzW (clipR T.p1 T.p2 J.me) pre X _ none hi (World.grownBy_alloc _ _ _) (by simp),by simp; omega⟩ ⟨X.heap.size,Bk.new _ _ _,rfl⟩
  case body =>
    rintro l pre x a' X hl - ⟨hi,hsz⟩ ⟨g14,h14,rfl⟩ hlt
    have hpl := hp.lt
    have hml := hm.lt
    have hcl := clip_in (a := T.p1) (b := T.p2) hT.2 hme.1 x
    have hz := hi.bs.gr.size
    have hle : (pre.map (clipR T.p1 T.p2 J.me)).length + 1 ≤ 1000 := by rw [List.length_map]; omega
    have hmul : ((pre.map (clipR T.p1 T.p2 J.me)).length + 1) * cost k ≤ 1000 * cost k := Nat.mul_le_mul_right _ hle
    refine wpIn_mono (bm_round (x := (clipR T.p1 T.p2 J.me x)) (pre := pre.map (clipR T.p1 T.p2 J.me)) (B := w.heap.size) (Bp := Bp) (Bm := Bm) ih HE HM hi h14 ⟨?_,hcl.2.1⟩ (by omega) hk4 hf (by omega) ⟨by omega,hp1⟩ ⟨by omega,hp2⟩ hlo) ?_
    · have h0 := hT.1
      simp only [Tg.In] at h0 ⊢
      omega
    · intro e a3 W3 h
      have em : (pre ++ [x]).map (clipR T.p1 T.p2 J.me) = pre.map (clipR T.p1 T.p2 J.me) ++ [(clipR T.p1 T.p2 J.me x)] := by simp
      cases e with
      | normal =>
        simp only [ownPostG] at h ⊢
        rw [em]
        exact ⟨h.1,h.2.1,h.2.2,Nat.le_trans hsz h.1.size⟩
      | _ => first | exact h | (simp only [ownPostG] at h ⊢; rw [em]; exact h)
  case done =>
    rintro D xs X hD rfl ⟨hi,-⟩ hd
    refine hdone D X hD ?_ hd
    rw [clip_map fun x h => h] at hi
    exact hi
  case stop =>
    rintro D cd pre X hD hpre hi hd
    have hc := hi.out
    subst hc
    have hmm : ∀ y ∈ pre,y ∈ readsL T.p1 T.p2 J.me := fun y hy => by
      obtain ⟨q,hq⟩ := hpre
      rw [← hq]
      exact List.mem_append_left _ hy
    rw [clip_map hmm] at hi
    have hw := wv_pre J k T hpre
    have hmr := hi.more
    obtain ⟨d,hd1,hd2⟩ := hi.memo
    have hlen : pre.length ≤ (readsL T.p1 T.p2 J.me).length := hpre.length_le
    have hst := hstop D X hD (by omega) ⟨rfl,by omega,hi.bs,hi.ds,⟨d,Nat.le_trans hd1 (Nat.add_le_add_left (Nat.mul_le_mul_right _ hlen) _),hd2⟩⟩ hd
    gi_wp2_with fail
    exact hst
end Go.Proofs.Ytadmcafbffjjbaa
namespace Go.Proofs.Ytadmcafbffjjbaa
set_option linter.all false
open Go.RowKit Go.Shelf
def MQ (J : Jb) (s : Value) (Bw Bf Bj Bb bm k : Nat) (t : Tg) (W : World) (g5 g6 g7 g9 c : Nat) (m : Int × Int) (arr idx : Value) (Q : Exit → Act → World → Prop) : Prop :=
  ∀ (u0 u8 A0 A1 A2 A3 A4 A5 A6 A7 A8 A9 Aa Ab Ac Ad Ae Af Ag Ah Ai Aj Ak Al Am An Ao Ap Aq Ar As At Aw Ax Ay Az C0 C1 C2 C3 C4 C5 C6 C7 C8 C9 Ca Cb Cc Cd Ce Cf Cg Ch Ci Cj Ck Cl Cm Cn Co Cp Cq Cr Cs Ct Cu Cv Cw Cx Cy Cz D0 D1 D2 D3 D4 D5 : Value) (w' : World) (ds : List Deferred),BS J s bm k t W g5 g6 g7 g9 m w' → DS W.heap.size w'.heap.size ds w' → (∃ d,d ≤ c ∧ Memo J w' bm d) → ∀ e,e = .normal ∨ e = .exit 1 → Q e ⟨#[u0,(.pointer (some ⟨Bw,0,none⟩)),(.pointer (some ⟨Bf,0,none⟩)),(.pointer (some ⟨Bj,0,none⟩)),(.pointer (some ⟨Bb,0,none⟩)),(.pointer (some ⟨g5,0,none⟩)),(.pointer (some ⟨g6,0,none⟩)),(.pointer (some ⟨g7,0,none⟩)),u8,(.pointer (some ⟨g9,0,none⟩)),A0,A1,A2,A3,A4,A5,A6,A7,A8,A9,Aa,Ab,Ac,Ad,Ae,Af,Ag,Ah,Ai,Aj,Ak,Al,Am,An,Ao,Ap,Aq,Ar,As,At,arr,idx,Aw,Ax,Ay,Az,C0,C1,C2,C3,C4,C5,C6,C7,C8,C9,Ca,Cb,Cc,Cd,Ce,Cf,Cg,Ch,Ci,Cj,Ck,Cl,Cm,Cn,Co,Cp,Cq,Cr,Cs,Ct,Cu,Cv,Cw,Cx,Cy,Cz,D0,D1,D2,D3,D4,D5],ds⟩ w'
theorem BS.moveS {J : Jb} {s : Value} {bm k : Nat} {t : Tg} {W w w' : World} {g5 g6 g7 g9 : Nat} {m : Int × Int} (h : BS J s bm k t W g5 g6 g7 g9 m w) (x : Int × Int) (a : Stp bm g7 g7 w w') (b : Bk w' g7 89 #[.int .i64 x.1,.int .i64 x.2]) : BS J s bm k t W g5 g6 g7 g9 x w' := by
  have l7 := h.b7.lt
  have e0 := h.lm
  have e3 := h.n7
  have d5 : g5 ≠ g7 := by rintro rfl; have := h.b5; rw [show Bk w g5 _ _ = _ from rfl] at this; have h7 := h.b7; unfold Bk at this h7; rw [h7] at this; simp [knownC] at this
  have d9 : g9 ≠ g7 := by rintro rfl; have := h.b9; have h7 := h.b7; unfold Bk at this h7; rw [h7] at this; simp [jobC] at this
  exact ⟨⟨a.os.trans h.gr.os,a.tape.trans h.gr.tape,a.output.trans h.gr.output,Nat.le_trans h.gr.size a.size,fun i hi hne => (a.same i (by have := h.gr.size; omega) (fun e => hne (by rw [e])) (by omega) (by omega)).trans (h.gr.block i hi hne)⟩,
    a.bk h.b5 (by have := h.n5; omega) d5 d5,a.bk h.b6 (by have := h.n6; omega) h.n67 h.n67,b,a.bk h.b9 (by have := h.n9; omega) d9 d9,h.lm,h.n5,h.n6,h.n7,h.n9,h.n67⟩
theorem DS.cons {lo hi B D : Nat} {ds : List Deferred} {w : World} (h : DS lo hi ds w) (hD : B ≤ D) (hd : w.heap[D]? = some (.deferred (some []))) (hlo : lo ≤ B ∧ hi ≤ w.heap.size ∧ hi ≤ B) : DS lo w.heap.size ({ target := .collected D,args := #[] } :: ds) w := ⟨fun d hm => by
  rcases List.mem_cons.1 hm with rfl | hm
  · exact ⟨D,rfl,by omega,(Array.getElem?_eq_some_iff.1 hd).1,hd⟩
  · obtain ⟨D',e,h1,h2,h3⟩ := h.1 d hm
    exact ⟨D',e,h1,by omega,h3⟩,List.pairwise_cons.2 ⟨fun d hm e => by
  obtain ⟨D',e',h1,h2,h3⟩ := h.1 d hm
  rw [e'] at e
  injection e with e1 e2
  injection e1 with e3
  omega,h.2⟩⟩
theorem ch_no {J : Jb} {k : Nat} {t T : Tg} {m : Int × Int} {st : Int} (hT : T = strk J t st) (hs : spoilI J.le T = 2) (h : m.2 ≤ wv J k T (readsL T.p1 T.p2 J.me)) : (choose J (fun t => (bestM J k t).2) t m st) = m := by
  subst hT
  unfold choose
  rw [if_neg (by rw [hs]; simp),if_pos (by exact h)]
theorem ch_yes {J : Jb} {k : Nat} {t T : Tg} {m : Int × Int} {st : Int} (hT : T = strk J t st) (hs : spoilI J.le T = 2) (h : wv J k T (readsL T.p1 T.p2 J.me) < m.2) : (choose J (fun t => (bestM J k t).2) t m st) = (st,wv J k T (readsL T.p1 T.p2 J.me)) := by
  subst hT
  unfold choose
  rw [if_neg (by rw [hs]; simp),if_neg (by show ¬ (m.2 ≤ wv J k (strk J t st) _); omega)]
  rfl
set_option maxHeartbeats 4000000 in
set_option maxRecDepth 1000000 in
theorem bm_mb4 {J : Jb} {sa : Option Addr} {sn sc : Nat} {Bw Bf Bj Bb bm k cnt : Nat} {t : Tg} {W : World} {g5 g6 g7 g9 : Nat} {m : Int × Int} {T : Tg} {g12 g13 c : Nat} {ds : List Deferred} {w : World} {st : Int} {arr idx : Value} {Q : Exit → Act → World → Prop} {u0 u8 A0 A4 A5 A6 A7 A8 A9 Aa Ab Ac Ad Ae Af Ag Ah Ai Aj Ak Al Am An Ao Ap Aq Ar As At Aw Ax Ay Az C0 C1 C2 C3 C4 C5 C6 C7 C8 C9 Ca Cb Cc Cd Ce Cf Cg Ch Ci Cj Ck Cl Cm Cn Co Cp Cq Cr Cs Ct Cu Cv Cw Cx Cy Cz D0 D1 D2 D3 D4 D5 : Value}
    (ih : BestOK J (.slice sa sn sc) Bw Bf Bj Bb bm k) (HE : Env J (.slice sa sn sc) Bw Bf Bj Bb bm W) (HM : Memo J W bm cnt) (hs : BS J (.slice sa sn sc) bm k t W g5 g6 g7 g9 m w) (hd : DS W.heap.size w.heap.size ds w) (hm : ∃ d,d ≤ c ∧ Memo J w bm d) (hcs : c + 1000 * cost k ≤ 1000000000000000) (hk4 : k ≤ 4) (hme : 0 ≤ J.me ∧ J.me ≤ 6)
    (h12 : Bk w g12 104 (jobC (J.setTg T) (.slice sa sn sc))) (h13 : Bk w g13 3 #[.int .i64 0]) (hT : TgIn k T) (hTT : T = strk J t st) (hsp : spoilI J.le T = 2)
    (hf : (W.heap.size ≤ g12 ∧ g12 ≠ g5 ∧ g12 ≠ g6 ∧ g12 ≠ g7 ∧ g12 ≠ g9) ∧ (W.heap.size ≤ g13 ∧ g13 ≠ g5 ∧ g13 ≠ g6 ∧ g13 ≠ g7 ∧ g13 ≠ g9)) (hQ : MQ J (.slice sa sn sc) Bw Bf Bj Bb bm k t W g5 g6 g7 g9 (c + 1000 * cost k) (choose J (fun t => (bestM J k t).2) t m st) arr idx Q) : Code.wp Try.prog mb4 Q ⟨#[u0,(.pointer (some ⟨Bw,0,none⟩)),(.pointer (some ⟨Bf,0,none⟩)),(.pointer (some ⟨Bj,0,none⟩)),(.pointer (some ⟨Bb,0,none⟩)),(.pointer (some ⟨g5,0,none⟩)),(.pointer (some ⟨g6,0,none⟩)),(.pointer (some ⟨g7,0,none⟩)),u8,(.pointer (some ⟨g9,0,none⟩)),A0,(.int .i64 st),(.pointer (some ⟨g12,0,none⟩)),(.pointer (some ⟨g13,0,none⟩)),A4,A5,A6,A7,A8,A9,Aa,Ab,Ac,Ad,Ae,Af,Ag,Ah,Ai,Aj,Ak,Al,Am,An,Ao,Ap,Aq,Ar,As,At,arr,idx,Aw,Ax,Ay,Az,C0,C1,C2,C3,C4,C5,C6,C7,C8,C9,Ca,Cb,Cc,Cd,Ce,Cf,Cg,Ch,Ci,Cj,Ck,Cl,Cm,Cn,Co,Cp,Cq,Cr,Cs,Ct,Cu,Cv,Cw,Cx,Cy,Cz,D0,D1,D2,D3,D4,D5],ds⟩ w := by
  rw [mb4_eq]
  have hE' := HE.grown HM hs.gr
  have j17 := hE'.job.at_ 17 (.int .i64 J.me) rfl
  have a0 := h12.at_ 0 (.int .i64 T.p1) rfl
  have a1 := h12.at_ 1 (.int .i64 T.p2) rfl
  have HE' := hidMk hE'
  have HS := hidMk hs
  have HD := hidMk hd
  have HMM := hidMk hm
  have H12 := hidMk h12
  have H13 := hidMk h13
  have HQ := hidMk hQ
  have HF := hidMk hf
  have HTT := hidMk hTT
  have HSP := hidMk hsp
  have HT := hidMk hT
  have HC := hidMk hcs
  have HME := hidMk hme
  clear hE' hs hd hm h12 h13 hQ hf hTT hsp hT hcs hme
  go_wp2_with (go_at_call 49; refine (readings_any T.p1 T.p2 J.me _).mono ?_; rintro e w2 ⟨rfl,rfl⟩)
  have q1 : Below w.heap.size w ((w.alloc (.cells #[.int .i64 T.p1,.int .i64 T.p2] 23)).alloc (.cells #[.int .i64 J.me] 3)) := ((Below.refl _ _).alloc (Nat.le_refl _) _).alloc (by simp) _
  have bp : Bk ((w.alloc (.cells #[.int .i64 T.p1,.int .i64 T.p2] 23)).alloc (.cells #[.int .i64 J.me] 3)) w.heap.size 23 #[.int .i64 T.p1,.int .i64 T.p2] := (Bk.new _ _ _).alloc _
  have bq : Bk ((w.alloc (.cells #[.int .i64 T.p1,.int .i64 T.p2] 23)).alloc (.cells #[.int .i64 J.me] 3)) (w.heap.size + 1) 3 #[.int .i64 J.me] := Bk.newAt _ _ _ _ (by simp)
  have zz : ((w.alloc (.cells #[.int .i64 T.p1,.int .i64 T.p2] 23)).alloc (.cells #[.int .i64 J.me] 3)).heap.size = w.heap.size + 2 := by simp
  generalize ((w.alloc (.cells #[.int .i64 T.p1,.int .i64 T.p2] 23)).alloc (.cells #[.int .i64 J.me] 3)) = w2 at q1 bp bq zz ⊢
  have l12 := H12.out.lt
  have l13 := H13.out.lt
  have hlm := HS.out.lm
  have hzz := HS.out.gr.size
  obtain ⟨d0,hd0,hmd0⟩ := HMM.out
  refine (wpIn_wide (n := 3)).1 (bm_rf (lo := W.heap.size) (hi := w.heap.size) (T := T) ih HE HM ⟨HS.out.below q1,?_,⟨d0,by simpa using hd0,hmd0.kept (grown_of_below q1 none) (by simp)⟩,⟨T.p1,T.p2,H12.out.below q1 l12⟩,H13.out.below q1 l13,.inl rfl⟩ bp bq HT.out HME.out HC.out hk4 HF.out (by omega) (by omega) hlm (by omega) ?_ ?_)
  · exact HD.out.own (grown_of_below q1 none) (by simp)
  · intro D w' hD hI hdd
    have hlt : wv J k T (readsL T.p1 T.p2 J.me) < m.2 := by
      rcases hI.less with h | h
      · exfalso
        have hl : ((readsL T.p1 T.p2 J.me)).length = 0 := by rw [h]; rfl
        unfold readsL at hl
        rw [List.length_map,List.length_range] at hl
        have := HT.out.2
        have := HME.out
        omega
      · exact h
    have hch := ch_yes HTT.out HSP.out hlt
    have z13 := hI.val.at_ 0 _ rfl
    have HI := hidMk hI
    have HDD := hidMk hdd
    have HCH := hidMk hch
    clear hI hdd hch hlt
    have y0 := HI.out.bs.b7.at_ 0 _ rfl
    have y1 := HI.out.bs.b7.at_ 1 _ rfl
    have f0 := HI.out.bs.b7.free 0
    have f1 := HI.out.bs.b7.free 1
    go_wp2_with fail
    have hQ := HQ.out
    rw [HCH.out] at hQ
    have hst7 : Stp bm g7 g7 w' ((w'.setCell ⟨g7,0,none⟩ (.int .i64 st)).setCell ⟨g7,1,none⟩ (.int .i64 (wv J k T (readsL T.p1 T.p2 J.me)))) := (Stp.cell (g := g7) (h := g7) ⟨g7,0,none⟩ _ (.inl rfl)).trans (Stp.cell ⟨g7,1,none⟩ _ (.inl rfl))
    have hb7 := (HI.out.bs.b7.put 0 (.int .i64 st)).put 1 (.int .i64 (wv J k T (readsL T.p1 T.p2 J.me)))
    have hb := HI.out.bs.moveS (st,wv J k T (readsL T.p1 T.p2 J.me)) hst7 hb7
    obtain ⟨d,hd1,hd2⟩ := HI.out.memo
    have hn7 := HI.out.bs.n7
    have hDl := (Array.getElem?_eq_some_iff.1 HDD.out).1
    have hr := reads_len (a := T.p1) (b := T.p2) (m := J.me) (by have h0 := HT.out.1; simp only [Tg.In] at h0; have := HME.out; omega)
    have hmu : ((readsL T.p1 T.p2 J.me)).length * cost k ≤ 1000 * cost k := Nat.mul_le_mul_right _ hr
    refine hQ _ _ _ _ _ _ _ _ _ _ _ _ _ _ _ _ _ _ _ _ _ _ _ _ _ _ _ _ _ _ _ _ _ _ _ _ _ _ _ _ _ _ _ _ _ _ _ _ _ _ _ _ _ _ _ _ _ _ _ _ _ _ _ _ _ _ _ _ _ _ _ _ _ _ _ _ _ _ _ _ hb ?_ ⟨d,by omega,(hd2.kept (grownBy_setCellA w' g7 0 _) (by intro e; injection e with e; omega)).kept (grownBy_setCellA _ g7 1 _) (by intro e; injection e with e; omega)⟩ .normal (.inl rfl)
    · have hds := (HI.out.ds.cons hD HDD.out (by omega)).stp hst7 hlm HI.out.bs.b7 HI.out.bs.b7
      rw [size_setCell',size_setCell']
      exact hds
  · intro D w' hD hmore hI hdd
    have hch := ch_no HTT.out HSP.out hmore
    have HI := hidMk hI
    have HDD := hidMk hdd
    have HCH := hidMk hch
    clear hI hdd hch hmore
    go_wp2_with fail
    have hQ := HQ.out
    rw [HCH.out] at hQ
    obtain ⟨d,hd1,hd2⟩ := HI.out.memo
    have hDl := (Array.getElem?_eq_some_iff.1 HDD.out).1
    have hr := reads_len (a := T.p1) (b := T.p2) (m := J.me) (by have h0 := HT.out.1; simp only [Tg.In] at h0; have := HME.out; omega)
    have hmu : ((readsL T.p1 T.p2 J.me)).length * cost k ≤ 1000 * cost k := Nat.mul_le_mul_right _ hr
    exact hQ _ _ _ _ _ _ _ _ _ _ _ _ _ _ _ _ _ _ _ _ _ _ _ _ _ _ _ _ _ _ _ _ _ _ _ _ _ _ _ _ _ _ _ _ _ _ _ _ _ _ _ _ _ _ _ _ _ _ _ _ _ _ _ _ _ _ _ _ _ _ _ _ _ _ _ _ _ _ _ _ HI.out.bs (HI.out.ds.cons hD HDD.out (by omega)) ⟨d,by omega,hd2⟩ (.exit 1) (.inr rfl)
end Go.Proofs.Ytadmcafbffjjbaa
