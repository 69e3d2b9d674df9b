/- Part 16 of the proof: GnK, GnL, KitJ. -/
import Derived.Deep.WholeRow
import Derived.Deep.MidRow
import Derived.Test.YtadmcafbffjjbaaE15
import Derived.Test.YtadmcafbffjjbaaE01
import Derived.Test.YtadmcafbffjjbaaE00
namespace Go.Proofs.Ytadmcafbffjjbaa
set_option linter.all false
open Go.RowKit
theorem GL.other14 {w0 : World} {b g4 g7 g10 g11 : Nat} {J : Jb} {ja : Option Addr} {jn jc : Nat} {ka : Option Addr} {kc : Nat} {X : R2} {w : World} {T : Tg} {x : Fd} {g14 : Nat} (h : GL w0 w b g4 g7 g10 g11 J ja jn jc ka kc X T x) (hn : g14 ≠ b ∧ g14 ≠ g4 ∧ g14 ≠ g7 ∧ g14 ≠ g10 ∧ g14 ≠ g11 ∧ w0.heap.size ≤ g14 ∧ (∀ q o,ka = some ⟨q,o,none⟩ → J.sh ≠ [] → g14 ≠ q) ∧ (∀ q o,ja = some ⟨q,o,none⟩ → J.sh ≠ [] → g14 ≠ q)) (u v : Value) : GL w0 ((w.setCell ⟨g14,0,none⟩ u).setCell ⟨g14,1,none⟩ v) b g4 g7 g10 g11 J ja jn jc ka kc X T x := by
  obtain ⟨n1,n2,n3,n4,n5,n6,n7,n8⟩ := hn
  have hoth : ∀ q,q ≠ g14 → ((w.setCell ⟨g14,0,none⟩ u).setCell ⟨g14,1,none⟩ v).heap[q]? = w.heap[q]? := fun q hq => (Below.heap_setCell _ ⟨g14,1,none⟩ _ q hq).trans (Below.heap_setCell _ ⟨g14,0,none⟩ _ q hq)
  have hsz : ((w.setCell ⟨g14,0,none⟩ u).setCell ⟨g14,1,none⟩ v).heap.size = w.heap.size := Nat.le_antisymm (by simp) (by simp)
  obtain ⟨t,s,hp⟩ := h.pt
  refine ⟨(h.b0.setCell (p := ⟨g14,0,none⟩) n6 _).setCell (p := ⟨g14,1,none⟩) n6 _,h.hb,⟨t,s,(hoth b n1.symm).trans hp⟩,(hoth _ n2.symm).trans h.job,h.rg.off (by omega) hoth (fun k r hr => ?_),(hoth _ n3.symm).trans h.wx,(hoth _ n4.symm).trans h.fx,(hoth _ n5.symm).trans h.kn,h.krg.off (by omega) hoth (fun k r hr => ?_),h.ne,h.kb,h.jb⟩
  · obtain ⟨q,o,h1,_⟩ := h.jb k r hr
    exact ⟨q,o,h1,fun e => n8 q o h1 (fun e2 => by rw [e2] at hr; simp at hr) e.symm⟩
  · obtain ⟨q,o,h1,_⟩ := h.kb k r hr
    exact ⟨q,o,h1,fun e => n7 q o h1 (fun e2 => by rw [e2] at hr; simp at hr) e.symm⟩
set_option maxHeartbeats 1000000 in
set_option maxRecDepth 1000000 in
theorem zp0 {w0 : World} {b g4 g7 g10 g11 : Nat} {J : Jb} {ja : Option Addr} {jn jc : Nat} {ka : Option Addr} {kc : Nat} {X : R2} {n s : Int} {th : Bool} {Q : Exit → Act → World → Prop} {T : Tg} {x : Fd} {w : World} {u0 u1 u2 u6 u8 u9 A4 A5 A6 A7 A8 A9 Aa Ab Ac Ad Ae Af Ag Ah Ai Aj Ak Al Am An Ao Ap Aq Ar As At Au Av Aw Ax Ay Az C0 C1 C2 C3 C4 C5 C6 C7 C8 C9 Ca Cb Cc Cd Ce Cf Cg Ch Ci Cj Ck Cl Cm Cn Co Cp Cq Cr Cs Ct Cu Cv Cw Cx Cy Cz D0 D1 D2 D3 D4 D5 D6 D7 D8 D9 Da Db Dc Dd De Df Dg Dh Di Dj Dk Dl Dm Dn Do Dp Dq Dr Ds Dt Du Dv Dw Dx Dy Dz E0 E1 E2 E3 E4 E5 E6 E7 E8 E9 Ea Eb Ec Ed Ee Ef Eg Eh Ei Ej Ek El Em En Eo Ep Eq Er Es Et Eu Ev Ew Ex Ey Ez F0 F1 F2 F3 F4 F5 F6 F7 F8 F9 Fa Fb Fc u167 Fe Ff Fg Fh Fi Fj Fk Fl Fm Fn Fo Fp Fq Fr Fs Ft Fu Fv Fw Fx Fy Fz L0 L1 L2 L3 L4 L5 L6 L7 L8 L9 La Lb Lc Ld Le Lf Lg Lh Li Lj Lk Ll Lm Ln Lo Lp Lq Lr : Value} (hF : J.Full) (hW : WOK J X) (htun : TunOK) (hjn : jn = J.sh.length) (hn4 : 0 ≤ n ∧ n ≤ 4) (h0s : 0 ≤ s) (hQ : GQ Q w0 b g4 g7 g10 g11 J ja jn jc ka kc X n s th) (hs : GL w0 w b g4 g7 g10 g11 J ja jn jc ka kc X T x) (hgi : GIv J n s T x) : Code.wp Try.prog zb0 Q ⟨#[u0,u1,u2,(.pointer (some ⟨b,0,none⟩)),(.pointer (some ⟨g4,0,none⟩)),(.int .i64 n),u6,(.pointer (some ⟨g7,0,none⟩)),u8,u9,(.pointer (some ⟨g10,0,none⟩)),(.pointer (some ⟨g11,0,none⟩)),(.bool th),(.int .i64 s),A4,A5,A6,A7,A8,A9,Aa,Ab,Ac,Ad,Ae,Af,Ag,Ah,Ai,Aj,Ak,Al,Am,An,Ao,Ap,Aq,Ar,As,At,Au,Av,Aw,Ax,Ay,Az,C0,C1,C2,C3,C4,C5,C6,C7,C8,C9,Ca,Cb,Cc,Cd,Ce,Cf,Cg,Ch,Ci,Cj,Ck,Cl,Cm,Cn,Co,Cp,Cq,Cr,Cs,Ct,Cu,Cv,Cw,Cx,Cy,Cz,D0,D1,D2,D3,D4,D5,D6,D7,D8,D9,Da,Db,Dc,Dd,De,Df,Dg,Dh,Di,Dj,Dk,Dl,Dm,Dn,Do,Dp,Dq,Dr,Ds,Dt,Du,Dv,Dw,Dx,Dy,Dz,E0,E1,E2,E3,E4,E5,E6,E7,E8,E9,Ea,Eb,Ec,Ed,Ee,Ef,Eg,Eh,Ei,Ej,Ek,El,Em,En,Eo,Ep,Eq,Er,Es,Et,Eu,Ev,Ew,Ex,Ey,Ez,F0,F1,F2,F3,F4,F5,F6,F7,F8,F9,Fa,Fb,Fc,u167,Fe,Ff,Fg,Fh,Fi,Fj,Fk,Fl,Fm,Fn,Fo,Fp,Fq,Fr,Fs,Ft,Fu,Fv,Fw,Fx,Fy,Fz,L0,L1,L2,L3,L4,L5,L6,L7,L8,L9,La,Lb,Lc,Ld,Le,Lf,Lg,Lh,Li,Lj,Lk,Ll,Lm,Ln,Lo,Lp,Lq,Lr],[]⟩ w := by
  rw [zb0_eq]
  have HF := hidMk hF
  have HW := hidMk hW
  have HT := hidMk htun
  have HJN := hidMk hjn
  have HQ := hidMk hQ
  have HS := hidMk hs
  clear hF hW htun hjn hQ hs
  have HOK := hidMk hgi.ok
  have HGI := hidMk hgi
  have hjm : jn ≤ 9223372036854775807 := by have := HF.out.len; rw [HJN.out]; omega
  have hme := HF.out.me
  have hFT := check_full hgi.ok
  have hp := hFT.p
  simp only [Jb.setTg] at hp
  have hxp := hgi.has.p
  have wn : IntKind.i64.wrap (-J.me) = -J.me := IntWalk.i64_in _ (by omega)
  clear hgi hFT
  refine wp_seq_k fun K0 hK0 => ?_
  refine region_via (R := fun a_ e_ a' w' => e_ = .normal ∧ ∃ (v92 v93 v94 v95 v96 v97 v98 v99 v100 v101 v102 v103 v91 v104 v105 : Value) (g14 : Nat) (m : Int),a' = (((((((((((((((((a_.put (some 92) v92).put (some 93) v93).put (some 94) v94).put (some 95) v95).put (some 96) v96).put (some 97) v97).put (some 98) v98).put (some 99) v99).put (some 100) v100).put (some 101) v101).put (some 102) v102).put (some 103) v103).put (some 91) v91).put (some 104) v104).put (some 105) v105).put (some 14) (.pointer (some ⟨g14,0,none⟩))).put (some 15) (.int .i64 0)) ∧ (-J.me ≤ m ∧ m ≤ J.me) ∧ GL w0 w' b g4 g7 g10 g11 J ja jn jc ka kc X T x ∧ Bk w' g14 23 #[.int .i64 (heardR T.p1 T.p2 (x.p + m) J.me).1,.int .i64 (heardR T.p1 T.p2 (x.p + m) J.me).2] ∧ g14 ≠ g11) ?_ ?_
  rotate_left
  · rintro e_ a' w' ⟨rfl,v92,v93,v94,v95,v96,v97,v98,v99,v100,v101,v102,v103,v91,v104,v105,g14,m,rfl,hm,hs',h14,hne⟩
    refine hK0 _ _ ?_
    simp only [Act.put,aT,aZ,aS]
    obtain ⟨q1,q2,q3⟩ := gi_heard HGI.out hm hme.1 hn4.2
    have q4 := heard_in HGI.out.has hm
    exact zp1 (T1 := tgH T (heardR T.p1 T.p2 (x.p + m) J.me)) HF.out HW.out HT.out HJN.out hn4 h0s HQ.out hs' ⟨rfl,rfl,rfl,rfl⟩ ⟨q4.2.2.1,q4.2.2.2⟩ q1 q2 q3 h14 hne
  have hS := HS.out.next (Below.refl _ _).drew
  refine wp_region_held_drew (S := fun w' => GL w0 w' b g4 g7 g10 g11 J ja jn jc ka kc X T x) (by kernel_rfl) hS (fun hS0 => ?_)
  clear hS0 HS
  generalize w.drew = wd at hS ⊢
  refine wpAnyH_take (i := 0) rfl (by kernel_rfl) (by kernel_rfl) (by kernel_rfl) (fun _ _ _ h => by cases h.1) (yields_row (by rfl) 30 _ rfl g11 (jobC (J.setTg T) (.slice ka jn kc)) rfl 30 (fun w' hw => hw.kn) Try.underlying30 szJob) (by assumption) ?_
  (try simp only [Act.put,aT,aZ,aS])
  refine wpAnyH_take (i := 1) (v := ?_) rfl (by kernel_rfl) (by kernel_rfl) (by kernel_rfl) (fun _ _ _ h => by cases h.1) (.inl ⟨by rfl,?_⟩) (by assumption) ?_
  rotate_left
  · (intro w' hSw; (try dsimp only at hSw); skip; go_simp <;> with_reducible rfl)
  (try simp only [Act.put,aT,aZ,aS])
  refine wpAnyH_take (i := 2) (v := ?_) rfl (by kernel_rfl) (by kernel_rfl) (by kernel_rfl) (fun _ _ _ h => by cases h.1) (.inl ⟨by rfl,?_⟩) (by assumption) ?_
  rotate_left
  · (intro w' hSw; (try dsimp only at hSw); (have q0 := hSw.fx.at_ 0 (.int .i64 x.p) rfl; have q1 := hSw.job.at_ 17 (.int .i64 J.me) rfl); go_simp <;> with_reducible rfl)
  (try simp only [Act.put,aT,aZ,aS])
  refine wpAnyH_take (i := 3) (v := ?_) rfl (by kernel_rfl) (by kernel_rfl) (by kernel_rfl) (fun _ _ _ h => by cases h.1) (.inl ⟨by rfl,?_⟩) (by assumption) ?_
  rotate_left
  · (intro w' hSw; (try dsimp only at hSw); skip; go_simp <;> with_reducible rfl)
  (try simp only [Act.put,aT,aZ,aS])
  refine wpAnyH_take (i := 4) (v := ?_) rfl (by kernel_rfl) (by kernel_rfl) (by kernel_rfl) (fun _ _ _ h => by cases h.1) (.inl ⟨by rfl,?_⟩) (by assumption) ?_
  rotate_left
  · (intro w' hSw; (try dsimp only at hSw); skip; go_simp <;> with_reducible rfl)
  (try simp only [Act.put,aT,aZ,aS])
  refine wpAnyH_take (i := 5) (v := ?_) rfl (by kernel_rfl) (by kernel_rfl) (by kernel_rfl) (fun _ _ _ h => by cases h.1) (.inl ⟨by rfl,?_⟩) (by assumption) ?_
  rotate_left
  · (intro w' hSw; (try dsimp only at hSw); (have q0 := hSw.fx.at_ 0 (.int .i64 x.p) rfl; have q1 := hSw.job.at_ 17 (.int .i64 J.me) rfl); go_simp <;> with_reducible rfl)
  (try simp only [Act.put,aT,aZ,aS])
  refine wpAnyH_take (i := 6) (v := ?_) rfl (by kernel_rfl) (by kernel_rfl) (by kernel_rfl) (fun _ _ _ h => by cases h.1) (.inl ⟨by rfl,?_⟩) (by assumption) ?_
  rotate_left
  · (intro w' hSw; (try dsimp only at hSw); skip; go_simp <;> with_reducible rfl)
  (try simp only [Act.put,aT,aZ,aS])
  refine wpAnyH_take (i := 7) (v := ?_) rfl (by kernel_rfl) (by kernel_rfl) (by kernel_rfl) (fun _ _ _ h => by cases h.1) (.inl ⟨by rfl,?_⟩) (by assumption) ?_
  rotate_left
  · (intro w' hSw; (try dsimp only at hSw); skip; go_simp <;> with_reducible rfl)
  (try simp only [Act.put,aT,aZ,aS])
  refine wpAnyH_take (i := 8) (v := ?_) rfl (by kernel_rfl) (by kernel_rfl) (by kernel_rfl) (fun _ _ _ h => by cases h.1) (.inl ⟨by rfl,?_⟩) (by assumption) ?_
  rotate_left
  · (intro w' hSw; (try dsimp only at hSw); (have q0 := hSw.fx.at_ 0 (.int .i64 x.p) rfl; have q1 := hSw.job.at_ 17 (.int .i64 J.me) rfl); go_simp <;> with_reducible rfl)
  (try simp only [Act.put,aT,aZ,aS])
  refine wpAnyH_ready (rs := [9,15]) (by kernel_rfl) (by simp) ?_
  refine AllReadyH.cons rfl (fun K hK => ?_) ?_
  · go_simp
    go_at_call 17
    refine (withinP b (-J.me) J.me _ hS.pt (by omega)).mono ?_
    rintro e' wX ⟨m,rfl,hm,hk,hp⟩
    have hS_ := hS.pot hk hp
    have wm : IntKind.i64.wrap (x.p + m) = x.p + m := IntWalk.i64_in _ (by omega)
    clear hS hk hp
    have hS := hS_
    clear hS_
    go_wp2_with fail
    refine hK.out _ _ hS (fun _ => ?_)
    clear hK K
    (try simp only [Act.put,aT,aZ,aS])
    refine wpAnyH_take (i := 10) (v := ?_) rfl (by kernel_rfl) (by kernel_rfl) (by kernel_rfl) (fun _ _ _ h => by cases h.1) (.inl ⟨by rfl,?_⟩) (by assumption) ?_
    rotate_left
    · (intro w' hSw; (try dsimp only at hSw); skip; go_simp <;> with_reducible rfl)
    (try simp only [Act.put,aT,aZ,aS])
    refine wpAnyH_ready (rs := [11,15]) (by kernel_rfl) (by simp) ?_
    refine AllReadyH.cons rfl (fun K hK => ?_) ?_
    · go_simp
      go_at_call 35
      refine (hearF_ok (J.setTg T) HOK.out (x.p + m) ka jn kc _ HJN.out hjm hS.krg).mono ?_
      rintro e' wY ⟨rfl,hbX⟩
      have hS_ := hS.next hbX
      clear hS hbX
      have hS := hS_
      clear hS_
      have hh : hearI (J.setTg T) (x.p + m) = ((heardR T.p1 T.p2 (x.p + m) J.me),0) := by
        show (if x.p + m < T.p1 - J.me ∨ T.p2 + J.me < x.p + m then _ else _) = _
        rw [if_neg (by omega)]
        rfl
      rw [hh]
      clear hh
      obtain ⟨ha,hha⟩ : ∃ v,v = (heardR T.p1 T.p2 (x.p + m) J.me).1 := ⟨_,rfl⟩
      obtain ⟨hb,hhb⟩ : ∃ v,v = (heardR T.p1 T.p2 (x.p + m) J.me).2 := ⟨_,rfl⟩
      dsimp only
      rw [← hha,← hhb]
      have HHH := hidMk (And.intro hha hhb)
      clear hha hhb
      go_wp2_with fail
      refine hK.out _ _ hS (fun _ => ?_)
      clear hK K
      (try simp only [Act.put,aT,aZ,aS])
      refine wpAnyH_take (i := 12) (v := ?_) rfl (by kernel_rfl) (by kernel_rfl) (by kernel_rfl) (fun _ _ _ h => by cases h.1) (.inl ⟨by rfl,?_⟩) (by assumption) ?_
      rotate_left
      · (intro w' hSw; (try dsimp only at hSw); skip; go_simp <;> with_reducible rfl)
      (try simp only [Act.put,aT,aZ,aS])
      refine wpAnyH_take (i := 13) (v := ?_) rfl (by kernel_rfl) (by kernel_rfl) (by kernel_rfl) (fun _ _ _ h => by cases h.1) (.inl ⟨by rfl,?_⟩) (by assumption) ?_
      rotate_left
      · (intro w' hSw; (try dsimp only at hSw); skip; go_simp <;> with_reducible rfl)
      (try simp only [Act.put,aT,aZ,aS])
      refine wpAnyH_take (i := 14) (v := ?_) rfl (by kernel_rfl) (by kernel_rfl) (by kernel_rfl) (fun _ _ _ h => by cases h.1) (.inl ⟨by rfl,?_⟩) (by assumption) ?_
      rotate_left
      · (intro w' hSw; (try dsimp only at hSw); skip; go_simp <;> with_reducible rfl)
      (try simp only [Act.put,aT,aZ,aS])
      refine wpAnyH_ready (rs := [15]) (by kernel_rfl) (by simp) ?_
      refine AllReadyH.cons rfl (fun K hK => ?_) ?_
      · have hS_ := hS.next ((Below.refl _ _).alloc (Nat.le_refl wY.heap.size) (.cells #[.int .i64 0,.int .i64 0] 23))
        have hA : Bk (wY.alloc (.cells #[.int .i64 0,.int .i64 0] 23)) wY.heap.size 23 #[.int .i64 0,.int .i64 0] := Bk.new _ _ _
        have hn14 : wY.heap.size ≠ b ∧ wY.heap.size ≠ g4 ∧ wY.heap.size ≠ g7 ∧ wY.heap.size ≠ g10 ∧ wY.heap.size ≠ g11 ∧ w0.heap.size ≤ wY.heap.size ∧ (∀ q o,ka = some ⟨q,o,none⟩ → J.sh ≠ [] → wY.heap.size ≠ q) ∧ (∀ q o,ja = some ⟨q,o,none⟩ → J.sh ≠ [] → wY.heap.size ≠ q) := by
          refine ⟨by have := hS.pt.lt; omega,by have := hS.job.lt; omega,by have := hS.wx.lt; omega,by have := hS.fx.lt; omega,by have := hS.kn.lt; omega,hS.b0.size,fun q o hq hne => ?_,fun q o hq hne => ?_⟩
          · obtain ⟨b',off,h1,h2,_⟩ := hS.krg 0 (J.sh[0]'(List.length_pos_iff.2 hne)) (List.getElem?_eq_getElem _)
            rw [hq] at h1
            cases h1
            omega
          · obtain ⟨b',off,h1,h2,_⟩ := hS.rg 0 (J.sh[0]'(List.length_pos_iff.2 hne)) (List.getElem?_eq_getElem _)
            rw [hq] at h1
            cases h1
            omega
        go_simp
        show K _ (wY.alloc (.cells #[.int .i64 0,.int .i64 0] 23))
        refine hK.out _ _ hS_ (fun _ => ?_)
        clear hS
        have hS := hS_
        clear hS_
        generalize wY.heap.size = g14 at hA hn14 ⊢
        generalize (wY.alloc (.cells #[.int .i64 0,.int .i64 0] 23)) = wA at hA hS ⊢
        clear hK K
        (try simp only [Act.put,aT,aZ,aS])
        refine wpAnyH_ready (rs := [16]) (by kernel_rfl) (by simp) ?_
        refine AllReadyH.cons rfl (fun K hK => ?_) ?_
        · have z0 := hA.at_ 0 _ rfl
          have z1 := hA.at_ 1 _ rfl
          have f0 := hA.free 0
          have f1 := hA.free 1
          have hN := hidMk hn14
          clear hn14
          go_simp
          have hA2 := hA.put2 (.int .i64 ha) (.int .i64 hb)
          have hS_ := hS.other14 hN.out (.int .i64 ha) (.int .i64 hb)
          refine hK.out _ _ hS_ (fun _ => ?_)
          clear z0 z1 f0 f1 hS hA
          have hS := hS_
          clear hS_
          clear hK K
          (try simp only [Act.put,aT,aZ,aS])
          refine wpAnyH_take (i := 17) (v := ?_) rfl (by kernel_rfl) (by kernel_rfl) (by kernel_rfl) (fun _ _ _ h => by cases h.1) (.inl ⟨by rfl,?_⟩) (by assumption) ?_
          rotate_left
          · (intro w' hSw; (try dsimp only at hSw); skip; go_simp <;> with_reducible rfl)
          (try simp only [Act.put,aT,aZ,aS])
          refine wpAnyH_done (by kernel_rfl) ?_ _
          exact ⟨rfl,_,_,_,_,_,_,_,_,_,_,_,_,_,_,_,g14,m,rfl,hm,hS,by rw [← HHH.out.1,← HHH.out.2]; exact hA2,hN.out.2.2.2.2.1⟩
        exact AllReadyH.nil
      exact AllReadyH.nil
    refine AllReadyH.cons rfl (fun K hK => ?_) ?_
    · have hS_ := hS.next ((Below.refl _ _).alloc (Nat.le_refl wX.heap.size) (.cells #[.int .i64 0,.int .i64 0] 23))
      have hA : Bk (wX.alloc (.cells #[.int .i64 0,.int .i64 0] 23)) wX.heap.size 23 #[.int .i64 0,.int .i64 0] := Bk.new _ _ _
      have hn14 : wX.heap.size ≠ b ∧ wX.heap.size ≠ g4 ∧ wX.heap.size ≠ g7 ∧ wX.heap.size ≠ g10 ∧ wX.heap.size ≠ g11 ∧ w0.heap.size ≤ wX.heap.size ∧ (∀ q o,ka = some ⟨q,o,none⟩ → J.sh ≠ [] → wX.heap.size ≠ q) ∧ (∀ q o,ja = some ⟨q,o,none⟩ → J.sh ≠ [] → wX.heap.size ≠ q) := by
        refine ⟨by have := hS.pt.lt; omega,by have := hS.job.lt; omega,by have := hS.wx.lt; omega,by have := hS.fx.lt; omega,by have := hS.kn.lt; omega,hS.b0.size,fun q o hq hne => ?_,fun q o hq hne => ?_⟩
        · obtain ⟨b',off,h1,h2,_⟩ := hS.krg 0 (J.sh[0]'(List.length_pos_iff.2 hne)) (List.getElem?_eq_getElem _)
          rw [hq] at h1
          cases h1
          omega
        · obtain ⟨b',off,h1,h2,_⟩ := hS.rg 0 (J.sh[0]'(List.length_pos_iff.2 hne)) (List.getElem?_eq_getElem _)
          rw [hq] at h1
          cases h1
          omega
      go_simp
      show K _ (wX.alloc (.cells #[.int .i64 0,.int .i64 0] 23))
      refine hK.out _ _ hS_ (fun _ => ?_)
      clear hS
      have hS := hS_
      clear hS_
      generalize wX.heap.size = g14 at hA hn14 ⊢
      generalize (wX.alloc (.cells #[.int .i64 0,.int .i64 0] 23)) = wA at hA hS ⊢
      clear hK K
      (try simp only [Act.put,aT,aZ,aS])
      refine wpAnyH_ready (rs := [11]) (by kernel_rfl) (by simp) ?_
      refine AllReadyH.cons rfl (fun K hK => ?_) ?_
      · go_simp
        go_at_call 35
        refine (hearF_ok (J.setTg T) HOK.out (x.p + m) ka jn kc _ HJN.out hjm hS.krg).mono ?_
        rintro e' wY ⟨rfl,hbX⟩
        have hS_ := hS.next hbX
        have hA_ := hA.below hbX hA.lt
        clear hA
        have hA := hA_
        clear hA_
        clear hS hbX
        have hS := hS_
        clear hS_
        have hh : hearI (J.setTg T) (x.p + m) = ((heardR T.p1 T.p2 (x.p + m) J.me),0) := by
          show (if x.p + m < T.p1 - J.me ∨ T.p2 + J.me < x.p + m then _ else _) = _
          rw [if_neg (by omega)]
          rfl
        rw [hh]
        clear hh
        obtain ⟨ha,hha⟩ : ∃ v,v = (heardR T.p1 T.p2 (x.p + m) J.me).1 := ⟨_,rfl⟩
        obtain ⟨hb,hhb⟩ : ∃ v,v = (heardR T.p1 T.p2 (x.p + m) J.me).2 := ⟨_,rfl⟩
        dsimp only
        rw [← hha,← hhb]
        have HHH := hidMk (And.intro hha hhb)
        clear hha hhb
        go_wp2_with fail
        refine hK.out _ _ hS (fun _ => ?_)
        clear hK K
        (try simp only [Act.put,aT,aZ,aS])
        refine wpAnyH_take (i := 12) (v := ?_) rfl (by kernel_rfl) (by kernel_rfl) (by kernel_rfl) (fun _ _ _ h => by cases h.1) (.inl ⟨by rfl,?_⟩) (by assumption) ?_
        rotate_left
        · (intro w' hSw; (try dsimp only at hSw); skip; go_simp <;> with_reducible rfl)
        (try simp only [Act.put,aT,aZ,aS])
        refine wpAnyH_take (i := 13) (v := ?_) rfl (by kernel_rfl) (by kernel_rfl) (by kernel_rfl) (fun _ _ _ h => by cases h.1) (.inl ⟨by rfl,?_⟩) (by assumption) ?_
        rotate_left
        · (intro w' hSw; (try dsimp only at hSw); skip; go_simp <;> with_reducible rfl)
        (try simp only [Act.put,aT,aZ,aS])
        refine wpAnyH_take (i := 14) (v := ?_) rfl (by kernel_rfl) (by kernel_rfl) (by kernel_rfl) (fun _ _ _ h => by cases h.1) (.inl ⟨by rfl,?_⟩) (by assumption) ?_
        rotate_left
        · (intro w' hSw; (try dsimp only at hSw); skip; go_simp <;> with_reducible rfl)
        (try simp only [Act.put,aT,aZ,aS])
        refine wpAnyH_ready (rs := [16]) (by kernel_rfl) (by simp) ?_
        refine AllReadyH.cons rfl (fun K hK => ?_) ?_
        · have z0 := hA.at_ 0 _ rfl
          have z1 := hA.at_ 1 _ rfl
          have f0 := hA.free 0
          have f1 := hA.free 1
          have hN := hidMk hn14
          clear hn14
          go_simp
          have hA2 := hA.put2 (.int .i64 ha) (.int .i64 hb)
          have hS_ := hS.other14 hN.out (.int .i64 ha) (.int .i64 hb)
          refine hK.out _ _ hS_ (fun _ => ?_)
          clear z0 z1 f0 f1 hS hA
          have hS := hS_
          clear hS_
          clear hK K
          (try simp only [Act.put,aT,aZ,aS])
          refine wpAnyH_take (i := 17) (v := ?_) rfl (by kernel_rfl) (by kernel_rfl) (by kernel_rfl) (fun _ _ _ h => by cases h.1) (.inl ⟨by rfl,?_⟩) (by assumption) ?_
          rotate_left
          · (intro w' hSw; (try dsimp only at hSw); skip; go_simp <;> with_reducible rfl)
          (try simp only [Act.put,aT,aZ,aS])
          refine wpAnyH_done (by kernel_rfl) ?_ _
          exact ⟨rfl,_,_,_,_,_,_,_,_,_,_,_,_,_,_,_,g14,m,rfl,hm,hS,by rw [← HHH.out.1,← HHH.out.2]; exact hA2,hN.out.2.2.2.2.1⟩
        exact AllReadyH.nil
      exact AllReadyH.nil
    exact AllReadyH.nil
  refine AllReadyH.cons rfl (fun K hK => ?_) ?_
  · have hS_ := hS.next ((Below.refl _ _).alloc (Nat.le_refl wd.heap.size) (.cells #[.int .i64 0,.int .i64 0] 23))
    have hA : Bk (wd.alloc (.cells #[.int .i64 0,.int .i64 0] 23)) wd.heap.size 23 #[.int .i64 0,.int .i64 0] := Bk.new _ _ _
    have hn14 : wd.heap.size ≠ b ∧ wd.heap.size ≠ g4 ∧ wd.heap.size ≠ g7 ∧ wd.heap.size ≠ g10 ∧ wd.heap.size ≠ g11 ∧ w0.heap.size ≤ wd.heap.size ∧ (∀ q o,ka = some ⟨q,o,none⟩ → J.sh ≠ [] → wd.heap.size ≠ q) ∧ (∀ q o,ja = some ⟨q,o,none⟩ → J.sh ≠ [] → wd.heap.size ≠ q) := by
      refine ⟨by have := hS.pt.lt; omega,by have := hS.job.lt; omega,by have := hS.wx.lt; omega,by have := hS.fx.lt; omega,by have := hS.kn.lt; omega,hS.b0.size,fun q o hq hne => ?_,fun q o hq hne => ?_⟩
      · obtain ⟨b',off,h1,h2,_⟩ := hS.krg 0 (J.sh[0]'(List.length_pos_iff.2 hne)) (List.getElem?_eq_getElem _)
        rw [hq] at h1
        cases h1
        omega
      · obtain ⟨b',off,h1,h2,_⟩ := hS.rg 0 (J.sh[0]'(List.length_pos_iff.2 hne)) (List.getElem?_eq_getElem _)
        rw [hq] at h1
        cases h1
        omega
    go_simp
    show K _ (wd.alloc (.cells #[.int .i64 0,.int .i64 0] 23))
    refine hK.out _ _ hS_ (fun _ => ?_)
    clear hS
    have hS := hS_
    clear hS_
    generalize wd.heap.size = g14 at hA hn14 ⊢
    generalize (wd.alloc (.cells #[.int .i64 0,.int .i64 0] 23)) = wA at hA hS ⊢
    clear hK K
    (try simp only [Act.put,aT,aZ,aS])
    refine wpAnyH_ready (rs := [9]) (by kernel_rfl) (by simp) ?_
    refine AllReadyH.cons rfl (fun K hK => ?_) ?_
    · go_simp
      go_at_call 17
      refine (withinP b (-J.me) J.me _ hS.pt (by omega)).mono ?_
      rintro e' wX ⟨m,rfl,hm,hk,hp⟩
      have hS_ := hS.pot hk hp
      have hA_ := hA.pb hk hA.lt hn14.1
      clear hA
      have hA := hA_
      clear hA_
      have wm : IntKind.i64.wrap (x.p + m) = x.p + m := IntWalk.i64_in _ (by omega)
      clear hS hk hp
      have hS := hS_
      clear hS_
      go_wp2_with fail
      refine hK.out _ _ hS (fun _ => ?_)
      clear hK K
      (try simp only [Act.put,aT,aZ,aS])
      refine wpAnyH_take (i := 10) (v := ?_) rfl (by kernel_rfl) (by kernel_rfl) (by kernel_rfl) (fun _ _ _ h => by cases h.1) (.inl ⟨by rfl,?_⟩) (by assumption) ?_
      rotate_left
      · (intro w' hSw; (try dsimp only at hSw); skip; go_simp <;> with_reducible rfl)
      (try simp only [Act.put,aT,aZ,aS])
      refine wpAnyH_ready (rs := [11]) (by kernel_rfl) (by simp) ?_
      refine AllReadyH.cons rfl (fun K hK => ?_) ?_
      · go_simp
        go_at_call 35
        refine (hearF_ok (J.setTg T) HOK.out (x.p + m) ka jn kc _ HJN.out hjm hS.krg).mono ?_
        rintro e' wY ⟨rfl,hbX⟩
        have hS_ := hS.next hbX
        have hA_ := hA.below hbX hA.lt
        clear hA
        have hA := hA_
        clear hA_
        clear hS hbX
        have hS := hS_
        clear hS_
        have hh : hearI (J.setTg T) (x.p + m) = ((heardR T.p1 T.p2 (x.p + m) J.me),0) := by
          show (if x.p + m < T.p1 - J.me ∨ T.p2 + J.me < x.p + m then _ else _) = _
          rw [if_neg (by omega)]
          rfl
        rw [hh]
        clear hh
        obtain ⟨ha,hha⟩ : ∃ v,v = (heardR T.p1 T.p2 (x.p + m) J.me).1 := ⟨_,rfl⟩
        obtain ⟨hb,hhb⟩ : ∃ v,v = (heardR T.p1 T.p2 (x.p + m) J.me).2 := ⟨_,rfl⟩
        dsimp only
        rw [← hha,← hhb]
        have HHH := hidMk (And.intro hha hhb)
        clear hha hhb
        go_wp2_with fail
        refine hK.out _ _ hS (fun _ => ?_)
        clear hK K
        (try simp only [Act.put,aT,aZ,aS])
        refine wpAnyH_take (i := 12) (v := ?_) rfl (by kernel_rfl) (by kernel_rfl) (by kernel_rfl) (fun _ _ _ h => by cases h.1) (.inl ⟨by rfl,?_⟩) (by assumption) ?_
        rotate_left
        · (intro w' hSw; (try dsimp only at hSw); skip; go_simp <;> with_reducible rfl)
        (try simp only [Act.put,aT,aZ,aS])
        refine wpAnyH_take (i := 13) (v := ?_) rfl (by kernel_rfl) (by kernel_rfl) (by kernel_rfl) (fun _ _ _ h => by cases h.1) (.inl ⟨by rfl,?_⟩) (by assumption) ?_
        rotate_left
        · (intro w' hSw; (try dsimp only at hSw); skip; go_simp <;> with_reducible rfl)
        (try simp only [Act.put,aT,aZ,aS])
        refine wpAnyH_take (i := 14) (v := ?_) rfl (by kernel_rfl) (by kernel_rfl) (by kernel_rfl) (fun _ _ _ h => by cases h.1) (.inl ⟨by rfl,?_⟩) (by assumption) ?_
        rotate_left
        · (intro w' hSw; (try dsimp only at hSw); skip; go_simp <;> with_reducible rfl)
        (try simp only [Act.put,aT,aZ,aS])
        refine wpAnyH_ready (rs := [16]) (by kernel_rfl) (by simp) ?_
        refine AllReadyH.cons rfl (fun K hK => ?_) ?_
        · have z0 := hA.at_ 0 _ rfl
          have z1 := hA.at_ 1 _ rfl
          have f0 := hA.free 0
          have f1 := hA.free 1
          have hN := hidMk hn14
          clear hn14
          go_simp
          have hA2 := hA.put2 (.int .i64 ha) (.int .i64 hb)
          have hS_ := hS.other14 hN.out (.int .i64 ha) (.int .i64 hb)
          refine hK.out _ _ hS_ (fun _ => ?_)
          clear z0 z1 f0 f1 hS hA
          have hS := hS_
          clear hS_
          clear hK K
          (try simp only [Act.put,aT,aZ,aS])
          refine wpAnyH_take (i := 17) (v := ?_) rfl (by kernel_rfl) (by kernel_rfl) (by kernel_rfl) (fun _ _ _ h => by cases h.1) (.inl ⟨by rfl,?_⟩) (by assumption) ?_
          rotate_left
          · (intro w' hSw; (try dsimp only at hSw); skip; go_simp <;> with_reducible rfl)
          (try simp only [Act.put,aT,aZ,aS])
          refine wpAnyH_done (by kernel_rfl) ?_ _
          exact ⟨rfl,_,_,_,_,_,_,_,_,_,_,_,_,_,_,_,g14,m,rfl,hm,hS,by rw [← HHH.out.1,← HHH.out.2]; exact hA2,hN.out.2.2.2.2.1⟩
        exact AllReadyH.nil
      exact AllReadyH.nil
    exact AllReadyH.nil
  exact AllReadyH.nil
end Go.Proofs.Ytadmcafbffjjbaa
namespace Go.Proofs.Ytadmcafbffjjbaa
set_option linter.all false
open Go.RowKit
def QGM (w0 : World) : Exit → Act → World → Prop := bodyPost Try.prog Try.f6 fun e w' => e = .returned (.bool true) ∧ Below w0.heap.size w0 w'
set_option maxHeartbeats 1000000 in
set_option maxRecDepth 1000000 in
theorem gmpart12 {w0 : World} {b g4 g7 g10 g11 : Nat} {J : Jb} {ja : Option Addr} {jn jc : Nat} {ka : Option Addr} {kc : Nat} {X : R2} {n : Int} {th : Bool} {w : World} {T : Tg} {x : Fd} {u0 u1 u2 u6 u8 u9 A3 A4 A5 A6 A7 A8 A9 Aa Ab Ac Ad Ae Af Ag Ah Ai Aj Ak Al Am An Ao Ap Aq Ar As At Au Av Aw Ax Ay Az C0 C1 C2 C3 C4 C5 C6 C7 C8 C9 Ca Cb Cc Cd Ce Cf Cg Ch Ci Cj Ck Cl Cm Cn Co Cp Cq Cr Cs Ct Cu Cv Cw Cx Cy Cz D0 D1 D2 D3 D4 D5 D6 D7 D8 D9 Da Db Dc Dd De Df Dg Dh Di Dj Dk Dl Dm Dn Do Dp Dq Dr Ds Dt Du Dv Dw Dx Dy Dz E0 E1 E2 E3 E4 E5 E6 E7 E8 E9 Ea Eb Ec Ed Ee Ef Eg Eh Ei Ej Ek El Em En Eo Ep Eq Er Es Et Eu Ev Ew Ex Ey Ez F0 F1 F2 F3 F4 F5 F6 F7 F8 F9 Fa Fb Fc u167 Fe Ff Fg Fh Fi Fj Fk Fl Fm Fn Fo Fp Fq Fr Fs Ft Fu Fv Fw Fx Fy Fz L0 L1 L2 L3 L4 L5 L6 L7 L8 L9 La Lb Lc Ld Le Lf Lg Lh Li Lj Lk Ll Lm Ln Lo Lp Lq Lr : Value} (hF : J.Full) (hW : WOK J X) (htun : TunOK) (hjn : jn = J.sh.length) (hn4 : 0 ≤ n ∧ n ≤ 4) (hs : GL w0 w b g4 g7 g10 g11 J ja jn jc ka kc X T x) (hgi : GIv J n 0 T x) : Code.wp Try.prog gmrest12 (QGM w0) ⟨#[u0,u1,u2,(.pointer (some ⟨b,0,none⟩)),(.pointer (some ⟨g4,0,none⟩)),(.int .i64 n),u6,(.pointer (some ⟨g7,0,none⟩)),u8,u9,(.pointer (some ⟨g10,0,none⟩)),(.pointer (some ⟨g11,0,none⟩)),(.bool th),A3,A4,A5,A6,A7,A8,A9,Aa,Ab,Ac,Ad,Ae,Af,Ag,Ah,Ai,Aj,Ak,Al,Am,An,Ao,Ap,Aq,Ar,As,At,Au,Av,Aw,Ax,Ay,Az,C0,C1,C2,C3,C4,C5,C6,C7,C8,C9,Ca,Cb,Cc,Cd,Ce,Cf,Cg,Ch,Ci,Cj,Ck,Cl,Cm,Cn,Co,Cp,Cq,Cr,Cs,Ct,Cu,Cv,Cw,Cx,Cy,Cz,D0,D1,D2,D3,D4,D5,D6,D7,D8,D9,Da,Db,Dc,Dd,De,Df,Dg,Dh,Di,Dj,Dk,Dl,Dm,Dn,Do,Dp,Dq,Dr,Ds,Dt,Du,Dv,Dw,Dx,Dy,Dz,E0,E1,E2,E3,E4,E5,E6,E7,E8,E9,Ea,Eb,Ec,Ed,Ee,Ef,Eg,Eh,Ei,Ej,Ek,El,Em,En,Eo,Ep,Eq,Er,Es,Et,Eu,Ev,Ew,Ex,Ey,Ez,F0,F1,F2,F3,F4,F5,F6,F7,F8,F9,Fa,Fb,Fc,u167,Fe,Ff,Fg,Fh,Fi,Fj,Fk,Fl,Fm,Fn,Fo,Fp,Fq,Fr,Fs,Ft,Fu,Fv,Fw,Fx,Fy,Fz,L0,L1,L2,L3,L4,L5,L6,L7,L8,L9,La,Lb,Lc,Ld,Le,Lf,Lg,Lh,Li,Lj,Lk,Ll,Lm,Ln,Lo,Lp,Lq,Lr],[]⟩ w := by
  rw [gmrest12_cut]
  have HF := hidMk hF
  have HW := hidMk hW
  have HT := hidMk htun
  have HJN := hidMk hjn
  have HS := hidMk hs
  have HGI := hidMk hgi
  clear hF hW htun hjn hs hgi
  go_wp2_with fail
  refine wp_loop (fun a wr => ∃ (u0 u1 u2 u6 u8 u9 A4 A5 A6 A7 A8 A9 Aa Ab Ac Ad Ae Af Ag Ah Ai Aj Ak Al Am An Ao Ap Aq Ar As At Au Av Aw Ax Ay Az C0 C1 C2 C3 C4 C5 C6 C7 C8 C9 Ca Cb Cc Cd Ce Cf Cg Ch Ci Cj Ck Cl Cm Cn Co Cp Cq Cr Cs Ct Cu Cv Cw Cx Cy Cz D0 D1 D2 D3 D4 D5 D6 D7 D8 D9 Da Db Dc Dd De Df Dg Dh Di Dj Dk Dl Dm Dn Do Dp Dq Dr Ds Dt Du Dv Dw Dx Dy Dz E0 E1 E2 E3 E4 E5 E6 E7 E8 E9 Ea Eb Ec Ed Ee Ef Eg Eh Ei Ej Ek El Em En Eo Ep Eq Er Es Et Eu Ev Ew Ex Ey Ez F0 F1 F2 F3 F4 F5 F6 F7 F8 F9 Fa Fb Fc u167 Fe Ff Fg Fh Fi Fj Fk Fl Fm Fn Fo Fp Fq Fr Fs Ft Fu Fv Fw Fx Fy Fz L0 L1 L2 L3 L4 L5 L6 L7 L8 L9 La Lb Lc Ld Le Lf Lg Lh Li Lj Lk Ll Lm Ln Lo Lp Lq Lr : Value) (s : Int) (T : Tg) (x : Fd),(0 ≤ s ∧ s ≤ n) ∧ GL w0 wr b g4 g7 g10 g11 J ja jn jc ka kc X T x ∧ GIv J n s T x ∧ a = ⟨#[u0,u1,u2,(.pointer (some ⟨b,0,none⟩)),(.pointer (some ⟨g4,0,none⟩)),(.int .i64 n),u6,(.pointer (some ⟨g7,0,none⟩)),u8,u9,(.pointer (some ⟨g10,0,none⟩)),(.pointer (some ⟨g11,0,none⟩)),(.bool th),(.int .i64 s),A4,A5,A6,A7,A8,A9,Aa,Ab,Ac,Ad,Ae,Af,Ag,Ah,Ai,Aj,Ak,Al,Am,An,Ao,Ap,Aq,Ar,As,At,Au,Av,Aw,Ax,Ay,Az,C0,C1,C2,C3,C4,C5,C6,C7,C8,C9,Ca,Cb,Cc,Cd,Ce,Cf,Cg,Ch,Ci,Cj,Ck,Cl,Cm,Cn,Co,Cp,Cq,Cr,Cs,Ct,Cu,Cv,Cw,Cx,Cy,Cz,D0,D1,D2,D3,D4,D5,D6,D7,D8,D9,Da,Db,Dc,Dd,De,Df,Dg,Dh,Di,Dj,Dk,Dl,Dm,Dn,Do,Dp,Dq,Dr,Ds,Dt,Du,Dv,Dw,Dx,Dy,Dz,E0,E1,E2,E3,E4,E5,E6,E7,E8,E9,Ea,Eb,Ec,Ed,Ee,Ef,Eg,Eh,Ei,Ej,Ek,El,Em,En,Eo,Ep,Eq,Er,Es,Et,Eu,Ev,Ew,Ex,Ey,Ez,F0,F1,F2,F3,F4,F5,F6,F7,F8,F9,Fa,Fb,Fc,u167,Fe,Ff,Fg,Fh,Fi,Fj,Fk,Fl,Fm,Fn,Fo,Fp,Fq,Fr,Fs,Ft,Fu,Fv,Fw,Fx,Fy,Fz,L0,L1,L2,L3,L4,L5,L6,L7,L8,L9,La,Lb,Lc,Ld,Le,Lf,Lg,Lh,Li,Lj,Lk,Ll,Lm,Ln,Lo,Lp,Lq,Lr],[]⟩) (fun a _ => (n - intOf (a.tmps.getD 13 undef)).toNat) ?_ ?_
  · exact ⟨_,_,_,_,_,_,_,_,_,_,_,_,_,_,_,_,_,_,_,_,_,_,_,_,_,_,_,_,_,_,_,_,_,_,_,_,_,_,_,_,_,_,_,_,_,_,_,_,_,_,_,_,_,_,_,_,_,_,_,_,_,_,_,_,_,_,_,_,_,_,_,_,_,_,_,_,_,_,_,_,_,_,_,_,_,_,_,_,_,_,_,_,_,_,_,_,_,_,_,_,_,_,_,_,_,_,_,_,_,_,_,_,_,_,_,_,_,_,_,_,_,_,_,_,_,_,_,_,_,_,_,_,_,_,_,_,_,_,_,_,_,_,_,_,_,_,_,_,_,_,_,_,_,_,_,_,_,_,_,_,_,_,_,_,_,_,_,_,_,_,_,_,_,_,_,_,_,_,_,_,_,_,_,_,_,_,_,_,_,_,_,_,_,_,_,_,_,_,_,_,_,_,_,_,_,_,_,_,_,_,0,T,x,⟨Int.le_refl _,hn4.1⟩,HS.out,HGI.out,rfl⟩
  · intro a wr h
    obtain ⟨u0,h⟩ := h
    obtain ⟨u1,h⟩ := h
    obtain ⟨u2,h⟩ := h
    obtain ⟨u6,h⟩ := h
    obtain ⟨u8,h⟩ := h
    obtain ⟨u9,h⟩ := h
    obtain ⟨A4,h⟩ := h
    obtain ⟨A5,h⟩ := h
    obtain ⟨A6,h⟩ := h
    obtain ⟨A7,h⟩ := h
    obtain ⟨A8,h⟩ := h
    obtain ⟨A9,h⟩ := h
    obtain ⟨Aa,h⟩ := h
    obtain ⟨Ab,h⟩ := h
    obtain ⟨Ac,h⟩ := h
    obtain ⟨Ad,h⟩ := h
    obtain ⟨Ae,h⟩ := h
    obtain ⟨Af,h⟩ := h
    obtain ⟨Ag,h⟩ := h
    obtain ⟨Ah,h⟩ := h
    obtain ⟨Ai,h⟩ := h
    obtain ⟨Aj,h⟩ := h
    obtain ⟨Ak,h⟩ := h
    obtain ⟨Al,h⟩ := h
    obtain ⟨Am,h⟩ := h
    obtain ⟨An,h⟩ := h
    obtain ⟨Ao,h⟩ := h
    obtain ⟨Ap,h⟩ := h
    obtain ⟨Aq,h⟩ := h
    obtain ⟨Ar,h⟩ := h
    obtain ⟨As,h⟩ := h
    obtain ⟨At,h⟩ := h
    obtain ⟨Au,h⟩ := h
    obtain ⟨Av,h⟩ := h
    obtain ⟨Aw,h⟩ := h
    obtain ⟨Ax,h⟩ := h
    obtain ⟨Ay,h⟩ := h
    obtain ⟨Az,h⟩ := h
    obtain ⟨C0,h⟩ := h
    obtain ⟨C1,h⟩ := h
    obtain ⟨C2,h⟩ := h
    obtain ⟨C3,h⟩ := h
    obtain ⟨C4,h⟩ := h
    obtain ⟨C5,h⟩ := h
    obtain ⟨C6,h⟩ := h
    obtain ⟨C7,h⟩ := h
    obtain ⟨C8,h⟩ := h
    obtain ⟨C9,h⟩ := h
    obtain ⟨Ca,h⟩ := h
    obtain ⟨Cb,h⟩ := h
    obtain ⟨Cc,h⟩ := h
    obtain ⟨Cd,h⟩ := h
    obtain ⟨Ce,h⟩ := h
    obtain ⟨Cf,h⟩ := h
    obtain ⟨Cg,h⟩ := h
    obtain ⟨Ch,h⟩ := h
    obtain ⟨Ci,h⟩ := h
    obtain ⟨Cj,h⟩ := h
    obtain ⟨Ck,h⟩ := h
    obtain ⟨Cl,h⟩ := h
    obtain ⟨Cm,h⟩ := h
    obtain ⟨Cn,h⟩ := h
    obtain ⟨Co,h⟩ := h
    obtain ⟨Cp,h⟩ := h
    obtain ⟨Cq,h⟩ := h
    obtain ⟨Cr,h⟩ := h
    obtain ⟨Cs,h⟩ := h
    obtain ⟨Ct,h⟩ := h
    obtain ⟨Cu,h⟩ := h
    obtain ⟨Cv,h⟩ := h
    obtain ⟨Cw,h⟩ := h
    obtain ⟨Cx,h⟩ := h
    obtain ⟨Cy,h⟩ := h
    obtain ⟨Cz,h⟩ := h
    obtain ⟨D0,h⟩ := h
    obtain ⟨D1,h⟩ := h
    obtain ⟨D2,h⟩ := h
    obtain ⟨D3,h⟩ := h
    obtain ⟨D4,h⟩ := h
    obtain ⟨D5,h⟩ := h
    obtain ⟨D6,h⟩ := h
    obtain ⟨D7,h⟩ := h
    obtain ⟨D8,h⟩ := h
    obtain ⟨D9,h⟩ := h
    obtain ⟨Da,h⟩ := h
    obtain ⟨Db,h⟩ := h
    obtain ⟨Dc,h⟩ := h
    obtain ⟨Dd,h⟩ := h
    obtain ⟨De,h⟩ := h
    obtain ⟨Df,h⟩ := h
    obtain ⟨Dg,h⟩ := h
    obtain ⟨Dh,h⟩ := h
    obtain ⟨Di,h⟩ := h
    obtain ⟨Dj,h⟩ := h
    obtain ⟨Dk,h⟩ := h
    obtain ⟨Dl,h⟩ := h
    obtain ⟨Dm,h⟩ := h
    obtain ⟨Dn,h⟩ := h
    obtain ⟨Do,h⟩ := h
    obtain ⟨Dp,h⟩ := h
    obtain ⟨Dq,h⟩ := h
    obtain ⟨Dr,h⟩ := h
    obtain ⟨Ds,h⟩ := h
    obtain ⟨Dt,h⟩ := h
    obtain ⟨Du,h⟩ := h
    obtain ⟨Dv,h⟩ := h
    obtain ⟨Dw,h⟩ := h
    obtain ⟨Dx,h⟩ := h
    obtain ⟨Dy,h⟩ := h
    obtain ⟨Dz,h⟩ := h
    obtain ⟨E0,h⟩ := h
    obtain ⟨E1,h⟩ := h
    obtain ⟨E2,h⟩ := h
    obtain ⟨E3,h⟩ := h
    obtain ⟨E4,h⟩ := h
    obtain ⟨E5,h⟩ := h
    obtain ⟨E6,h⟩ := h
    obtain ⟨E7,h⟩ := h
    obtain ⟨E8,h⟩ := h
    obtain ⟨E9,h⟩ := h
    obtain ⟨Ea,h⟩ := h
    obtain ⟨Eb,h⟩ := h
    obtain ⟨Ec,h⟩ := h
    obtain ⟨Ed,h⟩ := h
    obtain ⟨Ee,h⟩ := h
    obtain ⟨Ef,h⟩ := h
    obtain ⟨Eg,h⟩ := h
    obtain ⟨Eh,h⟩ := h
    obtain ⟨Ei,h⟩ := h
    obtain ⟨Ej,h⟩ := h
    obtain ⟨Ek,h⟩ := h
    obtain ⟨El,h⟩ := h
    obtain ⟨Em,h⟩ := h
    obtain ⟨En,h⟩ := h
    obtain ⟨Eo,h⟩ := h
    obtain ⟨Ep,h⟩ := h
    obtain ⟨Eq,h⟩ := h
    obtain ⟨Er,h⟩ := h
    obtain ⟨Es,h⟩ := h
    obtain ⟨Et,h⟩ := h
    obtain ⟨Eu,h⟩ := h
    obtain ⟨Ev,h⟩ := h
    obtain ⟨Ew,h⟩ := h
    obtain ⟨Ex,h⟩ := h
    obtain ⟨Ey,h⟩ := h
    obtain ⟨Ez,h⟩ := h
    obtain ⟨F0,h⟩ := h
    obtain ⟨F1,h⟩ := h
    obtain ⟨F2,h⟩ := h
    obtain ⟨F3,h⟩ := h
    obtain ⟨F4,h⟩ := h
    obtain ⟨F5,h⟩ := h
    obtain ⟨F6,h⟩ := h
    obtain ⟨F7,h⟩ := h
    obtain ⟨F8,h⟩ := h
    obtain ⟨F9,h⟩ := h
    obtain ⟨Fa,h⟩ := h
    obtain ⟨Fb,h⟩ := h
    obtain ⟨Fc,h⟩ := h
    obtain ⟨u167,h⟩ := h
    obtain ⟨Fe,h⟩ := h
    obtain ⟨Ff,h⟩ := h
    obtain ⟨Fg,h⟩ := h
    obtain ⟨Fh,h⟩ := h
    obtain ⟨Fi,h⟩ := h
    obtain ⟨Fj,h⟩ := h
    obtain ⟨Fk,h⟩ := h
    obtain ⟨Fl,h⟩ := h
    obtain ⟨Fm,h⟩ := h
    obtain ⟨Fn,h⟩ := h
    obtain ⟨Fo,h⟩ := h
    obtain ⟨Fp,h⟩ := h
    obtain ⟨Fq,h⟩ := h
    obtain ⟨Fr,h⟩ := h
    obtain ⟨Fs,h⟩ := h
    obtain ⟨Ft,h⟩ := h
    obtain ⟨Fu,h⟩ := h
    obtain ⟨Fv,h⟩ := h
    obtain ⟨Fw,h⟩ := h
    obtain ⟨Fx,h⟩ := h
    obtain ⟨Fy,h⟩ := h
    obtain ⟨Fz,h⟩ := h
    obtain ⟨L0,h⟩ := h
    obtain ⟨L1,h⟩ := h
    obtain ⟨L2,h⟩ := h
    obtain ⟨L3,h⟩ := h
    obtain ⟨L4,h⟩ := h
    obtain ⟨L5,h⟩ := h
    obtain ⟨L6,h⟩ := h
    obtain ⟨L7,h⟩ := h
    obtain ⟨L8,h⟩ := h
    obtain ⟨L9,h⟩ := h
    obtain ⟨La,h⟩ := h
    obtain ⟨Lb,h⟩ := h
    obtain ⟨Lc,h⟩ := h
    obtain ⟨Ld,h⟩ := h
    obtain ⟨Le,h⟩ := h
    obtain ⟨Lf,h⟩ := h
    obtain ⟨Lg,h⟩ := h
    obtain ⟨Lh,h⟩ := h
    obtain ⟨Li,h⟩ := h
    obtain ⟨Lj,h⟩ := h
    obtain ⟨Lk,h⟩ := h
    obtain ⟨Ll,h⟩ := h
    obtain ⟨Lm,h⟩ := h
    obtain ⟨Ln,h⟩ := h
    obtain ⟨Lo,h⟩ := h
    obtain ⟨Lp,h⟩ := h
    obtain ⟨Lq,h⟩ := h
    obtain ⟨Lr,h⟩ := h
    obtain ⟨s,T',x',⟨hs0,hsn⟩,hs,hgi,ha⟩ := h
    subst ha
    have HSR := hidMk hs
    have HG := hidMk hgi
    have w1 : IntKind.i64.wrap (s + 1) = s + 1 := IntWalk.i64_in _ (by omega)
    clear hs hgi HS HGI
    go_wp2_with fail
    refine zp0 HF.out HW.out HT.out HJN.out hn4 hs0 ⟨?_,?_⟩ HSR.out HG.out
    · intro w' T2 x2 hs2 hg2 hle
      have HS2 := hidMk hs2
      have HG2 := hidMk hg2
      clear hs2 hg2
      intros
      go_wp2_with fail
      exact ⟨⟨_,_,_,_,_,_,_,_,_,_,_,_,_,_,_,_,_,_,_,_,_,_,_,_,_,_,_,_,_,_,_,_,_,_,_,_,_,_,_,_,_,_,_,_,_,_,_,_,_,_,_,_,_,_,_,_,_,_,_,_,_,_,_,_,_,_,_,_,_,_,_,_,_,_,_,_,_,_,_,_,_,_,_,_,_,_,_,_,_,_,_,_,_,_,_,_,_,_,_,_,_,_,_,_,_,_,_,_,_,_,_,_,_,_,_,_,_,_,_,_,_,_,_,_,_,_,_,_,_,_,_,_,_,_,_,_,_,_,_,_,_,_,_,_,_,_,_,_,_,_,_,_,_,_,_,_,_,_,_,_,_,_,_,_,_,_,_,_,_,_,_,_,_,_,_,_,_,_,_,_,_,_,_,_,_,_,_,_,_,_,_,_,_,_,_,_,_,_,_,_,_,_,_,_,_,_,_,_,_,_,s + 1,T2,x2,⟨by omega,hle⟩,HS2.out,HG2.out,rfl⟩,by simp [intOf]; omega⟩
    · intro w' hb
      have HB := hidMk hb
      clear hb
      intros
      go_wp2_with fail
      go_ret
      exact ⟨rfl,HB.out⟩
set_option maxHeartbeats 1000000 in
set_option maxRecDepth 1000000 in
theorem gmpart11 {w0 : World} {b g4 g7 g10 g11 : Nat} {J : Jb} {ja : Option Addr} {jn jc : Nat} {ka : Option Addr} {kc : Nat} {X : R2} {n : Int} {w : World} {T : Tg} {x : Fd} {u0 u1 u2 u6 u8 u9 A2 A3 A4 A5 A6 A7 A8 A9 Aa Ab Ac Ad Ae Af Ag Ah Ai Aj Ak Al Am An Ao Ap Aq Ar As At Au Av Aw Ax Ay Az C0 C1 C2 C3 C4 C5 C6 C7 C8 C9 Ca Cb Cc Cd Ce Cf Cg Ch Ci Cj Ck Cl Cm Cn Co Cp Cq Cr Cs Ct Cu Cv Cw Cx Cy Cz D0 D1 D2 D3 D4 D5 D6 D7 D8 D9 Da Db Dc Dd De Df Dg Dh Di Dj Dk Dl Dm Dn Do Dp Dq Dr Ds Dt Du Dv Dw Dx Dy Dz E0 E1 E2 E3 E4 E5 E6 E7 E8 E9 Ea Eb Ec Ed Ee Ef Eg Eh Ei Ej Ek El Em En Eo Ep Eq Er Es Et Eu Ev Ew Ex Ey Ez F0 F1 F2 F3 F4 F5 F6 F7 F8 F9 Fa Fb Fc u167 Fe Ff Fg Fh Fi Fj Fk Fl Fm Fn Fo Fp Fq Fr Fs Ft Fu Fv Fw Fx Fy Fz L0 L1 L2 L3 L4 L5 L6 L7 L8 L9 La Lb Lc Ld Le Lf Lg Lh Li Lj Lk Ll Lm Ln Lo Lp Lq Lr : Value} (hF : J.Full) (hW : WOK J X) (htun : TunOK) (hjn : jn = J.sh.length) (hn4 : 0 ≤ n ∧ n ≤ 4) (hs : GL w0 w b g4 g7 g10 g11 J ja jn jc ka kc X T x) (hgi : GIv J n 0 T x) : Code.wp Try.prog gmrest11 (QGM w0) ⟨#[u0,u1,u2,(.pointer (some ⟨b,0,none⟩)),(.pointer (some ⟨g4,0,none⟩)),(.int .i64 n),u6,(.pointer (some ⟨g7,0,none⟩)),u8,u9,(.pointer (some ⟨g10,0,none⟩)),(.pointer (some ⟨g11,0,none⟩)),A2,A3,A4,A5,A6,A7,A8,A9,Aa,Ab,Ac,Ad,Ae,Af,Ag,Ah,Ai,Aj,Ak,Al,Am,An,Ao,Ap,Aq,Ar,As,At,Au,Av,Aw,Ax,Ay,Az,C0,C1,C2,C3,C4,C5,C6,C7,C8,C9,Ca,Cb,Cc,Cd,Ce,Cf,Cg,Ch,Ci,Cj,Ck,Cl,Cm,Cn,Co,Cp,Cq,Cr,Cs,Ct,Cu,Cv,Cw,Cx,Cy,Cz,D0,D1,D2,D3,D4,D5,D6,D7,D8,D9,Da,Db,Dc,Dd,De,Df,Dg,Dh,Di,Dj,Dk,Dl,Dm,Dn,Do,Dp,Dq,Dr,Ds,Dt,Du,Dv,Dw,Dx,Dy,Dz,E0,E1,E2,E3,E4,E5,E6,E7,E8,E9,Ea,Eb,Ec,Ed,Ee,Ef,Eg,Eh,Ei,Ej,Ek,El,Em,En,Eo,Ep,Eq,Er,Es,Et,Eu,Ev,Ew,Ex,Ey,Ez,F0,F1,F2,F3,F4,F5,F6,F7,F8,F9,Fa,Fb,Fc,u167,Fe,Ff,Fg,Fh,Fi,Fj,Fk,Fl,Fm,Fn,Fo,Fp,Fq,Fr,Fs,Ft,Fu,Fv,Fw,Fx,Fy,Fz,L0,L1,L2,L3,L4,L5,L6,L7,L8,L9,La,Lb,Lc,Ld,Le,Lf,Lg,Lh,Li,Lj,Lk,Ll,Lm,Ln,Lo,Lp,Lq,Lr],[]⟩ w := by
  rw [gmrest11_eq]
  have HF := hidMk hF
  have HW := hidMk hW
  have HT := hidMk htun
  have HJN := hidMk hjn
  have HS := hidMk hs
  have HGI := hidMk hgi
  have d1 := hs.fx.at_ 1 (.int .i64 x.t) rfl
  have d2 := hs.fx.at_ 2 (.int .i64 x.r) rfl
  have d3 := hs.job.at_ 14 (.int .i64 J.le) rfl
  clear hF hW htun hjn hs hgi
  by_cases h1 : x.t < J.le
  · go_wp2_with fail
    exact gmpart12 HF.out HW.out HT.out HJN.out hn4 HS.out HGI.out
  · by_cases h2 : x.r < J.le
    · go_wp2_with fail
      exact gmpart12 HF.out HW.out HT.out HJN.out hn4 HS.out HGI.out
    · go_wp2_with fail
      exact gmpart12 HF.out HW.out HT.out HJN.out hn4 HS.out HGI.out
end Go.Proofs.Ytadmcafbffjjbaa
namespace Go.Proofs.Ytadmcafbffjjbaa
set_option linter.all false
open Go.RowKit

theorem rg_one (l : List R2) : ∀ u ∈ rgCells l,u.oneCell' = true := by
  induction l with
  | nil => intro u h; cases h
  | cons x l ih =>
    intro u h
    rcases List.mem_cons.1 h with rfl | h
    · rfl
    · rcases List.mem_cons.1 h with rfl | h
      · rfl
      · exact ih u h
theorem rg_news {W : World} {B : Nat} {ad : Addr} {l : List R2} (h : Rg W B (some ad) l) : ∀ j u,(rgCells l)[j]? = some u → W.cell? (ad.add j) = some u := by
  intro j u hj
  have hjl := (List.getElem?_eq_some_iff.1 hj).1
  rw [rgCells_len] at hjl
  have hk : j / 2 < l.length := by omega
  obtain ⟨b,off,e,_,e0,e1⟩ := h (j / 2) l[j / 2] (List.getElem?_eq_getElem hk)
  cases e
  obtain ⟨h0,h1⟩ := rgCells_at l (j / 2) l[j / 2] (List.getElem?_eq_getElem hk)
  have ha : ∀ k,(⟨b,off,none⟩ : Addr).add k = ⟨b,off + k,none⟩ := by
    intro k
    unfold Addr.add
    split
    · rename_i hk0; subst hk0; rfl
    · rfl
  rw [ha]
  rcases Nat.mod_two_eq_zero_or_one j with hm | hm
  · have : j = j / 2 * 2 := by omega
    rw [this] at hj ⊢
    rw [h0] at hj
    cases hj
    exact e0
  · have hj' : j = j / 2 * 2 + 1 := by omega
    have h2 : W.cell? ⟨b,off + j,none⟩ = W.cell? ⟨b,off + j / 2 * 2 + 1,none⟩ := by
      have : off + j = off + j / 2 * 2 + 1 := by omega
      rw [this]
    rw [h2,e1,← h1,← hj',hj]
theorem Rg.of_own {w : World} {B e n : Nat} {v : Value} {l : List R2} (h : w.ownsRow B e 2 v n (rgCells l)) : ∃ a c,v = .slice a n c ∧ n = l.length ∧ Rg w w.heap.size a l := by
  have hl := h.1
  rw [rgCells_len] at hl
  rcases h.2 with ⟨rfl,rfl⟩ | ⟨g,cap,cur,rfl,hb,hg,hnc,hcm,hcs,htk⟩
  · have e : l = [] := List.length_eq_zero_iff.1 (by omega)
    subst e
    exact ⟨none,0,rfl,rfl,Rg.nil _ _ _⟩
  · refine ⟨some ⟨g,0,none⟩,cap,rfl,by omega,fun k x hk => ⟨g,0,rfl,(Array.getElem?_eq_some_iff.1 hg).1,?_,?_⟩⟩
    all_goals
      have hkl := (List.getElem?_eq_some_iff.1 hk).1
      obtain ⟨h0,h1⟩ := rgCells_at l k x hk
    · rw [cell_of_row w g (0 + k * 2) cur e (0,0) hg,Nat.zero_add,← Array.getElem?_toList]
      have h2 : (cur.toList.take (n * 2))[k * 2]? = some (.int .i64 x.1) := by rw [htk]; exact h0
      rw [List.getElem?_take_of_lt (by omega)] at h2
      exact h2
    · rw [cell_of_row w g (0 + k * 2 + 1) cur e (0,0) hg,Nat.zero_add,← Array.getElem?_toList]
      have h2 : (cur.toList.take (n * 2))[k * 2 + 1]? = some (.int .i64 x.2) := by rw [htk]; exact h1
      rw [List.getElem?_take_of_lt (by omega)] at h2
      exact h2
theorem own_lo {w : World} {B B' e n : Nat} {v : Value} {xs : List Value} (h : w.ownsRow B e 2 v n xs) (hB : B' ≤ B) : w.ownsRow B' e 2 v n xs :=
  ⟨h.1,h.2.imp id fun ⟨g,cap,cur,a,b,c⟩ => ⟨g,cap,cur,a,Nat.le_trans hB b,c⟩⟩
theorem own_keep {w w' : World} {B e n : Nat} {v : Value} {xs : List Value} (h : w.ownsRow B e 2 v n xs) (hk : ∀ g,B ≤ g → w'.heap[g]? = w.heap[g]?) : w'.ownsRow B e 2 v n xs :=
  ⟨h.1,h.2.imp id fun ⟨g,cap,cur,a,b,c,d⟩ => ⟨g,cap,cur,a,b,(hk g b).trans c,d⟩⟩
set_option maxHeartbeats 1000000 in
set_option maxRecDepth 100000 in
theorem ranges_some (ad : Addr) (n c : Nat) (l : List R2) (w : World) (hn : n = l.length) (hm : n ≤ 1000) (h : Rg w w.heap.size (some ad) l) :
    Calls Try.prog 46 #[.slice (some ad) n c] w fun e w' => ∃ v,e = .returned v ∧ w'.ownsRow w.heap.size 23 2 v n (rgCells l) ∧ Below w.heap.size w w' := by
  obtain ⟨i0,hi,hz0,hz1,hz2⟩ := info_parts infoRange
  have Hi : Hid (Try.prog.info? 23 = some i0) := hi
  have Hz0 := hidMk hz0
  have Hz1 := hidMk hz1
  have Hz2 := hidMk hz2
  clear hi hz0 hz1 hz2
  have Hn := hidMk hn
  have Hh := hidMk h
  clear hn h
  go_enter Try.func46,Try.ntmps46
  have own0 : (w.alloc (.cells #[] 23)).ownsRow w.heap.size 23 2 (.slice (some ⟨w.heap.size,0,none⟩) 0 0) 0 [] :=
    ⟨rfl,.inr ⟨w.heap.size,0,#[],rfl,Nat.le_refl _,Bk.new _ _ _,Nat.le_refl _,Nat.zero_le _,rfl,rfl⟩⟩
  have Ho := hidMk own0
  clear own0
  go_wp2_with (at_builtin; refine wpList_append_own_at _ rfl (.tmp 3) (.tmp 4) 28 rfl w.heap.size 23 i0 (.agg #[.int .i64 0,.int .i64 0]) 2 16 Try.underlying28 Hi.out Hz0.out Hz1.out Hz2.out rfl (by decide) _ 0 [] rfl Ho.out ad n c (rgCells l) rfl (by rw [rgCells_len,Hn.out]) (rg_news (Hh.out.up ((Below.refl _ _).alloc (Nat.le_refl _) _))) (rg_one l) (by unfold maxLen; omega) (by omega) (by simp) ?_; intro v' w3 own' hg _ at_)
  go_ret
  refine ⟨v',rfl,by simpa using own',?_⟩
  exact ((Below.refl _ _).alloc (Nat.le_refl _) (.cells #[] 23)).grown hg (by simp) (fun g e => by cases e; exact Nat.le_refl _)
theorem ranges_none (n c : Nat) (hn : n = 0) (w : World) :
    Calls Try.prog 46 #[.slice none n c] w fun e w' => ∃ v,e = .returned v ∧ w'.ownsRow w.heap.size 23 2 v n [] ∧ Below w.heap.size w w' := by
  subst hn
  go_enter Try.func46,Try.ntmps46
  go_wp2_with fail
  go_ret
  exact ⟨_,rfl,⟨rfl,.inr ⟨w.heap.size,0,#[],rfl,Nat.le_refl _,Bk.new _ _ _,Nat.le_refl _,Nat.zero_le _,rfl,rfl⟩⟩,(Below.refl _ _).alloc (Nat.le_refl _) _⟩
theorem ranges_any (a : Option Addr) (n c : Nat) (l : List R2) (w : World) (hn : n = l.length) (hm : n ≤ 1000) (h : Rg w w.heap.size a l) :
    Calls Try.prog 46 #[.slice a n c] w fun e w' => ∃ v,e = .returned v ∧ w'.ownsRow w.heap.size 23 2 v n (rgCells l) ∧ Below w.heap.size w w' := by
  cases a with
  | some ad => exact ranges_some ad n c l w hn hm h
  | none =>
    have hl : l = [] := by
      cases l with
      | nil => rfl
      | cons x l =>
        obtain ⟨b,off,e,_⟩ := h 0 x rfl
        cases e
    subst hl
    exact ranges_none n c (by simpa using hn) w
set_option maxHeartbeats 1000000 in
set_option maxRecDepth 100000 in
theorem copyJob_any (J : Jb) (a : Option Addr) (n c : Nat) (w : World) (hn : n = J.sh.length) (hm : n ≤ 1000) (h : Rg w w.heap.size a J.sh) :
    Calls Try.prog 11 #[.agg (jobC J (.slice a n c))] w fun e w' => ∃ a' c',e = .returned (.agg (jobC J (.slice a' n c'))) ∧ w'.ownsRow w.heap.size 23 2 (.slice a' n c') n (rgCells J.sh) ∧ Below w.heap.size w w' := by
  have Hn := hidMk hn
  have Hh := hidMk h
  clear hn h
  have b0 : Bk ((w.alloc (.cells (jobC J (.slice a n c)) 30)).alloc (.cells (jobC zeroJ (.slice none 0 0)) 30)) w.heap.size 30 (jobC J (.slice a n c)) := (Bk.new w _ _).alloc _
  have b1 : Bk ((w.alloc (.cells (jobC J (.slice a n c)) 30)).alloc (.cells (jobC zeroJ (.slice none 0 0)) 30)) (w.heap.size + 1) 30 (jobC zeroJ (.slice none 0 0)) := Bk.newAt _ _ _ _ (by simp)
  have hW : Below w.heap.size w ((w.alloc (.cells (jobC J (.slice a n c)) 30)).alloc (.cells (jobC zeroJ (.slice none 0 0)) 30)) := ((Below.refl _ _).alloc (Nat.le_refl _) _).alloc (by simp) _
  have s15 := b0.at_ 15 (.slice a n c) rfl
  go_enter Try.func11,Try.ntmps11
  go_wp2_with fail
  refine (ranges_any a n c J.sh _ Hn.out hm (Hh.out.up hW)).mono ?_
  rintro e w1 ⟨v,rfl,own,hb1⟩
  obtain ⟨a',c',rfl,-,-⟩ := Rg.of_own own
  have hz1 := hb1.size
  simp only [World.size_alloc] at hz1
  have k0 := b0.below hb1 (by simp; omega)
  have k1 := b1.below hb1 (by simp)
  have hB1 : Below w.heap.size w w1 := hW.trans (hb1.mono (by simp; omega))
  have own1 : w1.ownsRow (w.heap.size + 1 + 1) 23 2 (.slice a' n c') n (rgCells J.sh) := by simpa using own
  have Own := hidMk own1
  have d15 := k0.at_ 15 (.slice a n c) rfl
  have f15 := k0.free 15
  clear own own1 hb1 b0 b1 hW s15
  have k0' : Bk (w1.setCell ⟨w.heap.size,15,none⟩ (.slice a' n c')) w.heap.size 30 (jobC J (.slice a' n c')) := k0.put 15 _
  have k1' : Bk (w1.setCell ⟨w.heap.size,15,none⟩ (.slice a' n c')) (w.heap.size + 1) 30 (jobC zeroJ (.slice none 0 0)) := k1.other (by simp) _
  go_wp2_with (first | (refine wpList_load_row rfl 30 _ rfl w.heap.size rfl _ (jobC J (.slice a' n c')) _ _ k0' Try.underlying30 rfl szJob ?_) | (refine wpList_store_row rfl 30 _ _ rfl (w.heap.size + 1) (jobC J (.slice a' n c')) rfl rfl _ _ k1' szJob rfl (oneJob _ _ _ _) ?_))
  refine bodyPost_ret (v := .agg (jobC J (.slice a' n c'))) (results_cell_row Try.results11 _ _ _ _ _ _ _ rfl (k1'.row _) Try.underlying30 rfl szJob) rfl ⟨a',c',rfl,?_,?_⟩
  · exact own_lo (own_keep Own.out fun g hg => (setRow_other _ _ _ _ (by omega)).trans (Below.heap_setCell _ _ _ _ (by show g ≠ w.heap.size; omega))) (by omega)
  · exact below_setRow (hB1.setCell (by simp) _) (by simp) _
end Go.Proofs.Ytadmcafbffjjbaa
