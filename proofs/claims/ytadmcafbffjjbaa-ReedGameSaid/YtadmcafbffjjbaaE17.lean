/- Part 17 of the proof: GnM. -/
import Derived.Deep.WholeRow
import Derived.Deep.MidRow
import Derived.Test.YtadmcafbffjjbaaE16
namespace Go.Proofs.Ytadmcafbffjjbaa
set_option linter.all false
open Go.RowKit
structure GP (w0 w : World) (b g4 g7 : Nat) (J : Jb) (ja : Option Addr) (jn jc : Nat) (X : R2) : Prop where
  b0 : Below w0.heap.size w0 w
  hb : w0.heap.size ≤ b
  pt : Pt w b
  job : Bk w g4 30 (jobC J (.slice ja jn jc))
  rg : Rg w w.heap.size ja J.sh
  wx : Bk w g7 23 #[.int .i64 X.1,.int .i64 X.2]
  ne : g4 ≠ b ∧ g7 ≠ b
section
variable {w0 : World} {b g4 g7 : Nat} {J : Jb} {ja : Option Addr} {jn jc : Nat} {X : R2} {w w' : World}
theorem GP.pot (h : GP w0 w b g4 g7 J ja jn jc X) (hk : PB b w.heap.size w w') (hp : Pt w' b) : GP w0 w' b g4 g7 J ja jn jc X :=
  ⟨h.b0.trans ((hk.mono h.b0.size).toBelow h.hb),h.hb,hp,h.job.pb hk h.job.lt h.ne.1,h.rg.pb h.pt hk,h.wx.pb hk h.wx.lt h.ne.2,h.ne⟩
theorem GP.next (h : GP w0 w b g4 g7 J ja jn jc X) (hb : Below w.heap.size w w') : GP w0 w' b g4 g7 J ja jn jc X := h.pot (PB.of hb) (h.pt.below hb h.pt.lt)
def Own (w0 : World) (b g4 g7 : Nat) (J : Jb) (ja : Option Addr) (g : Nat) : Prop := g ≠ b ∧ g ≠ g4 ∧ g ≠ g7 ∧ w0.heap.size ≤ g ∧ ∀ (k : Nat) (r : R2),J.sh[k]? = some r → ∃ q o,ja = some ⟨q,o,none⟩ ∧ q ≠ g
theorem GP.own (h : GP w0 w b g4 g7 J ja jn jc X) : Own w0 b g4 g7 J ja w.heap.size :=
  ⟨by have := h.pt.lt; omega,by have := h.job.lt; omega,by have := h.wx.lt; omega,h.b0.size,fun k r hr => by
    obtain ⟨q,o,h1,h2,_⟩ := h.rg k r hr
    exact ⟨q,o,h1,by omega⟩⟩
theorem GP.cells {g : Nat} (h : GP w0 w b g4 g7 J ja jn jc X) (ho : Own w0 b g4 g7 J ja g) (o : Nat) (vs : List Value) : GP w0 (w.setCells g o vs) b g4 g7 J ja jn jc X := by
  obtain ⟨n1,n2,n3,n4,n5⟩ := ho
  obtain ⟨q1,q2,q3,q4⟩ := sc_size g vs o w
  have hoth := fun k hk => sc_other g vs o w k hk
  obtain ⟨t,s,hp⟩ := h.pt
  exact ⟨⟨q2.trans h.b0.os,q3.trans h.b0.tape,q4.trans h.b0.output,by rw [q1]; exact h.b0.size,fun k hk => (hoth k (by omega)).trans (h.b0.block k hk)⟩,h.hb,⟨t,s,(hoth b n1.symm).trans hp⟩,(hoth _ n2.symm).trans h.job,h.rg.off (by omega) hoth n5,(hoth _ n3.symm).trans h.wx,h.ne⟩
end
theorem szFd : (Try.prog.info? 57).map (·.size) = some 3 := by kernel_rfl
theorem there_bk {w : World} {g : Nat} {t : TypeId} {cs : Array Value} (h : Bk w g t cs) (n : Nat) (hn : n ≤ cs.size) : w.there g 0 n := fun j hj => ⟨by rw [Nat.zero_add,h.at_ j (cs[j]'(by omega)) (Array.getElem?_eq_getElem _)]; rfl,by rw [Nat.zero_add]; exact h.free j⟩
theorem oneFd (x : Fd) : (#[.int .i64 x.p,.int .i64 x.t,.int .i64 x.r] : Array Value).all (·.oneCell') = true := by simp [Value.oneCell']
def Cp (w : World) (J : Jb) (ka : Option Addr) (g : Nat) : Prop := ∀ (k : Nat) (r : R2),J.sh[k]? = some r → ∃ q o,ka = some ⟨q,o,none⟩ ∧ q ≠ g
theorem bk_cells {w : World} {g k : Nat} {t : TypeId} {cs : Array Value} (h : Bk w k t cs) (hk : k ≠ g) (o : Nat) (vs : List Value) : Bk (w.setCells g o vs) k t cs := (sc_other g vs o w k hk).trans h
theorem rg_cells {w : World} {g : Nat} {a : Option Addr} {l : List R2} (h : Rg w w.heap.size a l) (hn : ∀ (k : Nat) (r : R2),l[k]? = some r → ∃ q o,a = some ⟨q,o,none⟩ ∧ q ≠ g) (o : Nat) (vs : List Value) : Rg (w.setCells g o vs) (w.setCells g o vs).heap.size a l :=
  h.off (Nat.le_of_eq (sc_size g vs o w).1.symm) (fun k hk => sc_other g vs o w k hk) hn
theorem setFd {w : World} {g : Nat} {t : TypeId} {a b c : Value} (h : Bk w g t #[a,b,c]) (x : Fd) : Bk (w.setCells g 0 #[Value.int .i64 x.p,Value.int .i64 x.t,Value.int .i64 x.r].toList) g t #[.int .i64 x.p,.int .i64 x.t,.int .i64 x.r] := ((h.put 0 (.int .i64 x.p)).put 1 (.int .i64 x.t)).put 2 (.int .i64 x.r)
theorem setJ {w : World} {g : Nat} {J : Jb} {v : Value} {cs : Array Value} (h : Bk w g 30 cs) (hs : cs.size = 18 := by rfl) : Bk (w.setCells g 0 (jobC J v).toList) g 30 (jobC J v) := by
  have key : ∀ (vs : List Value) (o : Nat) (w : World) (cs : Array Value),Bk w g 30 cs → o + vs.length ≤ cs.size → Bk (w.setCells g o vs) g 30 (cs.toList.take o ++ vs ++ cs.toList.drop (o + vs.length)).toArray := by
    intro vs
    induction vs with
    | nil => intro o w cs h _; simpa [World.setCells] using h
    | cons v r ih =>
      intro o w cs h hl
      simp only [List.length_cons] at hl
      have h2 := ih (o + 1) _ _ (h.put o v) (by simp; omega)
      rw [World.setCells]
      have e : (((cs.setIfInBounds o v).toList.take (o + 1) ++ r) ++ (cs.setIfInBounds o v).toList.drop (o + 1 + r.length)) = ((cs.toList.take o ++ (v :: r)) ++ cs.toList.drop (o + (v :: r).length)) := by
        simp only [Array.toList_setIfInBounds,List.length_cons]
        rw [List.drop_set_of_lt (by omega),show o + 1 + r.length = o + (r.length + 1) from by omega]
        have e1 : (cs.toList.set o v).take (o + 1) = cs.toList.take o ++ [v] := by
          rw [List.take_add_one]
          have hlo : o < cs.toList.length := by simp; omega
          rw [List.getElem?_set_self hlo,List.take_set_of_le (Nat.le_refl o)]
          rfl
        rw [e1]
        simp
      rw [← e]
      exact h2
  have h2 := key (jobC J v).toList 0 w cs h (by rw [hs]; show 0 + 18 ≤ 18; omega)
  rw [List.drop_of_length_le (by simp [hs])] at h2
  simpa using h2
set_option maxHeartbeats 12000000 in
set_option maxRecDepth 1000000 in
theorem gmpart10 {w0 : World} {b g4 g7 : Nat} {J : Jb} {ja : Option Addr} {jn jc : Nat} {X : R2} {n : Int} {w : World} {u0 u1 u2 u6 u8 u9 A0 A1 A2 A3 A4 A5 A6 A7 A8 A9 Aa Ab Ac Ad Ae Af Ag Ah Ai Aj Ak Al Am An Ao Ap Aq Ar As At Au Av Aw Ax Ay Az C0 C1 C2 C3 C4 C5 C6 C7 C8 C9 Ca Cb Cc Cd Ce Cf Cg Ch Ci Cj Ck Cl Cm Cn Co u71 Cq Cr Cs Ct Cu Cv Cw Cx Cy Cz D0 D1 D2 D3 D4 D5 D6 D7 D8 D9 Da Db Dc Dd De Df Dg Dh Di Dj Dk Dl Dm Dn Do Dp Dq Dr Ds Dt Du Dv Dw Dx Dy Dz E0 E1 E2 E3 E4 E5 E6 E7 E8 E9 Ea Eb Ec Ed Ee Ef Eg Eh Ei Ej Ek El Em En Eo Ep Eq Er Es Et Eu Ev Ew Ex Ey Ez F0 F1 F2 F3 F4 F5 F6 F7 F8 F9 Fa Fb Fc u167 Fe Ff Fg Fh Fi Fj Fk Fl Fm Fn Fo Fp Fq Fr Fs Ft Fu Fv Fw Fx Fy Fz L0 L1 L2 L3 L4 L5 L6 L7 L8 L9 La Lb Lc Ld Le Lf Lg Lh Li Lj Lk Ll Lm Ln Lo Lp Lq Lr : Value} (hF : J.Full) (hW : WOK J X) (htun : TunOK) (hjn : jn = J.sh.length) (hn4 : 0 ≤ n ∧ n ≤ 4) (hs : GP w0 w b g4 g7 J ja jn jc X) (hg : guideI J = n) : Code.wp Try.prog gmrest10 (QGM w0) ⟨#[u0,u1,u2,(.pointer (some ⟨b,0,none⟩)),(.pointer (some ⟨g4,0,none⟩)),(.int .i64 n),u6,(.pointer (some ⟨g7,0,none⟩)),u8,u9,A0,A1,A2,A3,A4,A5,A6,A7,A8,A9,Aa,Ab,Ac,Ad,Ae,Af,Ag,Ah,Ai,Aj,Ak,Al,Am,An,Ao,Ap,Aq,Ar,As,At,Au,Av,Aw,Ax,Ay,Az,C0,C1,C2,C3,C4,C5,C6,C7,C8,C9,Ca,Cb,Cc,Cd,Ce,Cf,Cg,Ch,Ci,Cj,Ck,Cl,Cm,Cn,Co,u71,Cq,Cr,Cs,Ct,Cu,Cv,Cw,Cx,Cy,Cz,D0,D1,D2,D3,D4,D5,D6,D7,D8,D9,Da,Db,Dc,Dd,De,Df,Dg,Dh,Di,Dj,Dk,Dl,Dm,Dn,Do,Dp,Dq,Dr,Ds,Dt,Du,Dv,Dw,Dx,Dy,Dz,E0,E1,E2,E3,E4,E5,E6,E7,E8,E9,Ea,Eb,Ec,Ed,Ee,Ef,Eg,Eh,Ei,Ej,Ek,El,Em,En,Eo,Ep,Eq,Er,Es,Et,Eu,Ev,Ew,Ex,Ey,Ez,F0,F1,F2,F3,F4,F5,F6,F7,F8,F9,Fa,Fb,Fc,u167,Fe,Ff,Fg,Fh,Fi,Fj,Fk,Fl,Fm,Fn,Fo,Fp,Fq,Fr,Fs,Ft,Fu,Fv,Fw,Fx,Fy,Fz,L0,L1,L2,L3,L4,L5,L6,L7,L8,L9,La,Lb,Lc,Ld,Le,Lf,Lg,Lh,Li,Lj,Lk,Ll,Lm,Ln,Lo,Lp,Lq,Lr],[]⟩ w := by
  rw [gmrest10_eq]
  have hin := (check_ok (Jb.Full.check hF)).inn
  have HIN := hidMk hin
  have HF := hidMk hF
  have HW := hidMk hW
  have HT := hidMk htun
  have HJN := hidMk hjn
  clear hF hW htun hjn hin
  refine wp_seq_k fun K0 hK0 => ?_
  refine region_via (R := fun a_ e_ a' w' => e_ = .normal ∧ ∃ (v70 v71 v72 v73 v74 : Value) (g10 g11 : Nat) (x : Fd) (ka : Option Addr) (kc : Nat),a' = (((((((a_.put (some 70) v70).put (some 71) v71).put (some 72) v72).put (some 73) v73).put (some 74) v74).put (some 10) (.pointer (some ⟨g10,0,none⟩))).put (some 11) (.pointer (some ⟨g11,0,none⟩))) ∧ J.tg.has x ∧ GP w0 w' b g4 g7 J ja jn jc X ∧ Bk w' g10 57 #[.int .i64 x.p,.int .i64 x.t,.int .i64 x.r] ∧ Bk w' g11 30 (jobC J (.slice ka jn kc)) ∧ Rg w' w'.heap.size ka J.sh ∧ Own w0 b g4 g7 J ja g10 ∧ Own w0 b g4 g7 J ja g11 ∧ g10 ≠ g11 ∧ Cp w' J ka g10 ∧ Cp w' J ka g11) ?_ ?_
  rotate_left
  · rintro e_ a' w' ⟨rfl,v70,v71,v72,v73,v74,g10,g11,x,ka,kc,rfl,hx,h1,h2,h3,h4,⟨o1,o2,o3,o4,o5⟩,⟨r1,r2,r3,r4,r5⟩,hne,c1,c2⟩
    refine hK0 _ _ ?_
    simp only [Act.put,aT,aZ,aS]
    refine gmpart11 (T := J.tg) HF.out HW.out HT.out HJN.out hn4 ⟨h1.b0,h1.hb,h1.pt,h1.job,h1.rg,h1.wx,h2,h3,h4,⟨⟨h1.ne.1,h1.ne.2,o1,r1⟩,⟨r2.symm,r3.symm,hne⟩,⟨o2.symm,o3.symm⟩,o4,r4⟩,fun k r hr => ?_,fun k r hr => ?_⟩ (gi_start (Jb.Full.check HF.out) hx n hg)
    · obtain ⟨q,o,h5,h6⟩ := c1 k r hr
      obtain ⟨q',o',h7,h8⟩ := c2 k r hr
      rw [h5] at h7
      cases h7
      exact ⟨q,o,h5,h6,h8⟩
    · obtain ⟨q,o,h5,h6⟩ := o5 k r hr
      obtain ⟨q',o',h7,h8⟩ := r5 k r hr
      rw [h5] at h7
      cases h7
      exact ⟨q,o,h5,h6,h8⟩
  have hS := hs.next (Below.refl _ _).drew
  clear hs
  refine wp_region_held_drew (S := fun w' => GP w0 w' b g4 g7 J ja jn jc X) (by kernel_rfl) hS (fun hS0 => ?_)
  clear hS0
  generalize w.drew = wd at hS ⊢
  refine wpAnyH_take (i := 0) (v := ?_) rfl (by kernel_rfl) (by kernel_rfl) (by kernel_rfl) (fun _ _ _ h => by cases h.1) (.inl ⟨by rfl,?_⟩) (by assumption) ?_
  rotate_left
  · (intro w' hSw; (try dsimp only at hSw); skip; go_simp <;> with_reducible rfl)
  (try simp only [Act.put,aT,aZ,aS])
  refine wpAnyH_take (i := 1) rfl (by kernel_rfl) (by kernel_rfl) (by kernel_rfl) (fun _ _ _ h => by cases h.1) (yields_row (by rfl) 30 _ rfl g4 (jobC J (.slice ja jn jc)) rfl 30 (fun w' hw => hw.job) Try.underlying30 szJob) (by assumption) ?_
  (try simp only [Act.put,aT,aZ,aS])
  refine wpAnyH_take (i := 3) rfl (by kernel_rfl) (by kernel_rfl) (by kernel_rfl) (fun _ _ _ h => by cases h.1) (yields_row (by rfl) 30 _ rfl g4 (jobC J (.slice ja jn jc)) rfl 30 (fun w' hw => hw.job) Try.underlying30 szJob) (by assumption) ?_
  (try simp only [Act.put,aT,aZ,aS])
  refine wpAnyH_ready (rs := [2,5,6]) (by kernel_rfl) (by simp) ?_
  refine AllReadyH.cons rfl (fun K hK => ?_) ?_
  · go_simp
    go_at_call 34
    refine (filedOf_any b J (.slice ja jn jc) _ hS.pt (HIN.out.mono (by decide)) HF.out.p.2.1 HF.out.t.2.1 HF.out.r.2.1).mono ?_
    rintro e' wX ⟨x,rfl,hx,hk,hp⟩
    have hS_ := hS.pot hk hp
    clear hS hk hp
    have hS := hS_
    clear hS_
    go_wp2_with fail
    refine hK.out _ _ hS (fun _ => ?_)
    clear hK K
    (try simp only [Act.put,aT,aZ,aS])
    refine wpAnyH_ready (rs := [4,5,6]) (by kernel_rfl) (by simp) ?_
    refine AllReadyH.cons rfl (fun K hK => ?_) ?_
    · go_simp
      go_at_call 11
      refine (copyJob_any J ja jn jc _ HJN.out (by have := HF.out.len; have := HJN.out; omega) hS.rg).mono ?_
      rintro e' wY ⟨ka,kc,rfl,own,hbX⟩
      have hkf : ∀ (k : Nat) (r : R2),J.sh[k]? = some r → ∃ q o,ka = some ⟨q,o,none⟩ ∧ wX.heap.size ≤ q := by
        intro k r hr
        rcases own.2 with ⟨h1,h2⟩ | ⟨g,cap,cur,h1,h2,_⟩
        · have h3 := HJN.out
          have h4 := (List.getElem?_eq_some_iff.1 hr).1
          omega
        · cases h1
          exact ⟨g,0,rfl,h2⟩
      obtain ⟨_,_,e3,-,hkr⟩ := Rg.of_own own
      cases e3
      have hS_ := hS.next hbX
      clear hS hbX own hkf
      have hS := hS_
      clear hS_
      go_wp2_with fail
      refine hK.out _ _ hS (fun _ => ?_)
      clear hK K
      (try simp only [Act.put,aT,aZ,aS])
      refine wpAnyH_ready (rs := [5,6]) (by kernel_rfl) (by simp) ?_
      refine AllReadyH.cons rfl (fun K hK => ?_) ?_
      · have hS_ := hS.next ((Below.refl _ _).alloc (Nat.le_refl wY.heap.size) (.cells #[.int .i64 0,.int .i64 0,.int .i64 0] 57))
        have pA : Bk (wY.alloc (.cells #[.int .i64 0,.int .i64 0,.int .i64 0] 57)) wY.heap.size 57 #[.int .i64 0,.int .i64 0,.int .i64 0] := Bk.new _ _ _
        have pE := hS.own
        have pC : Cp wY J ka wY.heap.size := fun k r hr => by
          obtain ⟨q,o,h1,h2,_⟩ := hkr k r hr
          exact ⟨q,o,h1,by omega⟩
        have hkr_ := hkr.up ((Below.refl _ _).alloc (Nat.le_refl _) (.cells #[.int .i64 0,.int .i64 0,.int .i64 0] 57))
        clear hkr
        have hkr := hkr_
        clear hkr_
        go_simp
        show K _ (wY.alloc (.cells #[.int .i64 0,.int .i64 0,.int .i64 0] 57))
        refine hK.out _ _ hS_ (fun _ => ?_)
        clear hS
        have hS := hS_
        clear hS_
        have pC_ : ∀ (k : Nat) (r : R2),J.sh[k]? = some r → ∃ q o,ka = some ⟨q,o,none⟩ ∧ q ≠ wY.heap.size := pC
        clear pC
        have pC := pC_
        clear pC_
        generalize wY.heap.size = g10 at pA pE pC ⊢
        generalize (wY.alloc (.cells #[.int .i64 0,.int .i64 0,.int .i64 0] 57)) = wA10 at hS pA hkr ⊢
        clear hK K
        (try simp only [Act.put,aT,aZ,aS])
        refine wpAnyH_ready (rs := [6]) (by kernel_rfl) (by simp) ?_
        refine AllReadyH.cons rfl (fun K hK => ?_) ?_
        · have hS_ := hS.next ((Below.refl _ _).alloc (Nat.le_refl wA10.heap.size) (.cells (jobC ⟨0,0,0,0,0,0,0,0,0,0,0,0,0,0,0,0,0,[]⟩ (.slice none 0 0)) 30))
          have pB : Bk (wA10.alloc (.cells (jobC ⟨0,0,0,0,0,0,0,0,0,0,0,0,0,0,0,0,0,[]⟩ (.slice none 0 0)) 30)) wA10.heap.size 30 (jobC ⟨0,0,0,0,0,0,0,0,0,0,0,0,0,0,0,0,0,[]⟩ (.slice none 0 0)) := Bk.new _ _ _
          have pF := hS.own
          have pD : Cp wA10 J ka wA10.heap.size := fun k r hr => by
            obtain ⟨q,o,h1,h2,_⟩ := hkr k r hr
            exact ⟨q,o,h1,by omega⟩
          have hnn : g10 ≠ wA10.heap.size := by have := pA.lt; omega
          have hA_ := pA.alloc (.cells (jobC ⟨0,0,0,0,0,0,0,0,0,0,0,0,0,0,0,0,0,[]⟩ (.slice none 0 0)) 30)
          clear pA
          have pA := hA_
          clear hA_
          have hkr_ := hkr.up ((Below.refl _ _).alloc (Nat.le_refl _) (.cells (jobC ⟨0,0,0,0,0,0,0,0,0,0,0,0,0,0,0,0,0,[]⟩ (.slice none 0 0)) 30))
          clear hkr
          have hkr := hkr_
          clear hkr_
          go_simp
          show K _ (wA10.alloc (.cells (jobC ⟨0,0,0,0,0,0,0,0,0,0,0,0,0,0,0,0,0,[]⟩ (.slice none 0 0)) 30))
          refine hK.out _ _ hS_ (fun _ => ?_)
          clear hS
          have hS := hS_
          clear hS_
          have pD_ : ∀ (k : Nat) (r : R2),J.sh[k]? = some r → ∃ q o,ka = some ⟨q,o,none⟩ ∧ q ≠ wA10.heap.size := pD
          clear pD
          have pD := pD_
          clear pD_
          generalize wA10.heap.size = g11 at pB pF pD hnn ⊢
          generalize (wA10.alloc (.cells (jobC ⟨0,0,0,0,0,0,0,0,0,0,0,0,0,0,0,0,0,[]⟩ (.slice none 0 0)) 30)) = wA11 at hS pB pA hkr ⊢
          clear hK K
          (try simp only [Act.put,aT,aZ,aS])
          refine wpAnyH_ready (rs := [7]) (by kernel_rfl) (by simp) ?_
          refine AllReadyH.cons rfl (fun K hK => ?_) ?_
          · have HNE := hidMk (show g10 ≠ g11 from by first | exact hnn | exact hnn.symm)
            refine wp_store_mid 57 (.tmp 10) (.tmp 72) rfl g10 0 #[.int .i64 x.p,.int .i64 x.t,.int .i64 x.r] rfl rfl (there_bk pA 3 (by decide)) szFd (oneFd x) ?_
            have hS_ := hS.cells pE 0 #[.int .i64 x.p,.int .i64 x.t,.int .i64 x.r].toList
            have pA_ : Bk (wA11.setCells g10 0 #[.int .i64 x.p,.int .i64 x.t,.int .i64 x.r].toList) g10 57 #[.int .i64 x.p,.int .i64 x.t,.int .i64 x.r] := setFd pA x
            have pB_ := bk_cells pB HNE.out.symm 0 #[.int .i64 x.p,.int .i64 x.t,.int .i64 x.r].toList
            have hkr_ := rg_cells hkr pC 0 #[.int .i64 x.p,.int .i64 x.t,.int .i64 x.r].toList
            refine hK.out _ _ hS_ (fun _ => ?_)
            clear hS pA pB hkr
            have hS := hS_
            have pA := pA_
            have pB : Bk _ g11 30 (jobC ⟨0,0,0,0,0,0,0,0,0,0,0,0,0,0,0,0,0,[]⟩ (.slice none 0 0)) := pB_
            have hkr := hkr_
            clear hS_ pA_ pB_ hkr_
            generalize wA11.setCells g10 0 #[.int .i64 x.p,.int .i64 x.t,.int .i64 x.r].toList = wS at hS pA pB hkr ⊢
            clear hK K
            (try simp only [Act.put,aT,aZ,aS])
            refine wpAnyH_ready (rs := [8]) (by kernel_rfl) (by simp) ?_
            refine AllReadyH.cons rfl (fun K hK => ?_) ?_
            · refine wp_store_mid 30 (.tmp 11) (.tmp 74) rfl g11 0 (jobC J (.slice ka jn kc)) rfl rfl (there_bk pB 18 (by decide)) szJob (oneJob _ _ _ _) ?_
              have hS_ := hS.cells pF 0 (jobC J (.slice ka jn kc)).toList
              have pB_ : Bk (wS.setCells g11 0 (jobC J (.slice ka jn kc)).toList) g11 30 (jobC J (.slice ka jn kc)) := setJ pB
              have pA_ := bk_cells pA HNE.out 0 (jobC J (.slice ka jn kc)).toList
              have hkr_ := rg_cells hkr pD 0 (jobC J (.slice ka jn kc)).toList
              refine hK.out _ _ hS_ (fun _ => ?_)
              clear hK K
              (try simp only [Act.put,aT,aZ,aS])
              refine wpAnyH_done (by kernel_rfl) ?_ _
              exact ⟨rfl,_,_,_,_,_,g10,g11,x,ka,kc,rfl,hx,hS_,pA_,pB_,hkr_,pE,pF,HNE.out,fun k r hr => pC k r hr,fun k r hr => pD k r hr⟩
            exact AllReadyH.nil
          exact AllReadyH.nil
        exact AllReadyH.nil
      refine AllReadyH.cons rfl (fun K hK => ?_) ?_
      · have hS_ := hS.next ((Below.refl _ _).alloc (Nat.le_refl wY.heap.size) (.cells (jobC ⟨0,0,0,0,0,0,0,0,0,0,0,0,0,0,0,0,0,[]⟩ (.slice none 0 0)) 30))
        have pB : Bk (wY.alloc (.cells (jobC ⟨0,0,0,0,0,0,0,0,0,0,0,0,0,0,0,0,0,[]⟩ (.slice none 0 0)) 30)) wY.heap.size 30 (jobC ⟨0,0,0,0,0,0,0,0,0,0,0,0,0,0,0,0,0,[]⟩ (.slice none 0 0)) := Bk.new _ _ _
        have pF := hS.own
        have pD : Cp wY J ka wY.heap.size := fun k r hr => by
          obtain ⟨q,o,h1,h2,_⟩ := hkr k r hr
          exact ⟨q,o,h1,by omega⟩
        have hkr_ := hkr.up ((Below.refl _ _).alloc (Nat.le_refl _) (.cells (jobC ⟨0,0,0,0,0,0,0,0,0,0,0,0,0,0,0,0,0,[]⟩ (.slice none 0 0)) 30))
        clear hkr
        have hkr := hkr_
        clear hkr_
        go_simp
        show K _ (wY.alloc (.cells (jobC ⟨0,0,0,0,0,0,0,0,0,0,0,0,0,0,0,0,0,[]⟩ (.slice none 0 0)) 30))
        refine hK.out _ _ hS_ (fun _ => ?_)
        clear hS
        have hS := hS_
        clear hS_
        have pD_ : ∀ (k : Nat) (r : R2),J.sh[k]? = some r → ∃ q o,ka = some ⟨q,o,none⟩ ∧ q ≠ wY.heap.size := pD
        clear pD
        have pD := pD_
        clear pD_
        generalize wY.heap.size = g11 at pB pF pD ⊢
        generalize (wY.alloc (.cells (jobC ⟨0,0,0,0,0,0,0,0,0,0,0,0,0,0,0,0,0,[]⟩ (.slice none 0 0)) 30)) = wA11 at hS pB hkr ⊢
        clear hK K
        (try simp only [Act.put,aT,aZ,aS])
        refine wpAnyH_ready (rs := [5]) (by kernel_rfl) (by simp) ?_
        refine AllReadyH.cons rfl (fun K hK => ?_) ?_
        · have hS_ := hS.next ((Below.refl _ _).alloc (Nat.le_refl wA11.heap.size) (.cells #[.int .i64 0,.int .i64 0,.int .i64 0] 57))
          have pA : Bk (wA11.alloc (.cells #[.int .i64 0,.int .i64 0,.int .i64 0] 57)) wA11.heap.size 57 #[.int .i64 0,.int .i64 0,.int .i64 0] := Bk.new _ _ _
          have pE := hS.own
          have pC : Cp wA11 J ka wA11.heap.size := fun k r hr => by
            obtain ⟨q,o,h1,h2,_⟩ := hkr k r hr
            exact ⟨q,o,h1,by omega⟩
          have hnn : g11 ≠ wA11.heap.size := by have := pB.lt; omega
          have hA_ := pB.alloc (.cells #[.int .i64 0,.int .i64 0,.int .i64 0] 57)
          clear pB
          have pB := hA_
          clear hA_
          have hkr_ := hkr.up ((Below.refl _ _).alloc (Nat.le_refl _) (.cells #[.int .i64 0,.int .i64 0,.int .i64 0] 57))
          clear hkr
          have hkr := hkr_
          clear hkr_
          go_simp
          show K _ (wA11.alloc (.cells #[.int .i64 0,.int .i64 0,.int .i64 0] 57))
          refine hK.out _ _ hS_ (fun _ => ?_)
          clear hS
          have hS := hS_
          clear hS_
          have pC_ : ∀ (k : Nat) (r : R2),J.sh[k]? = some r → ∃ q o,ka = some ⟨q,o,none⟩ ∧ q ≠ wA11.heap.size := pC
          clear pC
          have pC := pC_
          clear pC_
          generalize wA11.heap.size = g10 at pA pE pC hnn ⊢
          generalize (wA11.alloc (.cells #[.int .i64 0,.int .i64 0,.int .i64 0] 57)) = wA10 at hS pA pB hkr ⊢
          clear hK K
          (try simp only [Act.put,aT,aZ,aS])
          refine wpAnyH_ready (rs := [7]) (by kernel_rfl) (by simp) ?_
          refine AllReadyH.cons rfl (fun K hK => ?_) ?_
          · have HNE := hidMk (show g10 ≠ g11 from by first | exact hnn | exact hnn.symm)
            refine wp_store_mid 57 (.tmp 10) (.tmp 72) rfl g10 0 #[.int .i64 x.p,.int .i64 x.t,.int .i64 x.r] rfl rfl (there_bk pA 3 (by decide)) szFd (oneFd x) ?_
            have hS_ := hS.cells pE 0 #[.int .i64 x.p,.int .i64 x.t,.int .i64 x.r].toList
            have pA_ : Bk (wA10.setCells g10 0 #[.int .i64 x.p,.int .i64 x.t,.int .i64 x.r].toList) g10 57 #[.int .i64 x.p,.int .i64 x.t,.int .i64 x.r] := setFd pA x
            have pB_ := bk_cells pB HNE.out.symm 0 #[.int .i64 x.p,.int .i64 x.t,.int .i64 x.r].toList
            have hkr_ := rg_cells hkr pC 0 #[.int .i64 x.p,.int .i64 x.t,.int .i64 x.r].toList
            refine hK.out _ _ hS_ (fun _ => ?_)
            clear hS pA pB hkr
            have hS := hS_
            have pA := pA_
            have pB : Bk _ g11 30 (jobC ⟨0,0,0,0,0,0,0,0,0,0,0,0,0,0,0,0,0,[]⟩ (.slice none 0 0)) := pB_
            have hkr := hkr_
            clear hS_ pA_ pB_ hkr_
            generalize wA10.setCells g10 0 #[.int .i64 x.p,.int .i64 x.t,.int .i64 x.r].toList = wS at hS pA pB hkr ⊢
            clear hK K
            (try simp only [Act.put,aT,aZ,aS])
            refine wpAnyH_ready (rs := [8]) (by kernel_rfl) (by simp) ?_
            refine AllReadyH.cons rfl (fun K hK => ?_) ?_
            · refine wp_store_mid 30 (.tmp 11) (.tmp 74) rfl g11 0 (jobC J (.slice ka jn kc)) rfl rfl (there_bk pB 18 (by decide)) szJob (oneJob _ _ _ _) ?_
              have hS_ := hS.cells pF 0 (jobC J (.slice ka jn kc)).toList
              have pB_ : Bk (wS.setCells g11 0 (jobC J (.slice ka jn kc)).toList) g11 30 (jobC J (.slice ka jn kc)) := setJ pB
              have pA_ := bk_cells pA HNE.out 0 (jobC J (.slice ka jn kc)).toList
              have hkr_ := rg_cells hkr pD 0 (jobC J (.slice ka jn kc)).toList
              refine hK.out _ _ hS_ (fun _ => ?_)
              clear hK K
              (try simp only [Act.put,aT,aZ,aS])
              refine wpAnyH_done (by kernel_rfl) ?_ _
              exact ⟨rfl,_,_,_,_,_,g10,g11,x,ka,kc,rfl,hx,hS_,pA_,pB_,hkr_,pE,pF,HNE.out,fun k r hr => pC k r hr,fun k r hr => pD k r hr⟩
            exact AllReadyH.nil
          exact AllReadyH.nil
        exact AllReadyH.nil
      exact AllReadyH.nil
    refine AllReadyH.cons rfl (fun K hK => ?_) ?_
    · have hS_ := hS.next ((Below.refl _ _).alloc (Nat.le_refl wX.heap.size) (.cells #[.int .i64 0,.int .i64 0,.int .i64 0] 57))
      have pA : Bk (wX.alloc (.cells #[.int .i64 0,.int .i64 0,.int .i64 0] 57)) wX.heap.size 57 #[.int .i64 0,.int .i64 0,.int .i64 0] := Bk.new _ _ _
      have pE := hS.own
      go_simp
      show K _ (wX.alloc (.cells #[.int .i64 0,.int .i64 0,.int .i64 0] 57))
      refine hK.out _ _ hS_ (fun _ => ?_)
      clear hS
      have hS := hS_
      clear hS_
      generalize wX.heap.size = g10 at pA pE ⊢
      generalize (wX.alloc (.cells #[.int .i64 0,.int .i64 0,.int .i64 0] 57)) = wA10 at hS pA ⊢
      clear hK K
      (try simp only [Act.put,aT,aZ,aS])
      refine wpAnyH_ready (rs := [4,6]) (by kernel_rfl) (by simp) ?_
      refine AllReadyH.cons rfl (fun K hK => ?_) ?_
      · go_simp
        go_at_call 11
        have hLT10 := pA.lt
        refine (copyJob_any J ja jn jc _ HJN.out (by have := HF.out.len; have := HJN.out; omega) hS.rg).mono ?_
        rintro e' wY ⟨ka,kc,rfl,own,hbX⟩
        have hkf : ∀ (k : Nat) (r : R2),J.sh[k]? = some r → ∃ q o,ka = some ⟨q,o,none⟩ ∧ wA10.heap.size ≤ q := by
          intro k r hr
          rcases own.2 with ⟨h1,h2⟩ | ⟨g,cap,cur,h1,h2,_⟩
          · have h3 := HJN.out
            have h4 := (List.getElem?_eq_some_iff.1 hr).1
            omega
          · cases h1
            exact ⟨g,0,rfl,h2⟩
        obtain ⟨_,_,e3,-,hkr⟩ := Rg.of_own own
        cases e3
        have hS_ := hS.next hbX
        have hA_ := pA.below hbX pA.lt
        clear pA
        have pA := hA_
        clear hA_
        have pC : Cp wY J ka g10 := fun k r hr => by
          obtain ⟨q,o,h1,h2⟩ := hkf k r hr
          exact ⟨q,o,h1,by have := hLT10; omega⟩
        clear hLT10
        clear hS hbX own hkf
        have hS := hS_
        clear hS_
        go_wp2_with fail
        refine hK.out _ _ hS (fun _ => ?_)
        clear hK K
        (try simp only [Act.put,aT,aZ,aS])
        refine wpAnyH_ready (rs := [6]) (by kernel_rfl) (by simp) ?_
        refine AllReadyH.cons rfl (fun K hK => ?_) ?_
        · have hS_ := hS.next ((Below.refl _ _).alloc (Nat.le_refl wY.heap.size) (.cells (jobC ⟨0,0,0,0,0,0,0,0,0,0,0,0,0,0,0,0,0,[]⟩ (.slice none 0 0)) 30))
          have pB : Bk (wY.alloc (.cells (jobC ⟨0,0,0,0,0,0,0,0,0,0,0,0,0,0,0,0,0,[]⟩ (.slice none 0 0)) 30)) wY.heap.size 30 (jobC ⟨0,0,0,0,0,0,0,0,0,0,0,0,0,0,0,0,0,[]⟩ (.slice none 0 0)) := Bk.new _ _ _
          have pF := hS.own
          have pD : Cp wY J ka wY.heap.size := fun k r hr => by
            obtain ⟨q,o,h1,h2,_⟩ := hkr k r hr
            exact ⟨q,o,h1,by omega⟩
          have hnn : g10 ≠ wY.heap.size := by have := pA.lt; omega
          have hA_ := pA.alloc (.cells (jobC ⟨0,0,0,0,0,0,0,0,0,0,0,0,0,0,0,0,0,[]⟩ (.slice none 0 0)) 30)
          clear pA
          have pA := hA_
          clear hA_
          have hkr_ := hkr.up ((Below.refl _ _).alloc (Nat.le_refl _) (.cells (jobC ⟨0,0,0,0,0,0,0,0,0,0,0,0,0,0,0,0,0,[]⟩ (.slice none 0 0)) 30))
          clear hkr
          have hkr := hkr_
          clear hkr_
          go_simp
          show K _ (wY.alloc (.cells (jobC ⟨0,0,0,0,0,0,0,0,0,0,0,0,0,0,0,0,0,[]⟩ (.slice none 0 0)) 30))
          refine hK.out _ _ hS_ (fun _ => ?_)
          clear hS
          have hS := hS_
          clear hS_
          have pD_ : ∀ (k : Nat) (r : R2),J.sh[k]? = some r → ∃ q o,ka = some ⟨q,o,none⟩ ∧ q ≠ wY.heap.size := pD
          clear pD
          have pD := pD_
          clear pD_
          generalize wY.heap.size = g11 at pB pF pD hnn ⊢
          generalize (wY.alloc (.cells (jobC ⟨0,0,0,0,0,0,0,0,0,0,0,0,0,0,0,0,0,[]⟩ (.slice none 0 0)) 30)) = wA11 at hS pB pA hkr ⊢
          clear hK K
          (try simp only [Act.put,aT,aZ,aS])
          refine wpAnyH_ready (rs := [7]) (by kernel_rfl) (by simp) ?_
          refine AllReadyH.cons rfl (fun K hK => ?_) ?_
          · have HNE := hidMk (show g10 ≠ g11 from by first | exact hnn | exact hnn.symm)
            refine wp_store_mid 57 (.tmp 10) (.tmp 72) rfl g10 0 #[.int .i64 x.p,.int .i64 x.t,.int .i64 x.r] rfl rfl (there_bk pA 3 (by decide)) szFd (oneFd x) ?_
            have hS_ := hS.cells pE 0 #[.int .i64 x.p,.int .i64 x.t,.int .i64 x.r].toList
            have pA_ : Bk (wA11.setCells g10 0 #[.int .i64 x.p,.int .i64 x.t,.int .i64 x.r].toList) g10 57 #[.int .i64 x.p,.int .i64 x.t,.int .i64 x.r] := setFd pA x
            have pB_ := bk_cells pB HNE.out.symm 0 #[.int .i64 x.p,.int .i64 x.t,.int .i64 x.r].toList
            have hkr_ := rg_cells hkr pC 0 #[.int .i64 x.p,.int .i64 x.t,.int .i64 x.r].toList
            refine hK.out _ _ hS_ (fun _ => ?_)
            clear hS pA pB hkr
            have hS := hS_
            have pA := pA_
            have pB : Bk _ g11 30 (jobC ⟨0,0,0,0,0,0,0,0,0,0,0,0,0,0,0,0,0,[]⟩ (.slice none 0 0)) := pB_
            have hkr := hkr_
            clear hS_ pA_ pB_ hkr_
            generalize wA11.setCells g10 0 #[.int .i64 x.p,.int .i64 x.t,.int .i64 x.r].toList = wS at hS pA pB hkr ⊢
            clear hK K
            (try simp only [Act.put,aT,aZ,aS])
            refine wpAnyH_ready (rs := [8]) (by kernel_rfl) (by simp) ?_
            refine AllReadyH.cons rfl (fun K hK => ?_) ?_
            · refine wp_store_mid 30 (.tmp 11) (.tmp 74) rfl g11 0 (jobC J (.slice ka jn kc)) rfl rfl (there_bk pB 18 (by decide)) szJob (oneJob _ _ _ _) ?_
              have hS_ := hS.cells pF 0 (jobC J (.slice ka jn kc)).toList
              have pB_ : Bk (wS.setCells g11 0 (jobC J (.slice ka jn kc)).toList) g11 30 (jobC J (.slice ka jn kc)) := setJ pB
              have pA_ := bk_cells pA HNE.out 0 (jobC J (.slice ka jn kc)).toList
              have hkr_ := rg_cells hkr pD 0 (jobC J (.slice ka jn kc)).toList
              refine hK.out _ _ hS_ (fun _ => ?_)
              clear hK K
              (try simp only [Act.put,aT,aZ,aS])
              refine wpAnyH_done (by kernel_rfl) ?_ _
              exact ⟨rfl,_,_,_,_,_,g10,g11,x,ka,kc,rfl,hx,hS_,pA_,pB_,hkr_,pE,pF,HNE.out,fun k r hr => pC k r hr,fun k r hr => pD k r hr⟩
            exact AllReadyH.nil
          exact AllReadyH.nil
        exact AllReadyH.nil
      refine AllReadyH.cons rfl (fun K hK => ?_) ?_
      · have hS_ := hS.next ((Below.refl _ _).alloc (Nat.le_refl wA10.heap.size) (.cells (jobC ⟨0,0,0,0,0,0,0,0,0,0,0,0,0,0,0,0,0,[]⟩ (.slice none 0 0)) 30))
        have pB : Bk (wA10.alloc (.cells (jobC ⟨0,0,0,0,0,0,0,0,0,0,0,0,0,0,0,0,0,[]⟩ (.slice none 0 0)) 30)) wA10.heap.size 30 (jobC ⟨0,0,0,0,0,0,0,0,0,0,0,0,0,0,0,0,0,[]⟩ (.slice none 0 0)) := Bk.new _ _ _
        have pF := hS.own
        have hnn : g10 ≠ wA10.heap.size := by have := pA.lt; omega
        have hA_ := pA.alloc (.cells (jobC ⟨0,0,0,0,0,0,0,0,0,0,0,0,0,0,0,0,0,[]⟩ (.slice none 0 0)) 30)
        clear pA
        have pA := hA_
        clear hA_
        go_simp
        show K _ (wA10.alloc (.cells (jobC ⟨0,0,0,0,0,0,0,0,0,0,0,0,0,0,0,0,0,[]⟩ (.slice none 0 0)) 30))
        refine hK.out _ _ hS_ (fun _ => ?_)
        clear hS
        have hS := hS_
        clear hS_
        generalize wA10.heap.size = g11 at pB pF hnn ⊢
        generalize (wA10.alloc (.cells (jobC ⟨0,0,0,0,0,0,0,0,0,0,0,0,0,0,0,0,0,[]⟩ (.slice none 0 0)) 30)) = wA11 at hS pB pA ⊢
        clear hK K
        (try simp only [Act.put,aT,aZ,aS])
        refine wpAnyH_ready (rs := [4]) (by kernel_rfl) (by simp) ?_
        refine AllReadyH.cons rfl (fun K hK => ?_) ?_
        · go_simp
          go_at_call 11
          have hLT10 := pA.lt
          have hLT11 := pB.lt
          refine (copyJob_any J ja jn jc _ HJN.out (by have := HF.out.len; have := HJN.out; omega) hS.rg).mono ?_
          rintro e' wY ⟨ka,kc,rfl,own,hbX⟩
          have hkf : ∀ (k : Nat) (r : R2),J.sh[k]? = some r → ∃ q o,ka = some ⟨q,o,none⟩ ∧ wA11.heap.size ≤ q := by
            intro k r hr
            rcases own.2 with ⟨h1,h2⟩ | ⟨g,cap,cur,h1,h2,_⟩
            · have h3 := HJN.out
              have h4 := (List.getElem?_eq_some_iff.1 hr).1
              omega
            · cases h1
              exact ⟨g,0,rfl,h2⟩
          obtain ⟨_,_,e3,-,hkr⟩ := Rg.of_own own
          cases e3
          have hS_ := hS.next hbX
          have hA_ := pA.below hbX pA.lt
          clear pA
          have pA := hA_
          clear hA_
          have hA_ := pB.below hbX pB.lt
          clear pB
          have pB := hA_
          clear hA_
          have pC : Cp wY J ka g10 := fun k r hr => by
            obtain ⟨q,o,h1,h2⟩ := hkf k r hr
            exact ⟨q,o,h1,by have := hLT10; omega⟩
          have pD : Cp wY J ka g11 := fun k r hr => by
            obtain ⟨q,o,h1,h2⟩ := hkf k r hr
            exact ⟨q,o,h1,by have := hLT11; omega⟩
          clear hLT10
          clear hLT11
          clear hS hbX own hkf
          have hS := hS_
          clear hS_
          go_wp2_with fail
          refine hK.out _ _ hS (fun _ => ?_)
          clear hK K
          (try simp only [Act.put,aT,aZ,aS])
          refine wpAnyH_ready (rs := [7]) (by kernel_rfl) (by simp) ?_
          refine AllReadyH.cons rfl (fun K hK => ?_) ?_
          · have HNE := hidMk (show g10 ≠ g11 from by first | exact hnn | exact hnn.symm)
            refine wp_store_mid 57 (.tmp 10) (.tmp 72) rfl g10 0 #[.int .i64 x.p,.int .i64 x.t,.int .i64 x.r] rfl rfl (there_bk pA 3 (by decide)) szFd (oneFd x) ?_
            have hS_ := hS.cells pE 0 #[.int .i64 x.p,.int .i64 x.t,.int .i64 x.r].toList
            have pA_ : Bk (wY.setCells g10 0 #[.int .i64 x.p,.int .i64 x.t,.int .i64 x.r].toList) g10 57 #[.int .i64 x.p,.int .i64 x.t,.int .i64 x.r] := setFd pA x
            have pB_ := bk_cells pB HNE.out.symm 0 #[.int .i64 x.p,.int .i64 x.t,.int .i64 x.r].toList
            have hkr_ := rg_cells hkr pC 0 #[.int .i64 x.p,.int .i64 x.t,.int .i64 x.r].toList
            refine hK.out _ _ hS_ (fun _ => ?_)
            clear hS pA pB hkr
            have hS := hS_
            have pA := pA_
            have pB : Bk _ g11 30 (jobC ⟨0,0,0,0,0,0,0,0,0,0,0,0,0,0,0,0,0,[]⟩ (.slice none 0 0)) := pB_
            have hkr := hkr_
            clear hS_ pA_ pB_ hkr_
            generalize wY.setCells g10 0 #[.int .i64 x.p,.int .i64 x.t,.int .i64 x.r].toList = wS at hS pA pB hkr ⊢
            clear hK K
            (try simp only [Act.put,aT,aZ,aS])
            refine wpAnyH_ready (rs := [8]) (by kernel_rfl) (by simp) ?_
            refine AllReadyH.cons rfl (fun K hK => ?_) ?_
            · refine wp_store_mid 30 (.tmp 11) (.tmp 74) rfl g11 0 (jobC J (.slice ka jn kc)) rfl rfl (there_bk pB 18 (by decide)) szJob (oneJob _ _ _ _) ?_
              have hS_ := hS.cells pF 0 (jobC J (.slice ka jn kc)).toList
              have pB_ : Bk (wS.setCells g11 0 (jobC J (.slice ka jn kc)).toList) g11 30 (jobC J (.slice ka jn kc)) := setJ pB
              have pA_ := bk_cells pA HNE.out 0 (jobC J (.slice ka jn kc)).toList
              have hkr_ := rg_cells hkr pD 0 (jobC J (.slice ka jn kc)).toList
              refine hK.out _ _ hS_ (fun _ => ?_)
              clear hK K
              (try simp only [Act.put,aT,aZ,aS])
              refine wpAnyH_done (by kernel_rfl) ?_ _
              exact ⟨rfl,_,_,_,_,_,g10,g11,x,ka,kc,rfl,hx,hS_,pA_,pB_,hkr_,pE,pF,HNE.out,fun k r hr => pC k r hr,fun k r hr => pD k r hr⟩
            exact AllReadyH.nil
          exact AllReadyH.nil
        exact AllReadyH.nil
      exact AllReadyH.nil
    refine AllReadyH.cons rfl (fun K hK => ?_) ?_
    · have hS_ := hS.next ((Below.refl _ _).alloc (Nat.le_refl wX.heap.size) (.cells (jobC ⟨0,0,0,0,0,0,0,0,0,0,0,0,0,0,0,0,0,[]⟩ (.slice none 0 0)) 30))
      have pB : Bk (wX.alloc (.cells (jobC ⟨0,0,0,0,0,0,0,0,0,0,0,0,0,0,0,0,0,[]⟩ (.slice none 0 0)) 30)) wX.heap.size 30 (jobC ⟨0,0,0,0,0,0,0,0,0,0,0,0,0,0,0,0,0,[]⟩ (.slice none 0 0)) := Bk.new _ _ _
      have pF := hS.own
      go_simp
      show K _ (wX.alloc (.cells (jobC ⟨0,0,0,0,0,0,0,0,0,0,0,0,0,0,0,0,0,[]⟩ (.slice none 0 0)) 30))
      refine hK.out _ _ hS_ (fun _ => ?_)
      clear hS
      have hS := hS_
      clear hS_
      generalize wX.heap.size = g11 at pB pF ⊢
      generalize (wX.alloc (.cells (jobC ⟨0,0,0,0,0,0,0,0,0,0,0,0,0,0,0,0,0,[]⟩ (.slice none 0 0)) 30)) = wA11 at hS pB ⊢
      clear hK K
      (try simp only [Act.put,aT,aZ,aS])
      refine wpAnyH_ready (rs := [4,5]) (by kernel_rfl) (by simp) ?_
      refine AllReadyH.cons rfl (fun K hK => ?_) ?_
      · go_simp
        go_at_call 11
        have hLT11 := pB.lt
        refine (copyJob_any J ja jn jc _ HJN.out (by have := HF.out.len; have := HJN.out; omega) hS.rg).mono ?_
        rintro e' wY ⟨ka,kc,rfl,own,hbX⟩
        have hkf : ∀ (k : Nat) (r : R2),J.sh[k]? = some r → ∃ q o,ka = some ⟨q,o,none⟩ ∧ wA11.heap.size ≤ q := by
          intro k r hr
          rcases own.2 with ⟨h1,h2⟩ | ⟨g,cap,cur,h1,h2,_⟩
          · have h3 := HJN.out
            have h4 := (List.getElem?_eq_some_iff.1 hr).1
            omega
          · cases h1
            exact ⟨g,0,rfl,h2⟩
        obtain ⟨_,_,e3,-,hkr⟩ := Rg.of_own own
        cases e3
        have hS_ := hS.next hbX
        have hA_ := pB.below hbX pB.lt
        clear pB
        have pB := hA_
        clear hA_
        have pD : Cp wY J ka g11 := fun k r hr => by
          obtain ⟨q,o,h1,h2⟩ := hkf k r hr
          exact ⟨q,o,h1,by have := hLT11; omega⟩
        clear hLT11
        clear hS hbX own hkf
        have hS := hS_
        clear hS_
        go_wp2_with fail
        refine hK.out _ _ hS (fun _ => ?_)
        clear hK K
        (try simp only [Act.put,aT,aZ,aS])
        refine wpAnyH_ready (rs := [5]) (by kernel_rfl) (by simp) ?_
        refine AllReadyH.cons rfl (fun K hK => ?_) ?_
        · have hS_ := hS.next ((Below.refl _ _).alloc (Nat.le_refl wY.heap.size) (.cells #[.int .i64 0,.int .i64 0,.int .i64 0] 57))
          have pA : Bk (wY.alloc (.cells #[.int .i64 0,.int .i64 0,.int .i64 0] 57)) wY.heap.size 57 #[.int .i64 0,.int .i64 0,.int .i64 0] := Bk.new _ _ _
          have pE := hS.own
          have pC : Cp wY J ka wY.heap.size := fun k r hr => by
            obtain ⟨q,o,h1,h2,_⟩ := hkr k r hr
            exact ⟨q,o,h1,by omega⟩
          have hnn : g11 ≠ wY.heap.size := by have := pB.lt; omega
          have hA_ := pB.alloc (.cells #[.int .i64 0,.int .i64 0,.int .i64 0] 57)
          clear pB
          have pB := hA_
          clear hA_
          have hkr_ := hkr.up ((Below.refl _ _).alloc (Nat.le_refl _) (.cells #[.int .i64 0,.int .i64 0,.int .i64 0] 57))
          clear hkr
          have hkr := hkr_
          clear hkr_
          go_simp
          show K _ (wY.alloc (.cells #[.int .i64 0,.int .i64 0,.int .i64 0] 57))
          refine hK.out _ _ hS_ (fun _ => ?_)
          clear hS
          have hS := hS_
          clear hS_
          have pC_ : ∀ (k : Nat) (r : R2),J.sh[k]? = some r → ∃ q o,ka = some ⟨q,o,none⟩ ∧ q ≠ wY.heap.size := pC
          clear pC
          have pC := pC_
          clear pC_
          generalize wY.heap.size = g10 at pA pE pC hnn ⊢
          generalize (wY.alloc (.cells #[.int .i64 0,.int .i64 0,.int .i64 0] 57)) = wA10 at hS pA pB hkr ⊢
          clear hK K
          (try simp only [Act.put,aT,aZ,aS])
          refine wpAnyH_ready (rs := [7]) (by kernel_rfl) (by simp) ?_
          refine AllReadyH.cons rfl (fun K hK => ?_) ?_
          · have HNE := hidMk (show g10 ≠ g11 from by first | exact hnn | exact hnn.symm)
            refine wp_store_mid 57 (.tmp 10) (.tmp 72) rfl g10 0 #[.int .i64 x.p,.int .i64 x.t,.int .i64 x.r] rfl rfl (there_bk pA 3 (by decide)) szFd (oneFd x) ?_
            have hS_ := hS.cells pE 0 #[.int .i64 x.p,.int .i64 x.t,.int .i64 x.r].toList
            have pA_ : Bk (wA10.setCells g10 0 #[.int .i64 x.p,.int .i64 x.t,.int .i64 x.r].toList) g10 57 #[.int .i64 x.p,.int .i64 x.t,.int .i64 x.r] := setFd pA x
            have pB_ := bk_cells pB HNE.out.symm 0 #[.int .i64 x.p,.int .i64 x.t,.int .i64 x.r].toList
            have hkr_ := rg_cells hkr pC 0 #[.int .i64 x.p,.int .i64 x.t,.int .i64 x.r].toList
            refine hK.out _ _ hS_ (fun _ => ?_)
            clear hS pA pB hkr
            have hS := hS_
            have pA := pA_
            have pB : Bk _ g11 30 (jobC ⟨0,0,0,0,0,0,0,0,0,0,0,0,0,0,0,0,0,[]⟩ (.slice none 0 0)) := pB_
            have hkr := hkr_
            clear hS_ pA_ pB_ hkr_
            generalize wA10.setCells g10 0 #[.int .i64 x.p,.int .i64 x.t,.int .i64 x.r].toList = wS at hS pA pB hkr ⊢
            clear hK K
            (try simp only [Act.put,aT,aZ,aS])
            refine wpAnyH_ready (rs := [8]) (by kernel_rfl) (by simp) ?_
            refine AllReadyH.cons rfl (fun K hK => ?_) ?_
            · refine wp_store_mid 30 (.tmp 11) (.tmp 74) rfl g11 0 (jobC J (.slice ka jn kc)) rfl rfl (there_bk pB 18 (by decide)) szJob (oneJob _ _ _ _) ?_
              have hS_ := hS.cells pF 0 (jobC J (.slice ka jn kc)).toList
              have pB_ : Bk (wS.setCells g11 0 (jobC J (.slice ka jn kc)).toList) g11 30 (jobC J (.slice ka jn kc)) := setJ pB
              have pA_ := bk_cells pA HNE.out 0 (jobC J (.slice ka jn kc)).toList
              have hkr_ := rg_cells hkr pD 0 (jobC J (.slice ka jn kc)).toList
              refine hK.out _ _ hS_ (fun _ => ?_)
              clear hK K
              (try simp only [Act.put,aT,aZ,aS])
              refine wpAnyH_done (by kernel_rfl) ?_ _
              exact ⟨rfl,_,_,_,_,_,g10,g11,x,ka,kc,rfl,hx,hS_,pA_,pB_,hkr_,pE,pF,HNE.out,fun k r hr => pC k r hr,fun k r hr => pD k r hr⟩
            exact AllReadyH.nil
          exact AllReadyH.nil
        exact AllReadyH.nil
      refine AllReadyH.cons rfl (fun K hK => ?_) ?_
      · have hS_ := hS.next ((Below.refl _ _).alloc (Nat.le_refl wA11.heap.size) (.cells #[.int .i64 0,.int .i64 0,.int .i64 0] 57))
        have pA : Bk (wA11.alloc (.cells #[.int .i64 0,.int .i64 0,.int .i64 0] 57)) wA11.heap.size 57 #[.int .i64 0,.int .i64 0,.int .i64 0] := Bk.new _ _ _
        have pE := hS.own
        have hnn : g11 ≠ wA11.heap.size := by have := pB.lt; omega
        have hA_ := pB.alloc (.cells #[.int .i64 0,.int .i64 0,.int .i64 0] 57)
        clear pB
        have pB := hA_
        clear hA_
        go_simp
        show K _ (wA11.alloc (.cells #[.int .i64 0,.int .i64 0,.int .i64 0] 57))
        refine hK.out _ _ hS_ (fun _ => ?_)
        clear hS
        have hS := hS_
        clear hS_
        generalize wA11.heap.size = g10 at pA pE hnn ⊢
        generalize (wA11.alloc (.cells #[.int .i64 0,.int .i64 0,.int .i64 0] 57)) = wA10 at hS pA pB ⊢
        clear hK K
        (try simp only [Act.put,aT,aZ,aS])
        refine wpAnyH_ready (rs := [4]) (by kernel_rfl) (by simp) ?_
        refine AllReadyH.cons rfl (fun K hK => ?_) ?_
        · go_simp
          go_at_call 11
          have hLT10 := pA.lt
          have hLT11 := pB.lt
          refine (copyJob_any J ja jn jc _ HJN.out (by have := HF.out.len; have := HJN.out; omega) hS.rg).mono ?_
          rintro e' wY ⟨ka,kc,rfl,own,hbX⟩
          have hkf : ∀ (k : Nat) (r : R2),J.sh[k]? = some r → ∃ q o,ka = some ⟨q,o,none⟩ ∧ wA10.heap.size ≤ q := by
            intro k r hr
            rcases own.2 with ⟨h1,h2⟩ | ⟨g,cap,cur,h1,h2,_⟩
            · have h3 := HJN.out
              have h4 := (List.getElem?_eq_some_iff.1 hr).1
              omega
            · cases h1
              exact ⟨g,0,rfl,h2⟩
          obtain ⟨_,_,e3,-,hkr⟩ := Rg.of_own own
          cases e3
          have hS_ := hS.next hbX
          have hA_ := pA.below hbX pA.lt
          clear pA
          have pA := hA_
          clear hA_
          have hA_ := pB.below hbX pB.lt
          clear pB
          have pB := hA_
          clear hA_
          have pC : Cp wY J ka g10 := fun k r hr => by
            obtain ⟨q,o,h1,h2⟩ := hkf k r hr
            exact ⟨q,o,h1,by have := hLT10; omega⟩
          have pD : Cp wY J ka g11 := fun k r hr => by
            obtain ⟨q,o,h1,h2⟩ := hkf k r hr
            exact ⟨q,o,h1,by have := hLT11; omega⟩
          clear hLT10
          clear hLT11
          clear hS hbX own hkf
          have hS := hS_
          clear hS_
          go_wp2_with fail
          refine hK.out _ _ hS (fun _ => ?_)
          clear hK K
          (try simp only [Act.put,aT,aZ,aS])
          refine wpAnyH_ready (rs := [7]) (by kernel_rfl) (by simp) ?_
          refine AllReadyH.cons rfl (fun K hK => ?_) ?_
          · have HNE := hidMk (show g10 ≠ g11 from by first | exact hnn | exact hnn.symm)
            refine wp_store_mid 57 (.tmp 10) (.tmp 72) rfl g10 0 #[.int .i64 x.p,.int .i64 x.t,.int .i64 x.r] rfl rfl (there_bk pA 3 (by decide)) szFd (oneFd x) ?_
            have hS_ := hS.cells pE 0 #[.int .i64 x.p,.int .i64 x.t,.int .i64 x.r].toList
            have pA_ : Bk (wY.setCells g10 0 #[.int .i64 x.p,.int .i64 x.t,.int .i64 x.r].toList) g10 57 #[.int .i64 x.p,.int .i64 x.t,.int .i64 x.r] := setFd pA x
            have pB_ := bk_cells pB HNE.out.symm 0 #[.int .i64 x.p,.int .i64 x.t,.int .i64 x.r].toList
            have hkr_ := rg_cells hkr pC 0 #[.int .i64 x.p,.int .i64 x.t,.int .i64 x.r].toList
            refine hK.out _ _ hS_ (fun _ => ?_)
            clear hS pA pB hkr
            have hS := hS_
            have pA := pA_
            have pB : Bk _ g11 30 (jobC ⟨0,0,0,0,0,0,0,0,0,0,0,0,0,0,0,0,0,[]⟩ (.slice none 0 0)) := pB_
            have hkr := hkr_
            clear hS_ pA_ pB_ hkr_
            generalize wY.setCells g10 0 #[.int .i64 x.p,.int .i64 x.t,.int .i64 x.r].toList = wS at hS pA pB hkr ⊢
            clear hK K
            (try simp only [Act.put,aT,aZ,aS])
            refine wpAnyH_ready (rs := [8]) (by kernel_rfl) (by simp) ?_
            refine AllReadyH.cons rfl (fun K hK => ?_) ?_
            · refine wp_store_mid 30 (.tmp 11) (.tmp 74) rfl g11 0 (jobC J (.slice ka jn kc)) rfl rfl (there_bk pB 18 (by decide)) szJob (oneJob _ _ _ _) ?_
              have hS_ := hS.cells pF 0 (jobC J (.slice ka jn kc)).toList
              have pB_ : Bk (wS.setCells g11 0 (jobC J (.slice ka jn kc)).toList) g11 30 (jobC J (.slice ka jn kc)) := setJ pB
              have pA_ := bk_cells pA HNE.out 0 (jobC J (.slice ka jn kc)).toList
              have hkr_ := rg_cells hkr pD 0 (jobC J (.slice ka jn kc)).toList
              refine hK.out _ _ hS_ (fun _ => ?_)
              clear hK K
              (try simp only [Act.put,aT,aZ,aS])
              refine wpAnyH_done (by kernel_rfl) ?_ _
              exact ⟨rfl,_,_,_,_,_,g10,g11,x,ka,kc,rfl,hx,hS_,pA_,pB_,hkr_,pE,pF,HNE.out,fun k r hr => pC k r hr,fun k r hr => pD k r hr⟩
            exact AllReadyH.nil
          exact AllReadyH.nil
        exact AllReadyH.nil
      exact AllReadyH.nil
    exact AllReadyH.nil
  refine AllReadyH.cons rfl (fun K hK => ?_) ?_
  · have hS_ := hS.next ((Below.refl _ _).alloc (Nat.le_refl wd.heap.size) (.cells #[.int .i64 0,.int .i64 0,.int .i64 0] 57))
    have pA : Bk (wd.alloc (.cells #[.int .i64 0,.int .i64 0,.int .i64 0] 57)) wd.heap.size 57 #[.int .i64 0,.int .i64 0,.int .i64 0] := Bk.new _ _ _
    have pE := hS.own
    go_simp
    show K _ (wd.alloc (.cells #[.int .i64 0,.int .i64 0,.int .i64 0] 57))
    refine hK.out _ _ hS_ (fun _ => ?_)
    clear hS
    have hS := hS_
    clear hS_
    generalize wd.heap.size = g10 at pA pE ⊢
    generalize (wd.alloc (.cells #[.int .i64 0,.int .i64 0,.int .i64 0] 57)) = wA10 at hS pA ⊢
    clear hK K
    (try simp only [Act.put,aT,aZ,aS])
    refine wpAnyH_ready (rs := [2,6]) (by kernel_rfl) (by simp) ?_
    refine AllReadyH.cons rfl (fun K hK => ?_) ?_
    · go_simp
      go_at_call 34
      refine (filedOf_any b J (.slice ja jn jc) _ hS.pt (HIN.out.mono (by decide)) HF.out.p.2.1 HF.out.t.2.1 HF.out.r.2.1).mono ?_
      rintro e' wX ⟨x,rfl,hx,hk,hp⟩
      have hS_ := hS.pot hk hp
      have hA_ := pA.pb hk pA.lt pE.1
      clear pA
      have pA := hA_
      clear hA_
      clear hS hk hp
      have hS := hS_
      clear hS_
      go_wp2_with fail
      refine hK.out _ _ hS (fun _ => ?_)
      clear hK K
      (try simp only [Act.put,aT,aZ,aS])
      refine wpAnyH_ready (rs := [4,6]) (by kernel_rfl) (by simp) ?_
      refine AllReadyH.cons rfl (fun K hK => ?_) ?_
      · go_simp
        go_at_call 11
        have hLT10 := pA.lt
        refine (copyJob_any J ja jn jc _ HJN.out (by have := HF.out.len; have := HJN.out; omega) hS.rg).mono ?_
        rintro e' wY ⟨ka,kc,rfl,own,hbX⟩
        have hkf : ∀ (k : Nat) (r : R2),J.sh[k]? = some r → ∃ q o,ka = some ⟨q,o,none⟩ ∧ wX.heap.size ≤ q := by
          intro k r hr
          rcases own.2 with ⟨h1,h2⟩ | ⟨g,cap,cur,h1,h2,_⟩
          · have h3 := HJN.out
            have h4 := (List.getElem?_eq_some_iff.1 hr).1
            omega
          · cases h1
            exact ⟨g,0,rfl,h2⟩
        obtain ⟨_,_,e3,-,hkr⟩ := Rg.of_own own
        cases e3
        have hS_ := hS.next hbX
        have hA_ := pA.below hbX pA.lt
        clear pA
        have pA := hA_
        clear hA_
        have pC : Cp wY J ka g10 := fun k r hr => by
          obtain ⟨q,o,h1,h2⟩ := hkf k r hr
          exact ⟨q,o,h1,by have := hLT10; omega⟩
        clear hLT10
        clear hS hbX own hkf
        have hS := hS_
        clear hS_
        go_wp2_with fail
        refine hK.out _ _ hS (fun _ => ?_)
        clear hK K
        (try simp only [Act.put,aT,aZ,aS])
        refine wpAnyH_ready (rs := [6]) (by kernel_rfl) (by simp) ?_
        refine AllReadyH.cons rfl (fun K hK => ?_) ?_
        · have hS_ := hS.next ((Below.refl _ _).alloc (Nat.le_refl wY.heap.size) (.cells (jobC ⟨0,0,0,0,0,0,0,0,0,0,0,0,0,0,0,0,0,[]⟩ (.slice none 0 0)) 30))
          have pB : Bk (wY.alloc (.cells (jobC ⟨0,0,0,0,0,0,0,0,0,0,0,0,0,0,0,0,0,[]⟩ (.slice none 0 0)) 30)) wY.heap.size 30 (jobC ⟨0,0,0,0,0,0,0,0,0,0,0,0,0,0,0,0,0,[]⟩ (.slice none 0 0)) := Bk.new _ _ _
          have pF := hS.own
          have pD : Cp wY J ka wY.heap.size := fun k r hr => by
            obtain ⟨q,o,h1,h2,_⟩ := hkr k r hr
            exact ⟨q,o,h1,by omega⟩
          have hnn : g10 ≠ wY.heap.size := by have := pA.lt; omega
          have hA_ := pA.alloc (.cells (jobC ⟨0,0,0,0,0,0,0,0,0,0,0,0,0,0,0,0,0,[]⟩ (.slice none 0 0)) 30)
          clear pA
          have pA := hA_
          clear hA_
          have hkr_ := hkr.up ((Below.refl _ _).alloc (Nat.le_refl _) (.cells (jobC ⟨0,0,0,0,0,0,0,0,0,0,0,0,0,0,0,0,0,[]⟩ (.slice none 0 0)) 30))
          clear hkr
          have hkr := hkr_
          clear hkr_
          go_simp
          show K _ (wY.alloc (.cells (jobC ⟨0,0,0,0,0,0,0,0,0,0,0,0,0,0,0,0,0,[]⟩ (.slice none 0 0)) 30))
          refine hK.out _ _ hS_ (fun _ => ?_)
          clear hS
          have hS := hS_
          clear hS_
          have pD_ : ∀ (k : Nat) (r : R2),J.sh[k]? = some r → ∃ q o,ka = some ⟨q,o,none⟩ ∧ q ≠ wY.heap.size := pD
          clear pD
          have pD := pD_
          clear pD_
          generalize wY.heap.size = g11 at pB pF pD hnn ⊢
          generalize (wY.alloc (.cells (jobC ⟨0,0,0,0,0,0,0,0,0,0,0,0,0,0,0,0,0,[]⟩ (.slice none 0 0)) 30)) = wA11 at hS pB pA hkr ⊢
          clear hK K
          (try simp only [Act.put,aT,aZ,aS])
          refine wpAnyH_ready (rs := [7]) (by kernel_rfl) (by simp) ?_
          refine AllReadyH.cons rfl (fun K hK => ?_) ?_
          · have HNE := hidMk (show g10 ≠ g11 from by first | exact hnn | exact hnn.symm)
            refine wp_store_mid 57 (.tmp 10) (.tmp 72) rfl g10 0 #[.int .i64 x.p,.int .i64 x.t,.int .i64 x.r] rfl rfl (there_bk pA 3 (by decide)) szFd (oneFd x) ?_
            have hS_ := hS.cells pE 0 #[.int .i64 x.p,.int .i64 x.t,.int .i64 x.r].toList
            have pA_ : Bk (wA11.setCells g10 0 #[.int .i64 x.p,.int .i64 x.t,.int .i64 x.r].toList) g10 57 #[.int .i64 x.p,.int .i64 x.t,.int .i64 x.r] := setFd pA x
            have pB_ := bk_cells pB HNE.out.symm 0 #[.int .i64 x.p,.int .i64 x.t,.int .i64 x.r].toList
            have hkr_ := rg_cells hkr pC 0 #[.int .i64 x.p,.int .i64 x.t,.int .i64 x.r].toList
            refine hK.out _ _ hS_ (fun _ => ?_)
            clear hS pA pB hkr
            have hS := hS_
            have pA := pA_
            have pB : Bk _ g11 30 (jobC ⟨0,0,0,0,0,0,0,0,0,0,0,0,0,0,0,0,0,[]⟩ (.slice none 0 0)) := pB_
            have hkr := hkr_
            clear hS_ pA_ pB_ hkr_
            generalize wA11.setCells g10 0 #[.int .i64 x.p,.int .i64 x.t,.int .i64 x.r].toList = wS at hS pA pB hkr ⊢
            clear hK K
            (try simp only [Act.put,aT,aZ,aS])
            refine wpAnyH_ready (rs := [8]) (by kernel_rfl) (by simp) ?_
            refine AllReadyH.cons rfl (fun K hK => ?_) ?_
            · refine wp_store_mid 30 (.tmp 11) (.tmp 74) rfl g11 0 (jobC J (.slice ka jn kc)) rfl rfl (there_bk pB 18 (by decide)) szJob (oneJob _ _ _ _) ?_
              have hS_ := hS.cells pF 0 (jobC J (.slice ka jn kc)).toList
              have pB_ : Bk (wS.setCells g11 0 (jobC J (.slice ka jn kc)).toList) g11 30 (jobC J (.slice ka jn kc)) := setJ pB
              have pA_ := bk_cells pA HNE.out 0 (jobC J (.slice ka jn kc)).toList
              have hkr_ := rg_cells hkr pD 0 (jobC J (.slice ka jn kc)).toList
              refine hK.out _ _ hS_ (fun _ => ?_)
              clear hK K
              (try simp only [Act.put,aT,aZ,aS])
              refine wpAnyH_done (by kernel_rfl) ?_ _
              exact ⟨rfl,_,_,_,_,_,g10,g11,x,ka,kc,rfl,hx,hS_,pA_,pB_,hkr_,pE,pF,HNE.out,fun k r hr => pC k r hr,fun k r hr => pD k r hr⟩
            exact AllReadyH.nil
          exact AllReadyH.nil
        exact AllReadyH.nil
      refine AllReadyH.cons rfl (fun K hK => ?_) ?_
      · have hS_ := hS.next ((Below.refl _ _).alloc (Nat.le_refl wX.heap.size) (.cells (jobC ⟨0,0,0,0,0,0,0,0,0,0,0,0,0,0,0,0,0,[]⟩ (.slice none 0 0)) 30))
        have pB : Bk (wX.alloc (.cells (jobC ⟨0,0,0,0,0,0,0,0,0,0,0,0,0,0,0,0,0,[]⟩ (.slice none 0 0)) 30)) wX.heap.size 30 (jobC ⟨0,0,0,0,0,0,0,0,0,0,0,0,0,0,0,0,0,[]⟩ (.slice none 0 0)) := Bk.new _ _ _
        have pF := hS.own
        have hnn : g10 ≠ wX.heap.size := by have := pA.lt; omega
        have hA_ := pA.alloc (.cells (jobC ⟨0,0,0,0,0,0,0,0,0,0,0,0,0,0,0,0,0,[]⟩ (.slice none 0 0)) 30)
        clear pA
        have pA := hA_
        clear hA_
        go_simp
        show K _ (wX.alloc (.cells (jobC ⟨0,0,0,0,0,0,0,0,0,0,0,0,0,0,0,0,0,[]⟩ (.slice none 0 0)) 30))
        refine hK.out _ _ hS_ (fun _ => ?_)
        clear hS
        have hS := hS_
        clear hS_
        generalize wX.heap.size = g11 at pB pF hnn ⊢
        generalize (wX.alloc (.cells (jobC ⟨0,0,0,0,0,0,0,0,0,0,0,0,0,0,0,0,0,[]⟩ (.slice none 0 0)) 30)) = wA11 at hS pB pA ⊢
        clear hK K
        (try simp only [Act.put,aT,aZ,aS])
        refine wpAnyH_ready (rs := [4]) (by kernel_rfl) (by simp) ?_
        refine AllReadyH.cons rfl (fun K hK => ?_) ?_
        · go_simp
          go_at_call 11
          have hLT10 := pA.lt
          have hLT11 := pB.lt
          refine (copyJob_any J ja jn jc _ HJN.out (by have := HF.out.len; have := HJN.out; omega) hS.rg).mono ?_
          rintro e' wY ⟨ka,kc,rfl,own,hbX⟩
          have hkf : ∀ (k : Nat) (r : R2),J.sh[k]? = some r → ∃ q o,ka = some ⟨q,o,none⟩ ∧ wA11.heap.size ≤ q := by
            intro k r hr
            rcases own.2 with ⟨h1,h2⟩ | ⟨g,cap,cur,h1,h2,_⟩
            · have h3 := HJN.out
              have h4 := (List.getElem?_eq_some_iff.1 hr).1
              omega
            · cases h1
              exact ⟨g,0,rfl,h2⟩
          obtain ⟨_,_,e3,-,hkr⟩ := Rg.of_own own
          cases e3
          have hS_ := hS.next hbX
          have hA_ := pA.below hbX pA.lt
          clear pA
          have pA := hA_
          clear hA_
          have hA_ := pB.below hbX pB.lt
          clear pB
          have pB := hA_
          clear hA_
          have pC : Cp wY J ka g10 := fun k r hr => by
            obtain ⟨q,o,h1,h2⟩ := hkf k r hr
            exact ⟨q,o,h1,by have := hLT10; omega⟩
          have pD : Cp wY J ka g11 := fun k r hr => by
            obtain ⟨q,o,h1,h2⟩ := hkf k r hr
            exact ⟨q,o,h1,by have := hLT11; omega⟩
          clear hLT10
          clear hLT11
          clear hS hbX own hkf
          have hS := hS_
          clear hS_
          go_wp2_with fail
          refine hK.out _ _ hS (fun _ => ?_)
          clear hK K
          (try simp only [Act.put,aT,aZ,aS])
          refine wpAnyH_ready (rs := [7]) (by kernel_rfl) (by simp) ?_
          refine AllReadyH.cons rfl (fun K hK => ?_) ?_
          · have HNE := hidMk (show g10 ≠ g11 from by first | exact hnn | exact hnn.symm)
            refine wp_store_mid 57 (.tmp 10) (.tmp 72) rfl g10 0 #[.int .i64 x.p,.int .i64 x.t,.int .i64 x.r] rfl rfl (there_bk pA 3 (by decide)) szFd (oneFd x) ?_
            have hS_ := hS.cells pE 0 #[.int .i64 x.p,.int .i64 x.t,.int .i64 x.r].toList
            have pA_ : Bk (wY.setCells g10 0 #[.int .i64 x.p,.int .i64 x.t,.int .i64 x.r].toList) g10 57 #[.int .i64 x.p,.int .i64 x.t,.int .i64 x.r] := setFd pA x
            have pB_ := bk_cells pB HNE.out.symm 0 #[.int .i64 x.p,.int .i64 x.t,.int .i64 x.r].toList
            have hkr_ := rg_cells hkr pC 0 #[.int .i64 x.p,.int .i64 x.t,.int .i64 x.r].toList
            refine hK.out _ _ hS_ (fun _ => ?_)
            clear hS pA pB hkr
            have hS := hS_
            have pA := pA_
            have pB : Bk _ g11 30 (jobC ⟨0,0,0,0,0,0,0,0,0,0,0,0,0,0,0,0,0,[]⟩ (.slice none 0 0)) := pB_
            have hkr := hkr_
            clear hS_ pA_ pB_ hkr_
            generalize wY.setCells g10 0 #[.int .i64 x.p,.int .i64 x.t,.int .i64 x.r].toList = wS at hS pA pB hkr ⊢
            clear hK K
            (try simp only [Act.put,aT,aZ,aS])
            refine wpAnyH_ready (rs := [8]) (by kernel_rfl) (by simp) ?_
            refine AllReadyH.cons rfl (fun K hK => ?_) ?_
            · refine wp_store_mid 30 (.tmp 11) (.tmp 74) rfl g11 0 (jobC J (.slice ka jn kc)) rfl rfl (there_bk pB 18 (by decide)) szJob (oneJob _ _ _ _) ?_
              have hS_ := hS.cells pF 0 (jobC J (.slice ka jn kc)).toList
              have pB_ : Bk (wS.setCells g11 0 (jobC J (.slice ka jn kc)).toList) g11 30 (jobC J (.slice ka jn kc)) := setJ pB
              have pA_ := bk_cells pA HNE.out 0 (jobC J (.slice ka jn kc)).toList
              have hkr_ := rg_cells hkr pD 0 (jobC J (.slice ka jn kc)).toList
              refine hK.out _ _ hS_ (fun _ => ?_)
              clear hK K
              (try simp only [Act.put,aT,aZ,aS])
              refine wpAnyH_done (by kernel_rfl) ?_ _
              exact ⟨rfl,_,_,_,_,_,g10,g11,x,ka,kc,rfl,hx,hS_,pA_,pB_,hkr_,pE,pF,HNE.out,fun k r hr => pC k r hr,fun k r hr => pD k r hr⟩
            exact AllReadyH.nil
          exact AllReadyH.nil
        exact AllReadyH.nil
      exact AllReadyH.nil
    refine AllReadyH.cons rfl (fun K hK => ?_) ?_
    · have hS_ := hS.next ((Below.refl _ _).alloc (Nat.le_refl wA10.heap.size) (.cells (jobC ⟨0,0,0,0,0,0,0,0,0,0,0,0,0,0,0,0,0,[]⟩ (.slice none 0 0)) 30))
      have pB : Bk (wA10.alloc (.cells (jobC ⟨0,0,0,0,0,0,0,0,0,0,0,0,0,0,0,0,0,[]⟩ (.slice none 0 0)) 30)) wA10.heap.size 30 (jobC ⟨0,0,0,0,0,0,0,0,0,0,0,0,0,0,0,0,0,[]⟩ (.slice none 0 0)) := Bk.new _ _ _
      have pF := hS.own
      have hnn : g10 ≠ wA10.heap.size := by have := pA.lt; omega
      have hA_ := pA.alloc (.cells (jobC ⟨0,0,0,0,0,0,0,0,0,0,0,0,0,0,0,0,0,[]⟩ (.slice none 0 0)) 30)
      clear pA
      have pA := hA_
      clear hA_
      go_simp
      show K _ (wA10.alloc (.cells (jobC ⟨0,0,0,0,0,0,0,0,0,0,0,0,0,0,0,0,0,[]⟩ (.slice none 0 0)) 30))
      refine hK.out _ _ hS_ (fun _ => ?_)
      clear hS
      have hS := hS_
      clear hS_
      generalize wA10.heap.size = g11 at pB pF hnn ⊢
      generalize (wA10.alloc (.cells (jobC ⟨0,0,0,0,0,0,0,0,0,0,0,0,0,0,0,0,0,[]⟩ (.slice none 0 0)) 30)) = wA11 at hS pB pA ⊢
      clear hK K
      (try simp only [Act.put,aT,aZ,aS])
      refine wpAnyH_ready (rs := [2]) (by kernel_rfl) (by simp) ?_
      refine AllReadyH.cons rfl (fun K hK => ?_) ?_
      · go_simp
        go_at_call 34
        refine (filedOf_any b J (.slice ja jn jc) _ hS.pt (HIN.out.mono (by decide)) HF.out.p.2.1 HF.out.t.2.1 HF.out.r.2.1).mono ?_
        rintro e' wX ⟨x,rfl,hx,hk,hp⟩
        have hS_ := hS.pot hk hp
        have hA_ := pA.pb hk pA.lt pE.1
        clear pA
        have pA := hA_
        clear hA_
        have hA_ := pB.pb hk pB.lt pF.1
        clear pB
        have pB := hA_
        clear hA_
        clear hS hk hp
        have hS := hS_
        clear hS_
        go_wp2_with fail
        refine hK.out _ _ hS (fun _ => ?_)
        clear hK K
        (try simp only [Act.put,aT,aZ,aS])
        refine wpAnyH_ready (rs := [4]) (by kernel_rfl) (by simp) ?_
        refine AllReadyH.cons rfl (fun K hK => ?_) ?_
        · go_simp
          go_at_call 11
          have hLT10 := pA.lt
          have hLT11 := pB.lt
          refine (copyJob_any J ja jn jc _ HJN.out (by have := HF.out.len; have := HJN.out; omega) hS.rg).mono ?_
          rintro e' wY ⟨ka,kc,rfl,own,hbX⟩
          have hkf : ∀ (k : Nat) (r : R2),J.sh[k]? = some r → ∃ q o,ka = some ⟨q,o,none⟩ ∧ wX.heap.size ≤ q := by
            intro k r hr
            rcases own.2 with ⟨h1,h2⟩ | ⟨g,cap,cur,h1,h2,_⟩
            · have h3 := HJN.out
              have h4 := (List.getElem?_eq_some_iff.1 hr).1
              omega
            · cases h1
              exact ⟨g,0,rfl,h2⟩
          obtain ⟨_,_,e3,-,hkr⟩ := Rg.of_own own
          cases e3
          have hS_ := hS.next hbX
          have hA_ := pA.below hbX pA.lt
          clear pA
          have pA := hA_
          clear hA_
          have hA_ := pB.below hbX pB.lt
          clear pB
          have pB := hA_
          clear hA_
          have pC : Cp wY J ka g10 := fun k r hr => by
            obtain ⟨q,o,h1,h2⟩ := hkf k r hr
            exact ⟨q,o,h1,by have := hLT10; omega⟩
          have pD : Cp wY J ka g11 := fun k r hr => by
            obtain ⟨q,o,h1,h2⟩ := hkf k r hr
            exact ⟨q,o,h1,by have := hLT11; omega⟩
          clear hLT10
          clear hLT11
          clear hS hbX own hkf
          have hS := hS_
          clear hS_
          go_wp2_with fail
          refine hK.out _ _ hS (fun _ => ?_)
          clear hK K
          (try simp only [Act.put,aT,aZ,aS])
          refine wpAnyH_ready (rs := [7]) (by kernel_rfl) (by simp) ?_
          refine AllReadyH.cons rfl (fun K hK => ?_) ?_
          · have HNE := hidMk (show g10 ≠ g11 from by first | exact hnn | exact hnn.symm)
            refine wp_store_mid 57 (.tmp 10) (.tmp 72) rfl g10 0 #[.int .i64 x.p,.int .i64 x.t,.int .i64 x.r] rfl rfl (there_bk pA 3 (by decide)) szFd (oneFd x) ?_
            have hS_ := hS.cells pE 0 #[.int .i64 x.p,.int .i64 x.t,.int .i64 x.r].toList
            have pA_ : Bk (wY.setCells g10 0 #[.int .i64 x.p,.int .i64 x.t,.int .i64 x.r].toList) g10 57 #[.int .i64 x.p,.int .i64 x.t,.int .i64 x.r] := setFd pA x
            have pB_ := bk_cells pB HNE.out.symm 0 #[.int .i64 x.p,.int .i64 x.t,.int .i64 x.r].toList
            have hkr_ := rg_cells hkr pC 0 #[.int .i64 x.p,.int .i64 x.t,.int .i64 x.r].toList
            refine hK.out _ _ hS_ (fun _ => ?_)
            clear hS pA pB hkr
            have hS := hS_
            have pA := pA_
            have pB : Bk _ g11 30 (jobC ⟨0,0,0,0,0,0,0,0,0,0,0,0,0,0,0,0,0,[]⟩ (.slice none 0 0)) := pB_
            have hkr := hkr_
            clear hS_ pA_ pB_ hkr_
            generalize wY.setCells g10 0 #[.int .i64 x.p,.int .i64 x.t,.int .i64 x.r].toList = wS at hS pA pB hkr ⊢
            clear hK K
            (try simp only [Act.put,aT,aZ,aS])
            refine wpAnyH_ready (rs := [8]) (by kernel_rfl) (by simp) ?_
            refine AllReadyH.cons rfl (fun K hK => ?_) ?_
            · refine wp_store_mid 30 (.tmp 11) (.tmp 74) rfl g11 0 (jobC J (.slice ka jn kc)) rfl rfl (there_bk pB 18 (by decide)) szJob (oneJob _ _ _ _) ?_
              have hS_ := hS.cells pF 0 (jobC J (.slice ka jn kc)).toList
              have pB_ : Bk (wS.setCells g11 0 (jobC J (.slice ka jn kc)).toList) g11 30 (jobC J (.slice ka jn kc)) := setJ pB
              have pA_ := bk_cells pA HNE.out 0 (jobC J (.slice ka jn kc)).toList
              have hkr_ := rg_cells hkr pD 0 (jobC J (.slice ka jn kc)).toList
              refine hK.out _ _ hS_ (fun _ => ?_)
              clear hK K
              (try simp only [Act.put,aT,aZ,aS])
              refine wpAnyH_done (by kernel_rfl) ?_ _
              exact ⟨rfl,_,_,_,_,_,g10,g11,x,ka,kc,rfl,hx,hS_,pA_,pB_,hkr_,pE,pF,HNE.out,fun k r hr => pC k r hr,fun k r hr => pD k r hr⟩
            exact AllReadyH.nil
          exact AllReadyH.nil
        exact AllReadyH.nil
      exact AllReadyH.nil
    exact AllReadyH.nil
  refine AllReadyH.cons rfl (fun K hK => ?_) ?_
  · have hS_ := hS.next ((Below.refl _ _).alloc (Nat.le_refl wd.heap.size) (.cells (jobC ⟨0,0,0,0,0,0,0,0,0,0,0,0,0,0,0,0,0,[]⟩ (.slice none 0 0)) 30))
    have pB : Bk (wd.alloc (.cells (jobC ⟨0,0,0,0,0,0,0,0,0,0,0,0,0,0,0,0,0,[]⟩ (.slice none 0 0)) 30)) wd.heap.size 30 (jobC ⟨0,0,0,0,0,0,0,0,0,0,0,0,0,0,0,0,0,[]⟩ (.slice none 0 0)) := Bk.new _ _ _
    have pF := hS.own
    go_simp
    show K _ (wd.alloc (.cells (jobC ⟨0,0,0,0,0,0,0,0,0,0,0,0,0,0,0,0,0,[]⟩ (.slice none 0 0)) 30))
    refine hK.out _ _ hS_ (fun _ => ?_)
    clear hS
    have hS := hS_
    clear hS_
    generalize wd.heap.size = g11 at pB pF ⊢
    generalize (wd.alloc (.cells (jobC ⟨0,0,0,0,0,0,0,0,0,0,0,0,0,0,0,0,0,[]⟩ (.slice none 0 0)) 30)) = wA11 at hS pB ⊢
    clear hK K
    (try simp only [Act.put,aT,aZ,aS])
    refine wpAnyH_ready (rs := [2,5]) (by kernel_rfl) (by simp) ?_
    refine AllReadyH.cons rfl (fun K hK => ?_) ?_
    · go_simp
      go_at_call 34
      refine (filedOf_any b J (.slice ja jn jc) _ hS.pt (HIN.out.mono (by decide)) HF.out.p.2.1 HF.out.t.2.1 HF.out.r.2.1).mono ?_
      rintro e' wX ⟨x,rfl,hx,hk,hp⟩
      have hS_ := hS.pot hk hp
      have hA_ := pB.pb hk pB.lt pF.1
      clear pB
      have pB := hA_
      clear hA_
      clear hS hk hp
      have hS := hS_
      clear hS_
      go_wp2_with fail
      refine hK.out _ _ hS (fun _ => ?_)
      clear hK K
      (try simp only [Act.put,aT,aZ,aS])
      refine wpAnyH_ready (rs := [4,5]) (by kernel_rfl) (by simp) ?_
      refine AllReadyH.cons rfl (fun K hK => ?_) ?_
      · go_simp
        go_at_call 11
        have hLT11 := pB.lt
        refine (copyJob_any J ja jn jc _ HJN.out (by have := HF.out.len; have := HJN.out; omega) hS.rg).mono ?_
        rintro e' wY ⟨ka,kc,rfl,own,hbX⟩
        have hkf : ∀ (k : Nat) (r : R2),J.sh[k]? = some r → ∃ q o,ka = some ⟨q,o,none⟩ ∧ wX.heap.size ≤ q := by
          intro k r hr
          rcases own.2 with ⟨h1,h2⟩ | ⟨g,cap,cur,h1,h2,_⟩
          · have h3 := HJN.out
            have h4 := (List.getElem?_eq_some_iff.1 hr).1
            omega
          · cases h1
            exact ⟨g,0,rfl,h2⟩
        obtain ⟨_,_,e3,-,hkr⟩ := Rg.of_own own
        cases e3
        have hS_ := hS.next hbX
        have hA_ := pB.below hbX pB.lt
        clear pB
        have pB := hA_
        clear hA_
        have pD : Cp wY J ka g11 := fun k r hr => by
          obtain ⟨q,o,h1,h2⟩ := hkf k r hr
          exact ⟨q,o,h1,by have := hLT11; omega⟩
        clear hLT11
        clear hS hbX own hkf
        have hS := hS_
        clear hS_
        go_wp2_with fail
        refine hK.out _ _ hS (fun _ => ?_)
        clear hK K
        (try simp only [Act.put,aT,aZ,aS])
        refine wpAnyH_ready (rs := [5]) (by kernel_rfl) (by simp) ?_
        refine AllReadyH.cons rfl (fun K hK => ?_) ?_
        · have hS_ := hS.next ((Below.refl _ _).alloc (Nat.le_refl wY.heap.size) (.cells #[.int .i64 0,.int .i64 0,.int .i64 0] 57))
          have pA : Bk (wY.alloc (.cells #[.int .i64 0,.int .i64 0,.int .i64 0] 57)) wY.heap.size 57 #[.int .i64 0,.int .i64 0,.int .i64 0] := Bk.new _ _ _
          have pE := hS.own
          have pC : Cp wY J ka wY.heap.size := fun k r hr => by
            obtain ⟨q,o,h1,h2,_⟩ := hkr k r hr
            exact ⟨q,o,h1,by omega⟩
          have hnn : g11 ≠ wY.heap.size := by have := pB.lt; omega
          have hA_ := pB.alloc (.cells #[.int .i64 0,.int .i64 0,.int .i64 0] 57)
          clear pB
          have pB := hA_
          clear hA_
          have hkr_ := hkr.up ((Below.refl _ _).alloc (Nat.le_refl _) (.cells #[.int .i64 0,.int .i64 0,.int .i64 0] 57))
          clear hkr
          have hkr := hkr_
          clear hkr_
          go_simp
          show K _ (wY.alloc (.cells #[.int .i64 0,.int .i64 0,.int .i64 0] 57))
          refine hK.out _ _ hS_ (fun _ => ?_)
          clear hS
          have hS := hS_
          clear hS_
          have pC_ : ∀ (k : Nat) (r : R2),J.sh[k]? = some r → ∃ q o,ka = some ⟨q,o,none⟩ ∧ q ≠ wY.heap.size := pC
          clear pC
          have pC := pC_
          clear pC_
          generalize wY.heap.size = g10 at pA pE pC hnn ⊢
          generalize (wY.alloc (.cells #[.int .i64 0,.int .i64 0,.int .i64 0] 57)) = wA10 at hS pA pB hkr ⊢
          clear hK K
          (try simp only [Act.put,aT,aZ,aS])
          refine wpAnyH_ready (rs := [7]) (by kernel_rfl) (by simp) ?_
          refine AllReadyH.cons rfl (fun K hK => ?_) ?_
          · have HNE := hidMk (show g10 ≠ g11 from by first | exact hnn | exact hnn.symm)
            refine wp_store_mid 57 (.tmp 10) (.tmp 72) rfl g10 0 #[.int .i64 x.p,.int .i64 x.t,.int .i64 x.r] rfl rfl (there_bk pA 3 (by decide)) szFd (oneFd x) ?_
            have hS_ := hS.cells pE 0 #[.int .i64 x.p,.int .i64 x.t,.int .i64 x.r].toList
            have pA_ : Bk (wA10.setCells g10 0 #[.int .i64 x.p,.int .i64 x.t,.int .i64 x.r].toList) g10 57 #[.int .i64 x.p,.int .i64 x.t,.int .i64 x.r] := setFd pA x
            have pB_ := bk_cells pB HNE.out.symm 0 #[.int .i64 x.p,.int .i64 x.t,.int .i64 x.r].toList
            have hkr_ := rg_cells hkr pC 0 #[.int .i64 x.p,.int .i64 x.t,.int .i64 x.r].toList
            refine hK.out _ _ hS_ (fun _ => ?_)
            clear hS pA pB hkr
            have hS := hS_
            have pA := pA_
            have pB : Bk _ g11 30 (jobC ⟨0,0,0,0,0,0,0,0,0,0,0,0,0,0,0,0,0,[]⟩ (.slice none 0 0)) := pB_
            have hkr := hkr_
            clear hS_ pA_ pB_ hkr_
            generalize wA10.setCells g10 0 #[.int .i64 x.p,.int .i64 x.t,.int .i64 x.r].toList = wS at hS pA pB hkr ⊢
            clear hK K
            (try simp only [Act.put,aT,aZ,aS])
            refine wpAnyH_ready (rs := [8]) (by kernel_rfl) (by simp) ?_
            refine AllReadyH.cons rfl (fun K hK => ?_) ?_
            · refine wp_store_mid 30 (.tmp 11) (.tmp 74) rfl g11 0 (jobC J (.slice ka jn kc)) rfl rfl (there_bk pB 18 (by decide)) szJob (oneJob _ _ _ _) ?_
              have hS_ := hS.cells pF 0 (jobC J (.slice ka jn kc)).toList
              have pB_ : Bk (wS.setCells g11 0 (jobC J (.slice ka jn kc)).toList) g11 30 (jobC J (.slice ka jn kc)) := setJ pB
              have pA_ := bk_cells pA HNE.out 0 (jobC J (.slice ka jn kc)).toList
              have hkr_ := rg_cells hkr pD 0 (jobC J (.slice ka jn kc)).toList
              refine hK.out _ _ hS_ (fun _ => ?_)
              clear hK K
              (try simp only [Act.put,aT,aZ,aS])
              refine wpAnyH_done (by kernel_rfl) ?_ _
              exact ⟨rfl,_,_,_,_,_,g10,g11,x,ka,kc,rfl,hx,hS_,pA_,pB_,hkr_,pE,pF,HNE.out,fun k r hr => pC k r hr,fun k r hr => pD k r hr⟩
            exact AllReadyH.nil
          exact AllReadyH.nil
        exact AllReadyH.nil
      refine AllReadyH.cons rfl (fun K hK => ?_) ?_
      · have hS_ := hS.next ((Below.refl _ _).alloc (Nat.le_refl wX.heap.size) (.cells #[.int .i64 0,.int .i64 0,.int .i64 0] 57))
        have pA : Bk (wX.alloc (.cells #[.int .i64 0,.int .i64 0,.int .i64 0] 57)) wX.heap.size 57 #[.int .i64 0,.int .i64 0,.int .i64 0] := Bk.new _ _ _
        have pE := hS.own
        have hnn : g11 ≠ wX.heap.size := by have := pB.lt; omega
        have hA_ := pB.alloc (.cells #[.int .i64 0,.int .i64 0,.int .i64 0] 57)
        clear pB
        have pB := hA_
        clear hA_
        go_simp
        show K _ (wX.alloc (.cells #[.int .i64 0,.int .i64 0,.int .i64 0] 57))
        refine hK.out _ _ hS_ (fun _ => ?_)
        clear hS
        have hS := hS_
        clear hS_
        generalize wX.heap.size = g10 at pA pE hnn ⊢
        generalize (wX.alloc (.cells #[.int .i64 0,.int .i64 0,.int .i64 0] 57)) = wA10 at hS pA pB ⊢
        clear hK K
        (try simp only [Act.put,aT,aZ,aS])
        refine wpAnyH_ready (rs := [4]) (by kernel_rfl) (by simp) ?_
        refine AllReadyH.cons rfl (fun K hK => ?_) ?_
        · go_simp
          go_at_call 11
          have hLT10 := pA.lt
          have hLT11 := pB.lt
          refine (copyJob_any J ja jn jc _ HJN.out (by have := HF.out.len; have := HJN.out; omega) hS.rg).mono ?_
          rintro e' wY ⟨ka,kc,rfl,own,hbX⟩
          have hkf : ∀ (k : Nat) (r : R2),J.sh[k]? = some r → ∃ q o,ka = some ⟨q,o,none⟩ ∧ wA10.heap.size ≤ q := by
            intro k r hr
            rcases own.2 with ⟨h1,h2⟩ | ⟨g,cap,cur,h1,h2,_⟩
            · have h3 := HJN.out
              have h4 := (List.getElem?_eq_some_iff.1 hr).1
              omega
            · cases h1
              exact ⟨g,0,rfl,h2⟩
          obtain ⟨_,_,e3,-,hkr⟩ := Rg.of_own own
          cases e3
          have hS_ := hS.next hbX
          have hA_ := pA.below hbX pA.lt
          clear pA
          have pA := hA_
          clear hA_
          have hA_ := pB.below hbX pB.lt
          clear pB
          have pB := hA_
          clear hA_
          have pC : Cp wY J ka g10 := fun k r hr => by
            obtain ⟨q,o,h1,h2⟩ := hkf k r hr
            exact ⟨q,o,h1,by have := hLT10; omega⟩
          have pD : Cp wY J ka g11 := fun k r hr => by
            obtain ⟨q,o,h1,h2⟩ := hkf k r hr
            exact ⟨q,o,h1,by have := hLT11; omega⟩
          clear hLT10
          clear hLT11
          clear hS hbX own hkf
          have hS := hS_
          clear hS_
          go_wp2_with fail
          refine hK.out _ _ hS (fun _ => ?_)
          clear hK K
          (try simp only [Act.put,aT,aZ,aS])
          refine wpAnyH_ready (rs := [7]) (by kernel_rfl) (by simp) ?_
          refine AllReadyH.cons rfl (fun K hK => ?_) ?_
          · have HNE := hidMk (show g10 ≠ g11 from by first | exact hnn | exact hnn.symm)
            refine wp_store_mid 57 (.tmp 10) (.tmp 72) rfl g10 0 #[.int .i64 x.p,.int .i64 x.t,.int .i64 x.r] rfl rfl (there_bk pA 3 (by decide)) szFd (oneFd x) ?_
            have hS_ := hS.cells pE 0 #[.int .i64 x.p,.int .i64 x.t,.int .i64 x.r].toList
            have pA_ : Bk (wY.setCells g10 0 #[.int .i64 x.p,.int .i64 x.t,.int .i64 x.r].toList) g10 57 #[.int .i64 x.p,.int .i64 x.t,.int .i64 x.r] := setFd pA x
            have pB_ := bk_cells pB HNE.out.symm 0 #[.int .i64 x.p,.int .i64 x.t,.int .i64 x.r].toList
            have hkr_ := rg_cells hkr pC 0 #[.int .i64 x.p,.int .i64 x.t,.int .i64 x.r].toList
            refine hK.out _ _ hS_ (fun _ => ?_)
            clear hS pA pB hkr
            have hS := hS_
            have pA := pA_
            have pB : Bk _ g11 30 (jobC ⟨0,0,0,0,0,0,0,0,0,0,0,0,0,0,0,0,0,[]⟩ (.slice none 0 0)) := pB_
            have hkr := hkr_
            clear hS_ pA_ pB_ hkr_
            generalize wY.setCells g10 0 #[.int .i64 x.p,.int .i64 x.t,.int .i64 x.r].toList = wS at hS pA pB hkr ⊢
            clear hK K
            (try simp only [Act.put,aT,aZ,aS])
            refine wpAnyH_ready (rs := [8]) (by kernel_rfl) (by simp) ?_
            refine AllReadyH.cons rfl (fun K hK => ?_) ?_
            · refine wp_store_mid 30 (.tmp 11) (.tmp 74) rfl g11 0 (jobC J (.slice ka jn kc)) rfl rfl (there_bk pB 18 (by decide)) szJob (oneJob _ _ _ _) ?_
              have hS_ := hS.cells pF 0 (jobC J (.slice ka jn kc)).toList
              have pB_ : Bk (wS.setCells g11 0 (jobC J (.slice ka jn kc)).toList) g11 30 (jobC J (.slice ka jn kc)) := setJ pB
              have pA_ := bk_cells pA HNE.out 0 (jobC J (.slice ka jn kc)).toList
              have hkr_ := rg_cells hkr pD 0 (jobC J (.slice ka jn kc)).toList
              refine hK.out _ _ hS_ (fun _ => ?_)
              clear hK K
              (try simp only [Act.put,aT,aZ,aS])
              refine wpAnyH_done (by kernel_rfl) ?_ _
              exact ⟨rfl,_,_,_,_,_,g10,g11,x,ka,kc,rfl,hx,hS_,pA_,pB_,hkr_,pE,pF,HNE.out,fun k r hr => pC k r hr,fun k r hr => pD k r hr⟩
            exact AllReadyH.nil
          exact AllReadyH.nil
        exact AllReadyH.nil
      exact AllReadyH.nil
    refine AllReadyH.cons rfl (fun K hK => ?_) ?_
    · have hS_ := hS.next ((Below.refl _ _).alloc (Nat.le_refl wA11.heap.size) (.cells #[.int .i64 0,.int .i64 0,.int .i64 0] 57))
      have pA : Bk (wA11.alloc (.cells #[.int .i64 0,.int .i64 0,.int .i64 0] 57)) wA11.heap.size 57 #[.int .i64 0,.int .i64 0,.int .i64 0] := Bk.new _ _ _
      have pE := hS.own
      have hnn : g11 ≠ wA11.heap.size := by have := pB.lt; omega
      have hA_ := pB.alloc (.cells #[.int .i64 0,.int .i64 0,.int .i64 0] 57)
      clear pB
      have pB := hA_
      clear hA_
      go_simp
      show K _ (wA11.alloc (.cells #[.int .i64 0,.int .i64 0,.int .i64 0] 57))
      refine hK.out _ _ hS_ (fun _ => ?_)
      clear hS
      have hS := hS_
      clear hS_
      generalize wA11.heap.size = g10 at pA pE hnn ⊢
      generalize (wA11.alloc (.cells #[.int .i64 0,.int .i64 0,.int .i64 0] 57)) = wA10 at hS pA pB ⊢
      clear hK K
      (try simp only [Act.put,aT,aZ,aS])
      refine wpAnyH_ready (rs := [2]) (by kernel_rfl) (by simp) ?_
      refine AllReadyH.cons rfl (fun K hK => ?_) ?_
      · go_simp
        go_at_call 34
        refine (filedOf_any b J (.slice ja jn jc) _ hS.pt (HIN.out.mono (by decide)) HF.out.p.2.1 HF.out.t.2.1 HF.out.r.2.1).mono ?_
        rintro e' wX ⟨x,rfl,hx,hk,hp⟩
        have hS_ := hS.pot hk hp
        have hA_ := pA.pb hk pA.lt pE.1
        clear pA
        have pA := hA_
        clear hA_
        have hA_ := pB.pb hk pB.lt pF.1
        clear pB
        have pB := hA_
        clear hA_
        clear hS hk hp
        have hS := hS_
        clear hS_
        go_wp2_with fail
        refine hK.out _ _ hS (fun _ => ?_)
        clear hK K
        (try simp only [Act.put,aT,aZ,aS])
        refine wpAnyH_ready (rs := [4]) (by kernel_rfl) (by simp) ?_
        refine AllReadyH.cons rfl (fun K hK => ?_) ?_
        · go_simp
          go_at_call 11
          have hLT10 := pA.lt
          have hLT11 := pB.lt
          refine (copyJob_any J ja jn jc _ HJN.out (by have := HF.out.len; have := HJN.out; omega) hS.rg).mono ?_
          rintro e' wY ⟨ka,kc,rfl,own,hbX⟩
          have hkf : ∀ (k : Nat) (r : R2),J.sh[k]? = some r → ∃ q o,ka = some ⟨q,o,none⟩ ∧ wX.heap.size ≤ q := by
            intro k r hr
            rcases own.2 with ⟨h1,h2⟩ | ⟨g,cap,cur,h1,h2,_⟩
            · have h3 := HJN.out
              have h4 := (List.getElem?_eq_some_iff.1 hr).1
              omega
            · cases h1
              exact ⟨g,0,rfl,h2⟩
          obtain ⟨_,_,e3,-,hkr⟩ := Rg.of_own own
          cases e3
          have hS_ := hS.next hbX
          have hA_ := pA.below hbX pA.lt
          clear pA
          have pA := hA_
          clear hA_
          have hA_ := pB.below hbX pB.lt
          clear pB
          have pB := hA_
          clear hA_
          have pC : Cp wY J ka g10 := fun k r hr => by
            obtain ⟨q,o,h1,h2⟩ := hkf k r hr
            exact ⟨q,o,h1,by have := hLT10; omega⟩
          have pD : Cp wY J ka g11 := fun k r hr => by
            obtain ⟨q,o,h1,h2⟩ := hkf k r hr
            exact ⟨q,o,h1,by have := hLT11; omega⟩
          clear hLT10
          clear hLT11
          clear hS hbX own hkf
          have hS := hS_
          clear hS_
          go_wp2_with fail
          refine hK.out _ _ hS (fun _ => ?_)
          clear hK K
          (try simp only [Act.put,aT,aZ,aS])
          refine wpAnyH_ready (rs := [7]) (by kernel_rfl) (by simp) ?_
          refine AllReadyH.cons rfl (fun K hK => ?_) ?_
          · have HNE := hidMk (show g10 ≠ g11 from by first | exact hnn | exact hnn.symm)
            refine wp_store_mid 57 (.tmp 10) (.tmp 72) rfl g10 0 #[.int .i64 x.p,.int .i64 x.t,.int .i64 x.r] rfl rfl (there_bk pA 3 (by decide)) szFd (oneFd x) ?_
            have hS_ := hS.cells pE 0 #[.int .i64 x.p,.int .i64 x.t,.int .i64 x.r].toList
            have pA_ : Bk (wY.setCells g10 0 #[.int .i64 x.p,.int .i64 x.t,.int .i64 x.r].toList) g10 57 #[.int .i64 x.p,.int .i64 x.t,.int .i64 x.r] := setFd pA x
            have pB_ := bk_cells pB HNE.out.symm 0 #[.int .i64 x.p,.int .i64 x.t,.int .i64 x.r].toList
            have hkr_ := rg_cells hkr pC 0 #[.int .i64 x.p,.int .i64 x.t,.int .i64 x.r].toList
            refine hK.out _ _ hS_ (fun _ => ?_)
            clear hS pA pB hkr
            have hS := hS_
            have pA := pA_
            have pB : Bk _ g11 30 (jobC ⟨0,0,0,0,0,0,0,0,0,0,0,0,0,0,0,0,0,[]⟩ (.slice none 0 0)) := pB_
            have hkr := hkr_
            clear hS_ pA_ pB_ hkr_
            generalize wY.setCells g10 0 #[.int .i64 x.p,.int .i64 x.t,.int .i64 x.r].toList = wS at hS pA pB hkr ⊢
            clear hK K
            (try simp only [Act.put,aT,aZ,aS])
            refine wpAnyH_ready (rs := [8]) (by kernel_rfl) (by simp) ?_
            refine AllReadyH.cons rfl (fun K hK => ?_) ?_
            · refine wp_store_mid 30 (.tmp 11) (.tmp 74) rfl g11 0 (jobC J (.slice ka jn kc)) rfl rfl (there_bk pB 18 (by decide)) szJob (oneJob _ _ _ _) ?_
              have hS_ := hS.cells pF 0 (jobC J (.slice ka jn kc)).toList
              have pB_ : Bk (wS.setCells g11 0 (jobC J (.slice ka jn kc)).toList) g11 30 (jobC J (.slice ka jn kc)) := setJ pB
              have pA_ := bk_cells pA HNE.out 0 (jobC J (.slice ka jn kc)).toList
              have hkr_ := rg_cells hkr pD 0 (jobC J (.slice ka jn kc)).toList
              refine hK.out _ _ hS_ (fun _ => ?_)
              clear hK K
              (try simp only [Act.put,aT,aZ,aS])
              refine wpAnyH_done (by kernel_rfl) ?_ _
              exact ⟨rfl,_,_,_,_,_,g10,g11,x,ka,kc,rfl,hx,hS_,pA_,pB_,hkr_,pE,pF,HNE.out,fun k r hr => pC k r hr,fun k r hr => pD k r hr⟩
            exact AllReadyH.nil
          exact AllReadyH.nil
        exact AllReadyH.nil
      exact AllReadyH.nil
    exact AllReadyH.nil
  exact AllReadyH.nil
end Go.Proofs.Ytadmcafbffjjbaa
