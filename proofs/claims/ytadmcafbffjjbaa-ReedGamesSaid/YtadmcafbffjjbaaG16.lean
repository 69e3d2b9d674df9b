/- Part 16 of the proof: GgB. -/
import Derived.LoopN
import Derived.Test.YtadmcafbffjjbaaG15
import Derived.Test.YtadmcafbffjjbaaG01
/- The law ReedGames. -/
namespace Go.Proofs.Ytadmcafbffjjbaa
set_option linter.all false
open Go.RowKit
set_option maxHeartbeats 4000000 in
set_option maxRecDepth 1000000 in
theorem ggpart5 {w0 w : World} {u0 u1 u2 u3 u4 u5 u6 u7 u8 u9 A0 A1 A2 A3 A4 A5 A6 A7 A8 A9 Aa Ab Ac Ad Ae Af Ag Ah Ai Aj Ak Al Am An Ao Ap Aq Ar As At Au Av Aw Ax Ay Az C0 C1 C2 C3 C4 C5 C6 C7 C8 C9 Ca Cb Cc Cd Ce Cf Cg Ch Ci Cj Ck Cl Cm Cn Co Cp Cq Cr Cs Ct Cu Cv Cw Cx Cy Cz D0 D1 D2 D3 D4 D5 D6 D7 D8 D9 Da Db Dc Dd De Df Dg Dh Di Dj : Value} (htun : TunOK) (hb0 : Below w0.heap.size w0 w) : Code.wp Try.prog ggrest5 (QGG w0) ⟨#[u0,u1,u2,u3,u4,u5,u6,u7,u8,u9,A0,A1,A2,A3,A4,A5,A6,A7,A8,A9,Aa,Ab,Ac,Ad,Ae,Af,Ag,Ah,Ai,Aj,Ak,Al,Am,An,Ao,Ap,Aq,Ar,As,At,Au,Av,Aw,Ax,Ay,Az,C0,C1,C2,C3,C4,C5,C6,C7,C8,C9,Ca,Cb,Cc,Cd,Ce,Cf,Cg,Ch,Ci,Cj,Ck,Cl,Cm,Cn,Co,Cp,Cq,Cr,Cs,Ct,Cu,Cv,Cw,Cx,Cy,Cz,D0,D1,D2,D3,D4,D5,D6,D7,D8,D9,Da,Db,Dc,Dd,De,Df,Dg,Dh,Di,Dj],[]⟩ w := by
  rw [ggrest5_eq]
  have HT := hidMk htun
  unfold QGG
  go_wp2_with (go_at_call 8; refine (HT.out _).mono ?_; rintro e w2 ⟨rfl,hb⟩)
  go_ret
  exact ⟨rfl,hb0.trans (hb.mono hb0.size)⟩
set_option maxHeartbeats 4000000 in
set_option maxRecDepth 1000000 in
theorem ggpart4 {w0 w1 : World} {g : Nat} {es : List Ent} {u0 u1 u2 u3 u4 u5 u7 u8 u9 A0 A1 A2 A3 A4 A5 A6 A7 A8 A9 Aa Ab Ac Ad Ae Af Ag Ah Ai Aj Ak Al Am An Ao Ap Aq Ar As At Au Av Aw Ax Ay Az C0 C1 C2 C3 C4 C5 C6 C7 C8 C9 Ca Cb Cc Cd Ce Cf Cg Ch Ci Cj Ck Cl Cm Cn Co Cp Cq Cr Cs Ct Cu Cv Cw Cx Cy Cz D0 D1 D2 D3 D4 D5 D6 D7 D8 D9 Da Db Dc Dd De Df Dg Dh Di Dj : Value} (htun : TunOK) (hs : SL w0 w1 g es) : Code.wp Try.prog ggrest4 (QGG w0) ⟨#[u0,u1,u2,u3,u4,u5,(.slice (some ⟨g,0,none⟩) 3 3),u7,u8,u9,A0,A1,A2,A3,A4,A5,A6,A7,A8,A9,Aa,Ab,Ac,Ad,Ae,Af,Ag,Ah,Ai,Aj,Ak,Al,Am,An,Ao,Ap,Aq,Ar,As,At,Au,Av,Aw,Ax,Ay,Az,C0,C1,C2,C3,C4,C5,C6,C7,C8,C9,Ca,Cb,Cc,Cd,Ce,Cf,Cg,Ch,Ci,Cj,Ck,Cl,Cm,Cn,Co,Cp,Cq,Cr,Cs,Ct,Cu,Cv,Cw,Cx,Cy,Cz,D0,D1,D2,D3,D4,D5,D6,D7,D8,D9,Da,Db,Dc,Dd,De,Df,Dg,Dh,Di,Dj],[]⟩ w1 := by
  have HT := hidMk htun
  have HS := hidMk hs
  clear htun hs
  rw [ggrest4_cut]
  refine wp_seq_k fun K0 hK0 => ?_
  go_wp2_with fail
  refine wp_loop_rounds 4 ?_
  have HB := hidMk (Below.refl w1.heap.size w1)
  obtain ⟨e0,he0⟩ : ∃ e,es[0]? = some e := ⟨es[0]'(by rw [HS.out.len]; decide),List.getElem?_eq_getElem _⟩
  have HE0 := hidMk he0
  clear he0
  obtain ⟨e1,he1⟩ : ∃ e,es[1]? = some e := ⟨es[1]'(by rw [HS.out.len]; decide),List.getElem?_eq_getElem _⟩
  have HE1 := hidMk he1
  clear he1
  obtain ⟨e2,he2⟩ : ∃ e,es[2]? = some e := ⟨es[2]'(by rw [HS.out.len]; decide),List.getElem?_eq_getElem _⟩
  have HE2 := hidMk he2
  clear he2
  rw [rounds_succ]
  go_wp2_with fail
  refine lbp0 (k := 0) HS.out HE0.out (by decide) ?_ HB.out
  clear HB
  unfold LQ
  intros
  rename_i hB'
  have HB := hidMk hB'
  clear hB'
  go_wp2_with fail
  rw [rounds_succ]
  go_wp2_with fail
  refine lbp0 (k := 1) HS.out HE1.out (by decide) ?_ HB.out
  clear HB
  unfold LQ
  intros
  rename_i hB'
  have HB := hidMk hB'
  clear hB'
  go_wp2_with fail
  rw [rounds_succ]
  go_wp2_with fail
  refine lbp0 (k := 2) HS.out HE2.out (by decide) ?_ HB.out
  clear HB
  unfold LQ
  intros
  rename_i hB'
  have HB := hidMk hB'
  clear hB'
  go_wp2_with fail
  rw [rounds_succ]
  go_wp2_with fail
  exact ggpart5 HT.out (HS.out.b0.trans (HB.out.mono HS.out.b0.size))
set_option maxHeartbeats 4000000 in
set_option maxRecDepth 1000000 in
theorem ggpart3 {w0 w : World} {g2 b : Nat} {J : Jb} {a : Option Addr} {n c : Nat} {u0 u1 u3 u4 u6 u7 u8 u9 A0 A1 A2 A3 A4 A5 A6 A7 A8 A9 Aa Ab Ac Ad Ae Af Ag Ah Ai Aj Ak Al Am An Ao Ap Aq Ar As At Au Av Aw Ax Ay Az C0 C1 C2 C3 C4 C5 C6 C7 C8 C9 Ca Cb Cc Cd Ce Cf Cg Ch Ci Cj Ck Cl Cm Cn Co Cp Cq Cr Cs Ct Cu Cv Cw Cx Cy Cz D0 D1 D2 D3 D4 D5 D6 D7 D8 D9 Da Db Dc Dd De Df Dg Dh Di Dj : Value} (htun : TunOK) (hj1 : JobOKn 3 1) (hj2 : JobOKn 4 2) (hs : T3 w0 w g2 b J a n c) (hen : n = J.sh.length) (hn20 : n ≤ 20) : Code.wp Try.prog ggrest3 (QGG w0) ⟨#[u0,u1,(.pointer (some ⟨g2,0,none⟩)),u3,u4,(.pointer (some ⟨b,0,none⟩)),u6,u7,u8,u9,A0,A1,A2,A3,A4,A5,A6,A7,A8,A9,Aa,Ab,Ac,Ad,Ae,Af,Ag,Ah,Ai,Aj,Ak,Al,Am,An,Ao,Ap,Aq,Ar,As,At,Au,Av,Aw,Ax,Ay,Az,C0,C1,C2,C3,C4,C5,C6,C7,C8,C9,Ca,Cb,Cc,Cd,Ce,Cf,Cg,Ch,Ci,Cj,Ck,Cl,Cm,Cn,Co,Cp,Cq,Cr,Cs,Ct,Cu,Cv,Cw,Cx,Cy,Cz,D0,D1,D2,D3,D4,D5,D6,D7,D8,D9,Da,Db,Dc,Dd,De,Df,Dg,Dh,Di,Dj],[]⟩ w := by
  rw [ggrest3_eq]
  have HT := hidMk htun
  have HJ1 := hidMk hj1
  have HJ2 := hidMk hj2
  have HEN := hidMk hen
  clear htun hj1 hj2 hen
  refine wp_seq_k fun K0 hKK => ?_
  refine region_via (R := fun a_ e a' w' => e = .normal ∧ ∃ (v24 v25 v26 v27 v28 v29 : Value) (g : Nat) (M : Jb) (ma : Option Addr) (mn mc : Nat) (O : Jb) (pa : Option Addr) (pn pc : Nat),a' = (((((((a_.put (some 24) v24).put (some 25) v25).put (some 26) v26).put (some 27) v27).put (some 28) v28).put (some 29) v29).put (some 6) (.slice (some ⟨g,0,none⟩) 3 3)) ∧ Below w0.heap.size w0 w' ∧ Bk w' g 30 (([⟨J,a,n,c⟩,⟨M,ma,mn,mc⟩,⟨O,pa,pn,pc⟩] : List Ent).flatMap fun e => e.V.toList).toArray ∧ (Rg w' w'.heap.size a J.sh ∧ Rg w' w'.heap.size ma M.sh ∧ Rg w' w'.heap.size pa O.sh) ∧ (mn = M.sh.length ∧ pn = O.sh.length) ∧ M.check = 0 ∧ O.check = 0) ?_ ?_
  rotate_left
  · rintro e a' w' ⟨rfl,v24,v25,v26,v27,v28,v29,g,M,ma,mn,mc,O,pa,pn,pc,rfl,hb,hA,⟨r1,r2,r3⟩,⟨n2,n3⟩,c2,c3⟩
    refine hKK _ _ ?_
    simp only [Act.put,aT,aZ,aS]
    refine ggpart4 (es := [⟨J,a,n,c⟩,⟨M,ma,mn,mc⟩,⟨O,pa,pn,pc⟩]) HT.out ⟨hb,hA,rfl,?_⟩
    have m2 : mn ≤ 30 := by have := (check_ok c2).inn.len; omega
    have m3 : pn ≤ 30 := by have := (check_ok c3).inn.len; omega
    have m1 : n ≤ 30 := by omega
    intro e he
    simp only [List.mem_cons,List.not_mem_nil,or_false] at he
    rcases he with rfl | rfl | rfl
    · exact ⟨r1,HEN.out,m1⟩
    · exact ⟨r2,n2,m2⟩
    · exact ⟨r3,n3,m3⟩
  have hS : T3 w0 w.drew g2 b J a n c := hs.next (Below.refl _ _).drew
  clear hs
  refine wp_region_held_drew (S := fun w' => T3 w0 w' g2 b J a n c) (by kernel_rfl) hS (fun hS0 => ?_)
  generalize hWd : w.drew = wd at hS0 hS ⊢
  clear hWd
  refine wpAnyH_take (i := 0) (oi := ⟨some 24,.load 30 (.tmp 2),30,"law.go:100",#[],none⟩) rfl (by kernel_rfl) (by kernel_rfl) (by kernel_rfl) (fun _ _ _ h => by cases h.1) (yields_row (by rfl) 30 _ rfl g2 (jobC J (.slice a n c)) rfl 30 (fun w' hw => hw.job) Try.underlying30 szJob) (by assumption) ?_
  (try simp only [Act.put,aT,aZ,aS])
  refine wpAnyH_take (i := 1) (oi := ⟨some 25,.move (.tmp 5),34,"law.go:100",#[],none⟩) (v := ?_) rfl (by kernel_rfl) (by kernel_rfl) (by kernel_rfl) (fun _ _ _ h => by cases h.1) (.inl ⟨by rfl,?_⟩) (by assumption) ?_
  rotate_left
  · (intro w' hSw; (try dsimp only at hSw); skip; go_simp <;> with_reducible rfl)
  (try simp only [Act.put,aT,aZ,aS])
  refine wpAnyH_take (i := 3) (oi := ⟨some 27,.move (.tmp 5),34,"law.go:100",#[],none⟩) (v := ?_) rfl (by kernel_rfl) (by kernel_rfl) (by kernel_rfl) (fun _ _ _ h => by cases h.1) (.inl ⟨by rfl,?_⟩) (by assumption) ?_
  rotate_left
  · (intro w' hSw; (try dsimp only at hSw); skip; go_simp <;> with_reducible rfl)
  (try simp only [Act.put,aT,aZ,aS])
  refine wpAnyH_ready (rs := [2]) (by kernel_rfl) (by simp) ?_
  refine AllReadyH.cons (o := ⟨some 26,.call { callee := .value (.func 10),args := #[.tmp 25,.const (.int .i64 3),.const (.int .i64 1)],argTypes := #[34,3,3] },30,"law.go:100",#[⟨1,.data⟩],none⟩) rfl (fun K hK => ?_) ?_
  · go_simp
    go_at_call 10
    refine (HJ1.out b _ hS.pt).mono ?_
    rintro e wA ⟨M,ma,mn,mc,rfl,hnA,hgA,hcA,hk,hp⟩
    have hS_ := hS.pot hk hp
    clear hS hk hp
    have hS := hS_
    clear hS_
    have HNA := hidMk hnA
    clear hnA
    go_wp2_with fail
    refine hK.out _ _ hS (fun _ => ?_)
    clear hK K
    (try simp only [Act.put,aT,aZ,aS])
    refine wpAnyH_ready (rs := [4]) (by kernel_rfl) (by simp) ?_
    refine AllReadyH.cons (o := ⟨some 28,.call { callee := .value (.func 10),args := #[.tmp 27,.const (.int .i64 4),.const (.int .i64 2)],argTypes := #[34,3,3] },30,"law.go:100",#[⟨3,.data⟩,⟨2,.chain⟩],none⟩) rfl (fun K hK => ?_) ?_
    · go_simp
      go_at_call 10
      refine (HJ2.out b _ hS.pt).mono ?_
      rintro e wB ⟨O,pa,pn,pc,rfl,hnB,hgB,hcB,hk,hp⟩
      have hgA_ := hgA.pb hS.pt hk
      clear hgA
      have hgA := hgA_
      clear hgA_
      have hS_ := hS.pot hk hp
      clear hS hk hp
      have hS := hS_
      clear hS_
      have HNB := hidMk hnB
      clear hnB
      go_wp2_with fail
      refine hK.out _ _ hS (fun _ => ?_)
      clear hK K
      (try simp only [Act.put,aT,aZ,aS])
      refine wpAnyH_ready (rs := [5]) (by kernel_rfl) (by simp) ?_
      refine AllReadyH.cons (o := ⟨some 29,.buildSlice 37 3 #[(0,.tmp 24),(1,.tmp 26),(2,.tmp 28)],37,"law.go:100",#[⟨0,.data⟩,⟨2,.data⟩,⟨4,.data⟩],none⟩) rfl (fun K hK => ?_) ?_
      · have hA : Bk (wB.alloc (.cells (([⟨J,a,n,c⟩,⟨M,ma,mn,mc⟩,⟨O,pa,pn,pc⟩] : List Ent).flatMap fun e => e.V.toList).toArray 30)) wB.heap.size 30 (([⟨J,a,n,c⟩,⟨M,ma,mn,mc⟩,⟨O,pa,pn,pc⟩] : List Ent).flatMap fun e => e.V.toList).toArray := Bk.new _ _ _
        have al_ : Below wB.heap.size wB (wB.alloc (.cells (([⟨J,a,n,c⟩,⟨M,ma,mn,mc⟩,⟨O,pa,pn,pc⟩] : List Ent).flatMap fun e => e.V.toList).toArray 30)) := (Below.refl _ _).alloc (Nat.le_refl _) _
        have hS_ := hS.next al_
        have hg1_ := hgA.up al_
        have hg2_ := hgB.up al_
        go_simp
        show K _ (wB.alloc (.cells (([⟨J,a,n,c⟩,⟨M,ma,mn,mc⟩,⟨O,pa,pn,pc⟩] : List Ent).flatMap fun e => e.V.toList).toArray 30))
        refine hK.out _ _ hS_ (fun _ => ?_)
        clear hS hgA hgB al_
        generalize hW_ : (wB.alloc (.cells (([⟨J,a,n,c⟩,⟨M,ma,mn,mc⟩,⟨O,pa,pn,pc⟩] : List Ent).flatMap fun e => e.V.toList).toArray 30)) = wC at hA hS_ hg1_ hg2_ ⊢
        clear hW_
        have hS := hS_
        clear hS_
        clear hK K
        (try simp only [Act.put,aT,aZ,aS])
        refine wpAnyH_ready (rs := [6]) (by kernel_rfl) (by simp) ?_
        refine AllReadyH.cons (o := ⟨some 6,.assign (.tmp 29),37,"law.go:100",#[⟨5,.data⟩,⟨4,.chain⟩,⟨0,.phase⟩,⟨1,.phase⟩,⟨2,.phase⟩,⟨3,.phase⟩,⟨4,.phase⟩,⟨5,.phase⟩],none⟩) rfl (fun K hK => ?_) ?_
        · go_simp
          refine hK.out _ _ hS (fun _ => ?_)
          clear hK K
          (try simp only [Act.put,aT,aZ,aS])
          refine wpAnyH_done (by kernel_rfl) ?_ _
          exact ⟨rfl,_,_,_,_,_,_,_,M,ma,mn,mc,O,pa,pn,pc,rfl,hS.b0,hA,⟨hS.rg,hg1_,hg2_⟩,⟨HNA.out,HNB.out⟩,hcA,hcB⟩
        exact AllReadyH.nil
      exact AllReadyH.nil
    exact AllReadyH.nil
  exact AllReadyH.nil
set_option maxHeartbeats 4000000 in
set_option maxRecDepth 1000000 in
theorem ggpart2 {w0 : World} {J : Jb} {a : Option Addr} {n c : Nat} {na : Option Addr} {nn nc : Nat} {nl : List Int} {g2 : Nat} {w : World} {u0 u3 u4 u5 u6 u7 u8 u9 A0 A1 A2 A3 A4 A5 A6 A7 A8 A9 Aa Ab Ac Ad Ae Af Ag Ah Ai Aj Ak Al Am An Ao Ap Aq Ar As At Au Av Aw Ax Ay Az C0 C1 C2 C3 C4 C5 C6 C7 C8 C9 Ca Cb Cc Cd Ce Cf Cg Ch Ci Cj Ck Cl Cm Cn Co Cp Cq Cr Cs Ct Cu Cv Cw Cx Cy Cz D0 D1 D2 D3 D4 D5 D6 D7 D8 D9 Da Db Dc Dd De Df Dg Dh Di Dj : Value} (htun : TunOK) (hj1 : JobOKn 3 1) (hj2 : JobOKn 4 2) (hb0 : Below w0.heap.size w0 w) (hjob : Bk w g2 30 (jobC J (.slice a n c))) (hrg : Rg w w.heap.size a J.sh) (hen : n = J.sh.length) (hnm : n ≤ 9223372036854775807) (hnn : nn = nl.length ∧ nn ≤ 9223372036854775807) (hnl : Is w w.heap.size na nl) (hn20 : n ≤ 20) : Code.wp Try.prog ggrest2 (QGG w0) ⟨#[u0,(.slice na nn nc),(.pointer (some ⟨g2,0,none⟩)),u3,u4,u5,u6,u7,u8,u9,A0,A1,A2,A3,A4,A5,A6,A7,A8,A9,Aa,Ab,Ac,Ad,Ae,Af,Ag,Ah,Ai,Aj,Ak,Al,Am,An,Ao,Ap,Aq,Ar,As,At,Au,Av,Aw,Ax,Ay,Az,C0,C1,C2,C3,C4,C5,C6,C7,C8,C9,Ca,Cb,Cc,Cd,Ce,Cf,Cg,Ch,Ci,Cj,Ck,Cl,Cm,Cn,Co,Cp,Cq,Cr,Cs,Ct,Cu,Cv,Cw,Cx,Cy,Cz,D0,D1,D2,D3,D4,D5,D6,D7,D8,D9,Da,Db,Dc,Dd,De,Df,Dg,Dh,Di,Dj],[]⟩ w := by
  rw [ggrest2_eq]
  have HT := hidMk htun
  have HJ1 := hidMk hj1
  have HJ2 := hidMk hj2
  have HB0 := hidMk hb0
  have HJB := hidMk hjob
  have HRG := hidMk hrg
  have HEN := hidMk hen
  have HNN := hidMk hnn
  have HNL := hidMk hnl
  clear htun hj1 hj2 hb0 hjob hrg hen hnn hnl
  go_wp2_with fail
  refine (newPot_any na nn nc nl _ HNN.out.1 HNN.out.2 HNL.out).mono ?_
  rintro e w1 ⟨s,t,rfl,hb,hB1⟩
  have H3 : T3 w0 w1 g2 w.heap.size J a n c := ⟨HB0.out.trans (hB1.mono HB0.out.size),HB0.out.size,⟨_,_,hb⟩,HJB.out.below hB1 HJB.out.lt,HRG.out.up hB1⟩
  have HT3 := hidMk H3
  clear H3 hb hB1
  go_wp2_with fail
  exact ggpart3 HT.out HJ1.out HJ2.out HT3.out HEN.out hn20
set_option maxHeartbeats 4000000 in
set_option maxRecDepth 1000000 in
theorem ggpart1 {w0 : World} {J : Jb} {a : Option Addr} {n c : Nat} {na : Option Addr} {nn nc : Nat} {nl : List Int} {g2 : Nat} {w : World} {u0 u3 u4 u5 u6 u7 u8 u9 A0 A1 A2 A3 A4 A5 A6 A7 A8 A9 Aa Ab Ac Ad Ae Af Ag Ah Ai Aj Ak Al Am An Ao Ap Aq Ar As At Au Av Aw Ax Ay Az C0 C1 C2 C3 C4 C5 C6 C7 C8 C9 Ca Cb Cc Cd Ce Cf Cg Ch Ci Cj Ck Cl Cm Cn Co Cp Cq Cr Cs Ct Cu Cv Cw Cx Cy Cz D0 D1 D2 D3 D4 D5 D6 D7 D8 D9 Da Db Dc Dd De Df Dg Dh Di Dj : Value} (htun : TunOK) (hj1 : JobOKn 3 1) (hj2 : JobOKn 4 2) (hb0 : Below w0.heap.size w0 w) (hjob : Bk w g2 30 (jobC J (.slice a n c))) (hrg : Rg w w.heap.size a J.sh) (hen : n = J.sh.length) (hnm : n ≤ 9223372036854775807) (hnn : nn = nl.length ∧ nn ≤ 9223372036854775807) (hnl : Is w w.heap.size na nl) : Code.wp Try.prog ggrest1 (QGG w0) ⟨#[u0,(.slice na nn nc),(.pointer (some ⟨g2,0,none⟩)),u3,u4,u5,u6,u7,u8,u9,A0,A1,A2,A3,A4,A5,A6,A7,A8,A9,Aa,Ab,Ac,Ad,Ae,Af,Ag,Ah,Ai,Aj,Ak,Al,Am,An,Ao,Ap,Aq,Ar,As,At,Au,Av,Aw,Ax,Ay,Az,C0,C1,C2,C3,C4,C5,C6,C7,C8,C9,Ca,Cb,Cc,Cd,Ce,Cf,Cg,Ch,Ci,Cj,Ck,Cl,Cm,Cn,Co,Cp,Cq,Cr,Cs,Ct,Cu,Cv,Cw,Cx,Cy,Cz,D0,D1,D2,D3,D4,D5,D6,D7,D8,D9,Da,Db,Dc,Dd,De,Df,Dg,Dh,Di,Dj],[]⟩ w := by
  rw [ggrest1_eq]
  have HT := hidMk htun
  have HJ1 := hidMk hj1
  have HJ2 := hidMk hj2
  have HB0 := hidMk hb0
  have HJB := hidMk hjob
  have HRG := hidMk hrg
  have HEN := hidMk hen
  have HNN := hidMk hnn
  have HNL := hidMk hnl
  clear htun hj1 hj2 hb0 hjob hrg hen hnn hnl
  go_wp2_with (refine wpList_load_row rfl 30 _ rfl g2 rfl _ (jobC J (.slice a n c)) _ _ HJB.out Try.underlying30 rfl szJob ?_)
  refine (slow_any HEN.out hnm _ HRG.out).mono ?_
  rintro e w2 ⟨⟨bb,rfl,hb20⟩,hb⟩
  have HB2 := hidMk (HB0.out.trans (hb.mono HB0.out.size))
  have HJB2 := hidMk (HJB.out.below hb HJB.out.lt)
  have HRG2 := hidMk (HRG.out.up hb)
  have HNL2 := hidMk (HNL.out.up hb)
  have H20 := hidMk hb20
  clear hb hb20 HB0 HJB HRG HNL
  cases bb with
  | true =>
    unfold QGG
    go_wp2_with (go_at_call 8; refine (HT.out _).mono ?_; rintro e w3 ⟨rfl,hb⟩)
    go_ret
    exact ⟨rfl,HB2.out.trans (hb.mono HB2.out.size)⟩
  | false =>
    go_wp2_with fail
    exact ggpart2 HT.out HJ1.out HJ2.out HB2.out HJB2.out HRG2.out HEN.out hnm HNN.out HNL2.out (H20.out (by first | trivial | rfl))
set_option maxHeartbeats 1000000 in
set_option maxRecDepth 100000 in
theorem games_law_any (hj1 : JobOKn 3 1) (hj2 : JobOKn 4 2) (htun : TunOK) (J : Jb) (a : Option Addr) (n c : Nat) (na : Option Addr) (nn nc : Nat) (nl : List Int) (w : World)
    (hn : n = J.sh.length) (hm : n ≤ 9223372036854775807) (h : Rg w w.heap.size a J.sh) (hnn : nn = nl.length ∧ nn ≤ 9223372036854775807) (hnl : Is w w.heap.size na nl) :
    Calls Try.prog 3 #[.agg (jobC J (.slice a n c)),.slice na nn nc] w fun e w' => e = .returned (.bool true) ∧ Below w.heap.size w w' := by
  have hW : Below w.heap.size w (w.alloc (.cells (jobC J (.slice a n c)) 30)) := (Below.refl _ _).alloc (Nat.le_refl _) _
  have HW := hidMk hW
  have HRG := hidMk (h.up hW)
  have HNL := hidMk (hnl.up hW)
  have HJ1 := hidMk hj1
  have HJ2 := hidMk hj2
  have HT := hidMk htun
  have HN := hidMk hn
  have HNN := hidMk hnn
  clear hn h hnn hnl hW hj1 hj2 htun
  go_enter Try.func3,Try.ntmps3
  show Code.wp Try.prog ggbody (QGG w) _ _
  rw [ggbody_eq]
  go_wp2_with fail
  exact ggpart1 HT.out HJ1.out HJ2.out HW.out (Bk.new _ _ _) HRG.out HN.out hm HNN.out HNL.out
end Go.Proofs.Ytadmcafbffjjbaa
