/- Part 16 of the proof: BkH, BkG, BkL. -/
import Derived.LoopN
import Derived.Deep.MidRow
import Derived.Deep.WholeRow
import Derived.Test.YtadmcafbffjjbaaB15
import Derived.Test.YtadmcafbffjjbaaB01
import Derived.Test.YtadmcafbffjjbaaB12
import Derived.Test.YtadmcafbffjjbaaB13
/- The law ReedBlanks: its end. -/
namespace Go.Proofs.Ytadmcafbffjjbaa
set_option linter.all false
open Go.RowKit
theorem setCells_other (b : Nat) : ∀ (vs : List Value) (o : Nat) (w : World) (k : Nat),k ≠ b → (w.setCells b o vs).heap[k]? = w.heap[k]?
  | [],o,w,k,h => rfl
  | v :: r,o,w,k,h => by
    rw [World.setCells,setCells_other b r (o + 1) _ k h]
    exact Below.heap_setCell w ⟨b,o,none⟩ v k h
theorem setCells_size (b : Nat) : ∀ (vs : List Value) (o : Nat) (w : World),(w.setCells b o vs).heap.size = w.heap.size ∧ (w.setCells b o vs).os = w.os ∧ (w.setCells b o vs).tape = w.tape ∧ (w.setCells b o vs).output = w.output
  | [],o,w => ⟨rfl,rfl,rfl,rfl⟩
  | v :: r,o,w => by
    rw [World.setCells]
    obtain ⟨h1,h2,h3,h4⟩ := setCells_size b r (o + 1) (w.setCell ⟨b,o,none⟩ v)
    refine ⟨h1.trans ?_,h2.trans rfl,h3.trans rfl,h4.trans rfl⟩
    exact Nat.le_antisymm (by simp) (by simp)
theorem below_setCells {B g o : Nat} {a w : World} (h : Below B a w) (hg : B ≤ g) (vs : List Value) : Below B a (w.setCells g o vs) := by
  obtain ⟨h1,h2,h3,h4⟩ := setCells_size g vs o w
  exact ⟨h2.trans h.os,h3.trans h.tape,h4.trans h.output,by rw [h1]; exact h.size,fun k hk => (setCells_other g vs o w k (by omega)).trans (h.block k hk)⟩
theorem own_rows {w : World} {B g k cap : Nat} {es : List Ent} (h : w.ownsRow B 30 18 (.slice (some ⟨g,0,none⟩) k cap) k (flatE es)) (q : Nat) (e : Ent) (hk : es[q]? = some e) : w.rangeAt g (q * 18) e.V.toList := by
  intro j v hv
  rcases h.2 with ⟨h0,_⟩ | ⟨g',cap',cur,h0,hb,hg,hnc,hcm,hcs,htk⟩
  · cases h0
  · cases h0
    have hl := h.1
    rw [flatE_len] at hl
    have hkl := (List.getElem?_eq_some_iff.1 hk).1
    have hj := (List.getElem?_eq_some_iff.1 hv).1
    rw [Ent.V_len] at hj
    have h1 := flat_at (fun e : Ent => e.V.toList) Ent.V_len es q e hk j v hv
    rw [cell_of_row w g (q * 18 + j) cur 30 (0,0) hg,← Array.getElem?_toList]
    have h2 : (cur.toList.take (k * 18))[q * 18 + j]? = some v := by rw [htk]; exact h1
    rw [List.getElem?_take_of_lt (by omega)] at h2
    exact h2
theorem put_there {w wd : World} {B g k cap t : Nat} {es : List Ent} (h : w.ownsRow B 30 18 (.slice (some ⟨g,0,none⟩) k cap) k (flatE es)) (hbw : Below w.heap.size w wd) (ht : t < k) : wd.there g (t * 18) 18 := by
  rcases h.2 with ⟨h0,_⟩ | ⟨g',cap',cur,h0,hb,hg,hnc,hcm,hcs,htk⟩
  · cases h0
  · cases h0
    have hB : Bk wd g 30 cur := Bk.below (w := w) hg hbw (Array.getElem?_eq_some_iff.1 hg).1
    intro j hj
    have hlt : t * 18 + j < cur.size := by rw [hcs]; omega
    exact ⟨by rw [hB.at_ (t * 18 + j) cur[t * 18 + j] (Array.getElem?_eq_getElem hlt)]; rfl,hB.free _⟩
theorem put_rows {w wd : World} {B g k cap t : Nat} {es : List Ent} (h : w.ownsRow B 30 18 (.slice (some ⟨g,0,none⟩) k cap) k (flatE es)) (hg : g < w.heap.size) (hbw : Below w.heap.size w wd) (ht : t < k) (x : Ent) :
    ∀ q e,(es.set t x)[q]? = some e → (wd.setCells g (t * 18) x.V.toList).rangeAt g (q * 18) e.V.toList := by
  intro q e hq
  by_cases hqt : t = q
  · subst hqt
    have e2 : e = x := by
      rw [List.getElem?_set] at hq
      simp only [if_true] at hq
      split at hq
      · exact (Option.some.inj hq).symm
      · cases hq
    subst e2
    exact World.rangeAt_setCells_same _ _ _ _ (by rw [Ent.V_len]; exact put_there h hbw ht)
  · rw [List.getElem?_set_ne hqt] at hq
    have h1 := rangeAt_keep (w' := wd) (own_rows h q e hq) (fun p hp => hbw.cell (by rw [hp]; exact hg))
    exact World.rangeAt_setCells_apart h1 _ _ _ (.inr (by rw [Ent.V_len,Ent.V_len]; omega))
set_option maxHeartbeats 4000000 in
set_option maxRecDepth 1000000 in
theorem bkpart10 {w0 w : World} {u0 u1 u2 u3 u4 u5 u6 u7 u8 u9 A0 A1 A2 A3 A4 A5 A6 A7 A8 A9 Aa Ab Ac Ad Ae Af Ag Ah Ai Aj Ak Al Am An Ao Ap Aq Ar As At Au Av Aw Ax Ay Az C0 C1 C2 C3 C4 C5 C6 C7 C8 C9 Ca Cb Cc Cd Ce Cf Cg Ch Ci Cj Ck Cl Cm Cn Co Cp Cq Cr Cs Ct Cu Cv Cw Cx Cy Cz D0 D1 D2 D3 D4 D5 D6 D7 D8 D9 Da Db Dc Dd De Df Dg Dh Di Dj Dk Dl Dm Dn Do Dp Dq Dr Ds Dt Du Dv Dw Dx Dy Dz E0 E1 E2 E3 E4 E5 E6 E7 E8 E9 Ea Eb Ec Ed Ee Ef Eg Eh Ei Ej Ek El Em En Eo Ep Eq Er : Value} (htun : TunOK) (hb0 : Below w0.heap.size w0 w) : Code.wp Try.prog bkrest10 (QBK w0) ⟨#[u0,u1,u2,u3,u4,u5,u6,u7,u8,u9,A0,A1,A2,A3,A4,A5,A6,A7,A8,A9,Aa,Ab,Ac,Ad,Ae,Af,Ag,Ah,Ai,Aj,Ak,Al,Am,An,Ao,Ap,Aq,Ar,As,At,Au,Av,Aw,Ax,Ay,Az,C0,C1,C2,C3,C4,C5,C6,C7,C8,C9,Ca,Cb,Cc,Cd,Ce,Cf,Cg,Ch,Ci,Cj,Ck,Cl,Cm,Cn,Co,Cp,Cq,Cr,Cs,Ct,Cu,Cv,Cw,Cx,Cy,Cz,D0,D1,D2,D3,D4,D5,D6,D7,D8,D9,Da,Db,Dc,Dd,De,Df,Dg,Dh,Di,Dj,Dk,Dl,Dm,Dn,Do,Dp,Dq,Dr,Ds,Dt,Du,Dv,Dw,Dx,Dy,Dz,E0,E1,E2,E3,E4,E5,E6,E7,E8,E9,Ea,Eb,Ec,Ed,Ee,Ef,Eg,Eh,Ei,Ej,Ek,El,Em,En,Eo,Ep,Eq,Er],[]⟩ w := by
  rw [bkrest10_eq]
  have HT := hidMk htun
  unfold QBK
  go_wp2_with (go_at_call 8; refine (HT.out _).mono ?_; rintro e w2 ⟨rfl,hb⟩)
  go_ret
  exact ⟨rfl,hb0.trans (hb.mono hb0.size)⟩
set_option maxHeartbeats 4000000 in
set_option maxRecDepth 1000000 in
theorem bkpart9 {w0 w1 : World} {gl b : Nat} {Ls : List Ld} {u0 u1 u2 u3 u4 u5 u6 u7 u8 u9 A0 A1 A2 A3 A5 A6 A7 A8 A9 Aa Ab Ac Ad Ae Af Ag Ah Ai Aj Ak Al Am An Ao Ap Aq Ar As At Au Av Aw Ax Ay Az C0 C1 C2 C3 C4 C5 C6 C7 C8 C9 Ca Cb Cc Cd Ce Cf Cg Ch Ci Cj Ck Cl Cm Cn Co Cp Cq Cr Cs Ct Cu Cv Cw Cx Cy Cz D0 D1 D2 D3 D4 D5 D6 D7 D8 D9 Da Db Dc Dd De Df Dg Dh Di Dj Dk Dl Dm Dn Do Dp Dq Dr Ds Dt Du Dv Dw Dx Dy Dz E0 E1 E2 E3 E4 E5 E6 E7 E8 E9 Ea Eb Ec Ed Ee Ef Eg Eh Ei Ej Ek El Em En Eo Ep Eq Er : Value} (htun : TunOK) (hs : LS w0 w1 gl b Ls) : Code.wp Try.prog bkrest9 (QBK w0) ⟨#[u0,u1,u2,u3,u4,u5,u6,u7,u8,u9,A0,A1,A2,A3,(.slice (some ⟨gl,0,none⟩) 3 3),A5,A6,A7,A8,A9,Aa,Ab,Ac,Ad,Ae,Af,Ag,Ah,Ai,Aj,Ak,Al,Am,An,Ao,Ap,Aq,Ar,As,At,Au,Av,Aw,Ax,Ay,Az,C0,C1,C2,C3,C4,C5,C6,C7,C8,C9,Ca,Cb,Cc,Cd,Ce,Cf,Cg,Ch,Ci,Cj,Ck,Cl,Cm,Cn,Co,Cp,Cq,Cr,Cs,Ct,Cu,Cv,Cw,Cx,Cy,Cz,D0,D1,D2,D3,D4,D5,D6,D7,D8,D9,Da,Db,Dc,Dd,De,Df,Dg,Dh,Di,Dj,Dk,Dl,Dm,Dn,Do,Dp,Dq,Dr,Ds,Dt,Du,Dv,Dw,Dx,Dy,Dz,E0,E1,E2,E3,E4,E5,E6,E7,E8,E9,Ea,Eb,Ec,Ed,Ee,Ef,Eg,Eh,Ei,Ej,Ek,El,Em,En,Eo,Ep,Eq,Er],[]⟩ w1 := by
  have HT := hidMk htun
  have HS := hidMk hs
  clear htun hs
  rw [bkrest9_cut]
  refine wp_seq_k fun K0 hK0 => ?_
  go_wp2_with fail
  refine wp_loop_rounds 4 ?_
  have HB := hidMk (PB.refl b w1.heap.size w1)
  have HP := hidMk HS.out.pt
  obtain ⟨⟨a0,n0,c0,es0⟩,he0⟩ : ∃ e,Ls[0]? = some e := ⟨Ls[0]'(by rw [HS.out.len]; decide),List.getElem?_eq_getElem _⟩
  have HE0 := hidMk he0
  clear he0
  obtain ⟨⟨a1,n1,c1,es1⟩,he1⟩ : ∃ e,Ls[1]? = some e := ⟨Ls[1]'(by rw [HS.out.len]; decide),List.getElem?_eq_getElem _⟩
  have HE1 := hidMk he1
  clear he1
  obtain ⟨⟨a2,n2,c2,es2⟩,he2⟩ : ∃ e,Ls[2]? = some e := ⟨Ls[2]'(by rw [HS.out.len]; decide),List.getElem?_eq_getElem _⟩
  have HE2 := hidMk he2
  clear he2
  rw [rounds_succ]
  go_wp2_with fail
  refine kbp0 (kk := 0) HS.out HE0.out (by decide) ?_ HB.out HP.out
  clear HB HP
  unfold LQ
  intros
  rename_i hB' hP'
  have HB := hidMk hB'
  have HP := hidMk hP'
  clear hB' hP'
  go_wp2_with fail
  rw [rounds_succ]
  go_wp2_with fail
  refine kbp0 (kk := 1) HS.out HE1.out (by decide) ?_ HB.out HP.out
  clear HB HP
  unfold LQ
  intros
  rename_i hB' hP'
  have HB := hidMk hB'
  have HP := hidMk hP'
  clear hB' hP'
  go_wp2_with fail
  rw [rounds_succ]
  go_wp2_with fail
  refine kbp0 (kk := 2) HS.out HE2.out (by decide) ?_ HB.out HP.out
  clear HB HP
  unfold LQ
  intros
  rename_i hB' hP'
  have HB := hidMk hB'
  have HP := hidMk hP'
  clear hB' hP'
  go_wp2_with fail
  rw [rounds_succ]
  go_wp2_with fail
  exact bkpart10 HT.out (HS.out.b0.trans ((HB.out.mono HS.out.b0.size).toBelow HS.out.hb))
set_option maxHeartbeats 4000000 in
set_option maxRecDepth 1000000 in
theorem bkpart8 {w0 : World} {b : Nat} {ja : Option Addr} {jn jc : Nat} {es : List Ent} {ma : Option Addr} {k mc : Nat} {es1 : List Ent} {oa : Option Addr} {oc : Nat} {es2 : List Ent} {w : World} {u1 u2 u3 u4 u5 u6 u7 u8 u9 A0 A2 A4 A5 A6 A7 A8 A9 Aa Ab Ac Ad Ae Af Ag Ah Ai Aj Ak Al Am An Ao Ap Aq Ar As At Au Av Aw Ax Ay Az C0 C1 C2 C3 C4 C5 C6 C7 C8 C9 Ca Cb Cc Cd Ce Cf Cg Ch Ci Cj Ck Cl Cm Cn Co Cp Cq Cr Cs Ct Cu Cv Cw Cx Cy Cz D0 D1 D2 D3 D4 D5 D6 D7 D8 D9 Da Db Dc Dd De Df Dg Dh Di Dj Dk Dl Dm Dn Do Dp Dq Dr Ds Dt Du Dv Dw Dx Dy Dz E0 E1 E2 E3 E4 E5 E6 E7 E8 E9 Ea Eb Ec Ed Ee Ef Eg Eh Ei Ej Ek El Em En Eo Ep Eq Er : Value} (htun : TunOK) (hb0 : Below w0.heap.size w0 w) (hb : w0.heap.size ≤ b) (hp : Pt w b) (h1 : Js w w.heap.size ja jn es ∧ jn ≤ 20 ∧ ∀ e ∈ es,e.n ≤ 20) (h2 : Js w w.heap.size ma k es1 ∧ k ≤ 20 ∧ ∀ e ∈ es1,e.n ≤ 20) (h3 : Js w w.heap.size oa k es2 ∧ k ≤ 20 ∧ ∀ e ∈ es2,e.n ≤ 20) : Code.wp Try.prog bkrest8 (QBK w0) ⟨#[(.slice ja jn jc),u1,u2,u3,u4,u5,u6,u7,u8,u9,A0,(.slice ma k mc),A2,(.slice oa k oc),A4,A5,A6,A7,A8,A9,Aa,Ab,Ac,Ad,Ae,Af,Ag,Ah,Ai,Aj,Ak,Al,Am,An,Ao,Ap,Aq,Ar,As,At,Au,Av,Aw,Ax,Ay,Az,C0,C1,C2,C3,C4,C5,C6,C7,C8,C9,Ca,Cb,Cc,Cd,Ce,Cf,Cg,Ch,Ci,Cj,Ck,Cl,Cm,Cn,Co,Cp,Cq,Cr,Cs,Ct,Cu,Cv,Cw,Cx,Cy,Cz,D0,D1,D2,D3,D4,D5,D6,D7,D8,D9,Da,Db,Dc,Dd,De,Df,Dg,Dh,Di,Dj,Dk,Dl,Dm,Dn,Do,Dp,Dq,Dr,Ds,Dt,Du,Dv,Dw,Dx,Dy,Dz,E0,E1,E2,E3,E4,E5,E6,E7,E8,E9,Ea,Eb,Ec,Ed,Ee,Ef,Eg,Eh,Ei,Ej,Ek,El,Em,En,Eo,Ep,Eq,Er],[]⟩ w := by
  rw [bkrest8_eq]
  have HT := hidMk htun
  have HB0 := hidMk hb0
  have HP := hidMk hp
  have H1 := hidMk h1
  have H2 := hidMk h2
  have H3 := hidMk h3
  clear htun hb0 hp h1 h2 h3
  go_wp2_with fail
  have al_ : Below w.heap.size w (w.alloc (.cells #[.slice ja jn jc,.slice ma k mc,.slice oa k oc] 37)) := (Below.refl _ _).alloc (Nat.le_refl _) _
  refine bkpart9 (b := b) (Ls := [⟨ja,jn,jc,es⟩,⟨ma,k,mc,es1⟩,⟨oa,k,oc,es2⟩]) HT.out ⟨HB0.out.trans (al_.mono HB0.out.size),hb,HP.out.below al_ HP.out.lt,Bk.new _ _ _,rfl,?_⟩
  intro L hL
  simp only [List.mem_cons,List.not_mem_nil,or_false] at hL
  rcases hL with rfl | rfl | rfl
  · exact ⟨H1.out.1.up al_,H1.out.2.1,H1.out.2.2⟩
  · exact ⟨H2.out.1.up al_,H2.out.2.1,H2.out.2.2⟩
  · exact ⟨H3.out.1.up al_,H3.out.2.1,H3.out.2.2⟩
set_option maxHeartbeats 4000000 in
set_option maxRecDepth 1000000 in
theorem bkpart7 {w0 : World} {g5 : Nat} {X : Jb} {xa : Option Addr} {xn xc : Nat} {ja : Option Addr} {jn jc : Nat} {es : List Ent} {tat : Int} {b : Nat} {ma : Option Addr} {k mc : Nat} {es1 : List Ent} {v' : Value} {wB w : World} {u1 u3 u4 u6 u7 u8 u9 A0 A2 A4 A5 A6 A7 A8 A9 Aa Ab Ac Ad Ae Af Ag Ah Ai Aj Ak Al Am An Ao Ap Aq Ar As At Au Av Aw Ax Ay Az C0 C1 C2 C3 C4 C5 C6 C7 C8 C9 Ca Cb Cc Cd Ce Cf Cg Ch Ci Cj Ck Cl Cm Cn Co Cp Cq Cr Cs Ct Cu Cv Cw Cx Cy Cz D0 D1 D2 D3 D4 D5 D6 D7 D8 D9 Da Db Dc Dd De Df Dg Dh Di Dj Dk Dl Dm Dn Do Dp Dq Dr Ds Dt Du Dv Dw Dx Dy Dz E0 E1 E2 E3 E4 E5 E6 E7 E8 E9 Ea Eb Ec Ed Ee Ef Eg Eh Ei Ej Ek El Em En Eo Ep Eq Er : Value} (htun : TunOK) (hjf : JobOKf 2 1) (hs : LW w0 wB g5 X xa xn xc ja jn es) (hxn : xn = X.sh.length) (hat : -9223372036854775808 ≤ tat ∧ tat ≤ 9223372036854775807) (hx20 : xn ≤ 20) (hj20 : jn ≤ 20) (he20 : ∀ e ∈ es,e.n ≤ 20) (hp : Pt wB b) (hb : w0.heap.size ≤ b) (hjm : Js wB wB.heap.size ma k es1) (hm20 : ∀ e ∈ es1,e.n ≤ 20) (hk4 : 1 ≤ k ∧ k ≤ 4) (hbl : Below wB.heap.size wB w) (hown : w.ownsRow wB.heap.size 30 18 v' k (flatE es1)) : Code.wp Try.prog bkrest7 (QBK w0) ⟨#[(.slice ja jn jc),u1,(.int .i64 tat),u3,u4,(.pointer (some ⟨g5,0,none⟩)),u6,u7,u8,u9,A0,(.slice ma k mc),A2,v',A4,A5,A6,A7,A8,A9,Aa,Ab,Ac,Ad,Ae,Af,Ag,Ah,Ai,Aj,Ak,Al,Am,An,Ao,Ap,Aq,Ar,As,At,Au,Av,Aw,Ax,Ay,Az,C0,C1,C2,C3,C4,C5,C6,C7,C8,C9,Ca,Cb,Cc,Cd,Ce,Cf,Cg,Ch,Ci,Cj,Ck,Cl,Cm,Cn,Co,Cp,Cq,Cr,Cs,Ct,Cu,Cv,Cw,Cx,Cy,Cz,D0,D1,D2,D3,D4,D5,D6,D7,D8,D9,Da,Db,Dc,Dd,De,Df,Dg,Dh,Di,Dj,Dk,Dl,Dm,Dn,Do,Dp,Dq,Dr,Ds,Dt,Du,Dv,Dw,Dx,Dy,Dz,E0,E1,E2,E3,E4,E5,E6,E7,E8,E9,Ea,Eb,Ec,Ed,Ee,Ef,Eg,Eh,Ei,Ej,Ek,El,Em,En,Eo,Ep,Eq,Er],[]⟩ w := by
  rw [bkrest7_eq]
  have HT := hidMk htun
  have HJF := hidMk hjf
  have HS := hidMk hs
  have HXN := hidMk hxn
  have HAT := hidMk hat
  clear htun hjf hs hxn hat
  have HE20 := hidMk he20
  have HP := hidMk hp
  have HJM := hidMk hjm
  have HM20 := hidMk hm20
  have HBL := hidMk hbl
  clear he20 hp hjm hm20 hbl
  obtain ⟨g,cap,rfl,hBg,hgl⟩ : ∃ g cap,v' = .slice (some ⟨g,0,none⟩) k cap ∧ wB.heap.size ≤ g ∧ g < w.heap.size := by
    rcases hown.2 with ⟨_,h0⟩ | ⟨g,cap,cur,h0,hb',hg,_⟩
    · omega
    · exact ⟨g,cap,h0,hb',(Array.getElem?_eq_some_iff.1 hg).1⟩
  have HOWN := hidMk hown
  clear hown
  have hg5 : g5 < wB.heap.size := HS.out.box.lt
  refine wp_seq_k fun K0 hK0 => ?_
  refine region_via (R := fun a_ e_ a' w' => e_ = .normal ∧ ∃ (v61 v62 v63 v64 v65 v66 v67 : Value) (tt : Nat),tt < k ∧ a' = (((((((a_.put (some 61) v61).put (some 62) v62).put (some 63) v63).put (some 64) v64).put (some 65) v65).put (some 66) v66).put (some 67) v67) ∧ Below wB.heap.size wB w' ∧ w.heap.size ≤ w'.heap.size ∧ (∀ q e,(es1.set tt ⟨X,xa,xn,xc⟩)[q]? = some e → w'.rangeAt g (q * 18) e.V.toList)) ?_ ?_
  rotate_left
  · rintro e_ a' w4 ⟨rfl,v61,v62,v63,v64,v65,v66,v67,tt,htk,rfl,al,hw4,hrows⟩
    refine hK0 _ _ ?_
    simp only [Act.put,aT,aZ,aS]
    have hS4 := HS.out.next al
    have hJ4 := HJM.out.up al
    refine bkpart8 (b := b) (es2 := es1.set tt ⟨X,xa,xn,xc⟩) HT.out hS4.b0 hb (HP.out.below al HP.out.lt) ⟨hS4.js,hj20,HE20.out⟩ ⟨hJ4,by omega,HM20.out⟩ ⟨⟨by rw [List.length_set]; exact hJ4.len,fun q e hq => ⟨g,0,rfl,?_,?_⟩,fun e he => ?_⟩,by omega,fun e he => ?_⟩
    · omega
    · rw [Nat.zero_add]; exact hrows q e hq
    · rcases List.mem_or_eq_of_mem_set he with he | rfl
      · exact hJ4.each e he
      · exact ⟨hS4.xrg,HXN.out,by show xn ≤ _; omega⟩
    · rcases List.mem_or_eq_of_mem_set he with he | rfl
      · exact HM20.out e he
      · exact hx20
  have hBW : Below w.heap.size w w.drew := (Below.refl _ _).drew
  have hS : Bk w.drew g5 30 (jobC X (.slice xa xn xc)) := (HS.out.box.below HBL.out hg5).drew
  refine wp_region_held_drew (S := fun w' => Bk w' g5 30 (jobC X (.slice xa xn xc))) (by kernel_rfl) hS (fun hS0 => ?_)
  generalize hWd : w.drew = wd at hS0 hS hBW ⊢
  clear hWd
  refine wpAnyH_take (i := 0) (oi := ⟨some 61,.move (.tmp 13),37,"law.go:131",#[],none⟩) (v := ?_) rfl (by kernel_rfl) (by kernel_rfl) (by kernel_rfl) (fun _ _ _ h => by cases h.1) (.inl ⟨by rfl,?_⟩) (by assumption) ?_
  rotate_left
  · (intro w' hSw; (try dsimp only at hSw); skip; go_simp <;> with_reducible rfl)
  (try simp only [Act.put,aT,aZ,aS])
  refine wpAnyH_take (i := 1) (oi := ⟨some 62,.move (.tmp 2),3,"law.go:131",#[],none⟩) (v := ?_) rfl (by kernel_rfl) (by kernel_rfl) (by kernel_rfl) (fun _ _ _ h => by cases h.1) (.inl ⟨by rfl,?_⟩) (by assumption) ?_
  rotate_left
  · (intro w' hSw; (try dsimp only at hSw); skip; go_simp <;> with_reducible rfl)
  (try simp only [Act.put,aT,aZ,aS])
  refine wpAnyH_take (i := 2) (oi := ⟨some 63,.move (.tmp 13),37,"law.go:131",#[],none⟩) (v := ?_) rfl (by kernel_rfl) (by kernel_rfl) (by kernel_rfl) (fun _ _ _ h => by cases h.1) (.inl ⟨by rfl,?_⟩) (by assumption) ?_
  rotate_left
  · (intro w' hSw; (try dsimp only at hSw); skip; go_simp <;> with_reducible rfl)
  (try simp only [Act.put,aT,aZ,aS])
  refine wpAnyH_take (i := 3) (oi := ⟨some 64,.call { callee := .builtin .len,args := #[.tmp 63],argTypes := #[37] },3,"law.go:131",#[⟨2,.data⟩],none⟩) (v := ?_) rfl (by kernel_rfl) (by kernel_rfl) (by kernel_rfl) (fun _ _ _ h => by cases h.1) (.inl ⟨by rfl,?_⟩) (by assumption) ?_
  rotate_left
  · (intro w' hSw; (try dsimp only at hSw); skip; go_simp <;> with_reducible rfl)
  (try simp only [Act.put,aT,aZ,aS])
  refine wpAnyH_take (i := 5) (oi := ⟨some 66,.load 30 (.tmp 5),30,"law.go:131",#[],none⟩) rfl (by kernel_rfl) (by kernel_rfl) (by kernel_rfl) (fun _ _ _ h => by cases h.1) (yields_row (by rfl) 30 _ rfl g5 (jobC X (.slice xa xn xc)) rfl 30 (fun w' hw => hw) Try.underlying30 szJob) (by assumption) ?_
  (try simp only [Act.put,aT,aZ,aS])
  refine wpAnyH_ready (rs := [4]) (by kernel_rfl) (by simp) ?_
  refine AllReadyH.cons (o := ⟨some 65,.call { callee := .value (.func 18),args := #[.tmp 62,.tmp 64],argTypes := #[3,3] },3,"law.go:131",#[⟨1,.data⟩,⟨3,.data⟩],none⟩) rfl (fun K hK => ?_) ?_
  · go_simp
    go_at_call 18
    refine (turn_any tat k _ (by omega) HAT.out).mono ?_
    rintro e' wX ⟨⟨t0,rfl,ht0,ht1⟩,hbX⟩
    obtain ⟨tt,rfl⟩ := Int.eq_ofNat_of_zero_le ht0
    have htk : tt < k := by omega
    have hBW_ := hBW.trans (hbX.mono hBW.size)
    clear hBW
    have hBW := hBW_
    have hS1 : Bk wX g5 30 (jobC X (.slice xa xn xc)) := hS.below hbX hS.lt
    clear hBW_ hbX hS
    have hS := hS1
    clear hS1
    go_wp2_with fail
    refine hK.out _ _ hS (fun _ => ?_)
    clear hK K
    (try simp only [Act.put,aT,aZ,aS])
    refine wpAnyH_take (i := 6) (oi := ⟨some 67,.indexAddr 37 (.tmp 61) (.tmp 65),0,"law.go:131",#[⟨0,.data⟩,⟨4,.data⟩,⟨0,.phase⟩,⟨1,.phase⟩,⟨2,.phase⟩,⟨3,.phase⟩,⟨4,.phase⟩,⟨5,.phase⟩],none⟩) (v := ?_) rfl (by kernel_rfl) (by kernel_rfl) (by kernel_rfl) (fun _ _ _ h => by cases h.1) (.inl ⟨by rfl,?_⟩) (by assumption) ?_
    rotate_left
    · (intro w' hSw; (try dsimp only at hSw); skip; go_simp <;> with_reducible rfl)
    (try simp only [Act.put,aT,aZ,aS])
    refine wpAnyH_ready (rs := [7]) (by kernel_rfl) (by simp) ?_
    refine AllReadyH.cons (o := ⟨none,.store 30 (.tmp 67) (.tmp 66),0,"law.go:131",#[⟨6,.data⟩,⟨5,.data⟩,⟨4,.chain⟩,⟨0,.phase⟩,⟨1,.phase⟩,⟨2,.phase⟩,⟨3,.phase⟩,⟨4,.phase⟩,⟨5,.phase⟩],none⟩) rfl (fun K hK => ?_) ?_
    · refine wp_store_mid 30 (.tmp 67) (.tmp 66) rfl g (tt * 18) (jobC X (.slice xa xn xc)) rfl rfl (put_there HOWN.out hBW htk) szJob (oneJob _ _ _ _) ?_
      have hROWS := put_rows HOWN.out hgl hBW htk ⟨X,xa,xn,xc⟩
      have hBL := below_setCells (HBL.out.trans (hBW.mono HBL.out.size)) hBg (o := tt * 18) (jobC X (.slice xa xn xc)).toList
      have hW4 : w.heap.size ≤ (wX.setCells g (tt * 18) (jobC X (.slice xa xn xc)).toList).heap.size := by rw [(setCells_size g _ _ _).1]; exact hBW.size
      have hS2 : Bk (wX.setCells g (tt * 18) (jobC X (.slice xa xn xc)).toList) g5 30 (jobC X (.slice xa xn xc)) := (setCells_other g _ _ _ g5 (by omega)).trans hS
      refine hK.out _ _ hS2 (fun _ => ?_)
      clear hK K
      (try simp only [Act.put,aT,aZ,aS])
      refine wpAnyH_done (by kernel_rfl) ?_ _
      exact ⟨rfl,_,_,_,_,_,_,_,tt,htk,rfl,hBL,hW4,hROWS⟩
    exact AllReadyH.nil
  exact AllReadyH.nil
end Go.Proofs.Ytadmcafbffjjbaa
/- The law ReedBlanks: its beginning. -/
namespace Go.Proofs.Ytadmcafbffjjbaa
set_option linter.all false
open Go.RowKit
set_option maxHeartbeats 4000000 in
set_option maxRecDepth 1000000 in
theorem bkpart6 {w0 : World} {g5 : Nat} {X : Jb} {xa : Option Addr} {xn xc : Nat} {ja : Option Addr} {jn jc : Nat} {es : List Ent} {tat : Int} {b : Nat} {ma : Option Addr} {k mc : Nat} {es1 : List Ent} {w : World} {u1 u3 u4 u6 u7 u8 u9 A0 A2 A3 A4 A5 A6 A7 A8 A9 Aa Ab Ac Ad Ae Af Ag Ah Ai Aj Ak Al Am An Ao Ap Aq Ar As At Au Av Aw Ax Ay Az C0 C1 C2 C3 C4 C5 C6 C7 C8 C9 Ca Cb Cc Cd Ce Cf Cg Ch Ci Cj Ck Cl Cm Cn Co Cp Cq Cr Cs Ct Cu Cv Cw Cx Cy Cz D0 D1 D2 D3 D4 D5 D6 D7 D8 D9 Da Db Dc Dd De Df Dg Dh Di Dj Dk Dl Dm Dn Do Dp Dq Dr Ds Dt Du Dv Dw Dx Dy Dz E0 E1 E2 E3 E4 E5 E6 E7 E8 E9 Ea Eb Ec Ed Ee Ef Eg Eh Ei Ej Ek El Em En Eo Ep Eq Er : Value} (htun : TunOK) (hjf : JobOKf 2 1) (hs : LW w0 w g5 X xa xn xc ja jn es) (hxn : xn = X.sh.length) (hat : -9223372036854775808 ≤ tat ∧ tat ≤ 9223372036854775807) (hx20 : xn ≤ 20) (hj20 : jn ≤ 20) (he20 : ∀ e ∈ es,e.n ≤ 20) (hp : Pt w b) (hb : w0.heap.size ≤ b) (hjm : Js w w.heap.size ma k es1) (hm20 : ∀ e ∈ es1,e.n ≤ 20) (hk4 : 1 ≤ k ∧ k ≤ 4) : Code.wp Try.prog bkrest6 (QBK w0) ⟨#[(.slice ja jn jc),u1,(.int .i64 tat),u3,u4,(.pointer (some ⟨g5,0,none⟩)),u6,u7,u8,u9,A0,(.slice ma k mc),A2,A3,A4,A5,A6,A7,A8,A9,Aa,Ab,Ac,Ad,Ae,Af,Ag,Ah,Ai,Aj,Ak,Al,Am,An,Ao,Ap,Aq,Ar,As,At,Au,Av,Aw,Ax,Ay,Az,C0,C1,C2,C3,C4,C5,C6,C7,C8,C9,Ca,Cb,Cc,Cd,Ce,Cf,Cg,Ch,Ci,Cj,Ck,Cl,Cm,Cn,Co,Cp,Cq,Cr,Cs,Ct,Cu,Cv,Cw,Cx,Cy,Cz,D0,D1,D2,D3,D4,D5,D6,D7,D8,D9,Da,Db,Dc,Dd,De,Df,Dg,Dh,Di,Dj,Dk,Dl,Dm,Dn,Do,Dp,Dq,Dr,Ds,Dt,Du,Dv,Dw,Dx,Dy,Dz,E0,E1,E2,E3,E4,E5,E6,E7,E8,E9,Ea,Eb,Ec,Ed,Ee,Ef,Eg,Eh,Ei,Ej,Ek,El,Em,En,Eo,Ep,Eq,Er],[]⟩ w := by
  rw [bkrest6_eq]
  have HT := hidMk htun
  have HJF := hidMk hjf
  have HS := hidMk hs
  have HXN := hidMk hxn
  have HAT := hidMk hat
  clear htun hjf hs hxn hat
  have HE20 := hidMk he20
  have HP := hidMk hp
  clear he20 hp
  have HJM := hidMk hjm
  have HM20 := hidMk hm20
  clear hjm hm20
  obtain ⟨ti,tz,ha1,ha2,ha3,ha4,ha5⟩ := infoJ
  have Hi := hidMk ha1
  have Hz := hidMk ha2
  have Hsz := hidMk ha3
  have Hby := hidMk ha4
  have Hzs := hidMk ha5
  clear ha1 ha2 ha3 ha4 ha5
  obtain ⟨e0,he0⟩ : ∃ e,es1[0]? = some e := ⟨es1[0]'(by rw [← HJM.out.len]; omega),List.getElem?_eq_getElem _⟩
  obtain ⟨bm,om,rfl,_,_⟩ := HJM.out.row 0 e0 he0
  have own0 : (w.alloc (.cells #[] 30)).ownsRow w.heap.size 30 18 (.slice (some ⟨w.heap.size,0,none⟩) 0 0) 0 [] :=
    ⟨rfl,.inr ⟨w.heap.size,0,#[],rfl,Nat.le_refl _,Bk.new _ _ _,Nat.le_refl _,Nat.zero_le _,rfl,rfl⟩⟩
  have HO := hidMk own0
  clear own0 he0
  go_wp2_with (at_builtin; refine wpList_append_own_at _ rfl (.tmp 58) (.tmp 59) 37 rfl w.heap.size 30 ti tz 18 160 Try.underlying37 Hi.out Hz.out Hsz.out Hby.out Hzs.out (by decide) _ 0 [] rfl HO.out ⟨bm,om,none⟩ k mc (flatE es1) rfl (by rw [flatE_len,← HJM.out.len]) (HJM.out.up ((Below.refl _ _).alloc (Nat.le_refl _) _)).news (flatE_one _) (by unfold maxLen; omega) (by omega) (by simp) ?_; intro v' w3 own' hg _ at_)
  have hbl : Below w.heap.size w w3 := ((Below.refl _ _).alloc (Nat.le_refl _) (.cells #[] 30)).grown hg (by simp) (fun g e => by cases e; exact Nat.le_refl _)
  have own2 : w3.ownsRow w.heap.size 30 18 v' k (flatE es1) := by simpa using own'
  exact bkpart7 (wB := w) HT.out HJF.out HS.out HXN.out HAT.out hx20 hj20 HE20.out HP.out hb HJM.out HM20.out hk4 hbl own2
set_option maxHeartbeats 4000000 in
set_option maxRecDepth 1000000 in
theorem bkpart5 {w0 : World} {g5 : Nat} {X : Jb} {xa : Option Addr} {xn xc : Nat} {ja : Option Addr} {jn jc : Nat} {es : List Ent} {tat : Int} {b : Nat} {w : World} {u1 u3 u4 u6 u7 u8 u9 A2 A3 A4 A5 A6 A7 A8 A9 Aa Ab Ac Ad Ae Af Ag Ah Ai Aj Ak Al Am An Ao Ap Aq Ar As At Au Av Aw Ax Ay Az C0 C1 C2 C3 C4 C5 C6 C7 C8 C9 Ca Cb Cc Cd Ce Cf Cg Ch Ci Cj Ck Cl Cm Cn Co Cp Cq Cr Cs Ct Cu Cv Cw Cx Cy Cz D0 D1 D2 D3 D4 D5 D6 D7 D8 D9 Da Db Dc Dd De Df Dg Dh Di Dj Dk Dl Dm Dn Do Dp Dq Dr Ds Dt Du Dv Dw Dx Dy Dz E0 E1 E2 E3 E4 E5 E6 E7 E8 E9 Ea Eb Ec Ed Ee Ef Eg Eh Ei Ej Ek El Em En Eo Ep Eq Er : Value} (htun : TunOK) (hjf : JobOKf 2 1) (hs : LW w0 w g5 X xa xn xc ja jn es) (hxn : xn = X.sh.length) (hat : -9223372036854775808 ≤ tat ∧ tat ≤ 9223372036854775807) (hx20 : xn ≤ 20) (hj20 : jn ≤ 20) (he20 : ∀ e ∈ es,e.n ≤ 20) (hp : Pt w b) (hb : w0.heap.size ≤ b) : Code.wp Try.prog bkrest5 (QBK w0) ⟨#[(.slice ja jn jc),u1,(.int .i64 tat),u3,u4,(.pointer (some ⟨g5,0,none⟩)),u6,u7,u8,u9,(.pointer (some ⟨b,0,none⟩)),(.slice none 0 0),A2,A3,A4,A5,A6,A7,A8,A9,Aa,Ab,Ac,Ad,Ae,Af,Ag,Ah,Ai,Aj,Ak,Al,Am,An,Ao,Ap,Aq,Ar,As,At,Au,Av,Aw,Ax,Ay,Az,C0,C1,C2,C3,C4,C5,C6,C7,C8,C9,Ca,Cb,Cc,Cd,Ce,Cf,Cg,Ch,Ci,Cj,Ck,Cl,Cm,Cn,Co,Cp,Cq,Cr,Cs,Ct,Cu,Cv,Cw,Cx,Cy,Cz,D0,D1,D2,D3,D4,D5,D6,D7,D8,D9,Da,Db,Dc,Dd,De,Df,Dg,Dh,Di,Dj,Dk,Dl,Dm,Dn,Do,Dp,Dq,Dr,Ds,Dt,Du,Dv,Dw,Dx,Dy,Dz,E0,E1,E2,E3,E4,E5,E6,E7,E8,E9,Ea,Eb,Ec,Ed,Ee,Ef,Eg,Eh,Ei,Ej,Ek,El,Em,En,Eo,Ep,Eq,Er],[]⟩ w := by
  rw [bkrest5_eq]
  have HT := hidMk htun
  have HJF := hidMk hjf
  have HS := hidMk hs
  have HXN := hidMk hxn
  have HAT := hidMk hat
  clear htun hjf hs hxn hat
  have HE20 := hidMk he20
  have HP := hidMk hp
  clear he20 hp
  obtain ⟨ti,tz,ha1,ha2,ha3,ha4,ha5⟩ := infoJ
  have Hi := hidMk ha1
  have Hz := hidMk ha2
  have Hsz := hidMk ha3
  have Hby := hidMk ha4
  have Hzs := hidMk ha5
  clear ha1 ha2 ha3 ha4 ha5
  refine wp_seq_k fun K0 hK0 => ?_
  go_wp2_with fail
  refine (withinP b 1 4 _ HP.out (by omega)).mono ?_
  rintro e w1 ⟨m,rfl,⟨hm1,hm4⟩,hk1,hp1⟩
  have HS1 := hidMk (HS.out.pb HP.out hk1 hb)
  have HP1 := hidMk hp1
  clear HS HP hk1 hp1
  go_wp2_with fail
  go_loopw [11,12] (fun v iv wr => ∃ (k : Nat) (j : Int) (es1 : List Ent),(j + k = m ∧ 0 ≤ j) ∧ iv = .int .i64 j ∧ Hid (MK w1 b wr v k es1)) (fun _ iv _ => (intOf iv).toNat)
  case atStart => exact ⟨0,m,[],⟨by omega,by omega⟩,rfl,hidMk (MK.start HP1.out)⟩
  case round =>
    obtain ⟨k,j,es1,⟨hj1,hj2⟩,rfl,HM⟩ := hrel
    by_cases hlt : 0 < j
    · go_wp2_with fail
      refine (HJF.out b _ HM.out.pt).mono ?_
      rintro e2 w2 ⟨M,ma,mn,mc,rfl,hn,hrg,hck,hfr,hk,hp⟩
      have HM1 := hidMk (HM.out.pbn hk hp)
      have HM2 := hidMk (HM1.out.next ((Below.refl _ _).alloc (Nat.le_refl _) (.cells (jobC M (.slice ma mn mc)) 30)))
      have HOG := hidMk (hrg.up ((Below.refl _ _).alloc (Nat.le_refl _) (.cells (jobC M (.slice ma mn mc)) 30)))
      have HBS := hidMk (show w1.heap.size ≤ (w2.alloc (.cells (jobC M (.slice ma mn mc)) 30)).heap.size from HM2.out.pb.size)
      have HN := hidMk hn
      have hm20 : mn ≤ 20 := by have := (check_ok hck).inn.len; omega
      have HFV := hidMk (show M.sh ≠ [] → ∀ q o,ma = some ⟨q,o,none⟩ → Value.ownBlock _ ≠ some q from fun hne q o hq => by
        rcases hfr q o hq with h | h
        · exact HM.out.fresh h
        · subst h
          intro e3
          have h4 := (own_block HM.out.own _ e3).1
          have := HP1.out.lt
          omega)
      clear hn hrg hck hfr hk hp
      go_wp2_with (at_builtin; refine wpList_append_own_at _ rfl (.tmp 53) (.tmp 56) 37 rfl w1.heap.size 30 ti tz 18 160 Try.underlying37 Hi.out Hz.out Hsz.out Hby.out Hzs.out (by decide) _ k (flatE es1) rfl HM2.out.own ⟨w2.heap.size,0,none⟩ 1 1 (jobC M (.slice ma mn mc)).toList rfl rfl (fun j u hu => by rw [Addr.add_mid,Nat.zero_add]; exact (Bk.new w2 30 (jobC M (.slice ma mn mc))).at_ j u (by simpa using hu)) (fun u hu => (Array.all_eq_true_iff_forall_mem.1 (oneJob M ma mn mc)) u (by simpa using hu)) (by unfold maxLen; omega) (by omega) HBS.out ?_; intro v' w3 own' hg _ at_)
      go_roundw
      case rel => exact ⟨k + 1,j - 1,es1 ++ [⟨M,ma,mn,mc⟩],⟨by omega,by omega⟩,by go_num,hidMk (HM2.out.app (e := ⟨M,ma,mn,mc⟩) own' hg at_ ⟨HOG.out,HN.out,hm20,HFV.out⟩)⟩
      case measure => simp [intOf]; omega
    · obtain rfl : j = 0 := by omega
      obtain ⟨ma,mc,rfl,hjo⟩ := HM.out.js
      have HJO := hidMk hjo
      have HS2 := hidMk (HS1.out.pb HP1.out HM.out.pb hb)
      have HP2 := hidMk HM.out.pt
      have HM20 := hidMk (fun x (hx : x ∈ es1) => (HM.out.each x hx).2.2.1)
      have hk4 : 1 ≤ k ∧ k ≤ 4 := by omega
      clear hjo HM
      go_wp2_with fail
      exact bkpart6 HT.out HJF.out HS2.out HXN.out HAT.out hx20 hj20 HE20.out HP2.out hb HJO.out HM20.out hk4
set_option maxHeartbeats 4000000 in
set_option maxRecDepth 1000000 in
theorem bkpart4 {w0 : World} {g5 : Nat} {X : Jb} {xa : Option Addr} {xn xc : Nat} {ja : Option Addr} {jn jc : Nat} {es : List Ent} {tat : Int} {b : Nat} {w : World} {u1 u3 u4 u6 u7 u8 u9 A1 A2 A3 A4 A5 A6 A7 A8 A9 Aa Ab Ac Ad Ae Af Ag Ah Ai Aj Ak Al Am An Ao Ap Aq Ar As At Au Av Aw Ax Ay Az C0 C1 C2 C3 C4 C5 C6 C7 C8 C9 Ca Cb Cc Cd Ce Cf Cg Ch Ci Cj Ck Cl Cm Cn Co Cp Cq Cr Cs Ct Cu Cv Cw Cx Cy Cz D0 D1 D2 D3 D4 D5 D6 D7 D8 D9 Da Db Dc Dd De Df Dg Dh Di Dj Dk Dl Dm Dn Do Dp Dq Dr Ds Dt Du Dv Dw Dx Dy Dz E0 E1 E2 E3 E4 E5 E6 E7 E8 E9 Ea Eb Ec Ed Ee Ef Eg Eh Ei Ej Ek El Em En Eo Ep Eq Er : Value} (htun : TunOK) (hjf : JobOKf 2 1) (hs : LW w0 w g5 X xa xn xc ja jn es) (hxn : xn = X.sh.length) (hat : -9223372036854775808 ≤ tat ∧ tat ≤ 9223372036854775807) (hx20 : xn ≤ 20) (hj20 : jn ≤ 20) (he20 : ∀ e ∈ es,e.n ≤ 20) (hp : Pt w b) (hb : w0.heap.size ≤ b) : Code.wp Try.prog bkrest4 (QBK w0) ⟨#[(.slice ja jn jc),u1,(.int .i64 tat),u3,u4,(.pointer (some ⟨g5,0,none⟩)),u6,u7,u8,u9,(.pointer (some ⟨b,0,none⟩)),A1,A2,A3,A4,A5,A6,A7,A8,A9,Aa,Ab,Ac,Ad,Ae,Af,Ag,Ah,Ai,Aj,Ak,Al,Am,An,Ao,Ap,Aq,Ar,As,At,Au,Av,Aw,Ax,Ay,Az,C0,C1,C2,C3,C4,C5,C6,C7,C8,C9,Ca,Cb,Cc,Cd,Ce,Cf,Cg,Ch,Ci,Cj,Ck,Cl,Cm,Cn,Co,Cp,Cq,Cr,Cs,Ct,Cu,Cv,Cw,Cx,Cy,Cz,D0,D1,D2,D3,D4,D5,D6,D7,D8,D9,Da,Db,Dc,Dd,De,Df,Dg,Dh,Di,Dj,Dk,Dl,Dm,Dn,Do,Dp,Dq,Dr,Ds,Dt,Du,Dv,Dw,Dx,Dy,Dz,E0,E1,E2,E3,E4,E5,E6,E7,E8,E9,Ea,Eb,Ec,Ed,Ee,Ef,Eg,Eh,Ei,Ej,Ek,El,Em,En,Eo,Ep,Eq,Er],[]⟩ w := by
  rw [bkrest4_eq]
  have HT := hidMk htun
  have HJF := hidMk hjf
  have HS := hidMk hs
  have HXN := hidMk hxn
  have HAT := hidMk hat
  clear htun hjf hs hxn hat
  have HE20 := hidMk he20
  have HP := hidMk hp
  clear he20 hp
  go_wp2_with fail
  exact bkpart5 HT.out HJF.out HS.out HXN.out HAT.out hx20 hj20 HE20.out HP.out hb
set_option maxHeartbeats 4000000 in
set_option maxRecDepth 1000000 in
theorem bkpart3 {w0 : World} {g5 : Nat} {X : Jb} {xa : Option Addr} {xn xc : Nat} {ja : Option Addr} {jn jc : Nat} {es : List Ent} {tat : Int} {na : Option Addr} {nn nc : Nat} {nl : List Int} {w : World} {u1 u4 u6 u7 u8 u9 A0 A1 A2 A3 A4 A5 A6 A7 A8 A9 Aa Ab Ac Ad Ae Af Ag Ah Ai Aj Ak Al Am An Ao Ap Aq Ar As At Au Av Aw Ax Ay Az C0 C1 C2 C3 C4 C5 C6 C7 C8 C9 Ca Cb Cc Cd Ce Cf Cg Ch Ci Cj Ck Cl Cm Cn Co Cp Cq Cr Cs Ct Cu Cv Cw Cx Cy Cz D0 D1 D2 D3 D4 D5 D6 D7 D8 D9 Da Db Dc Dd De Df Dg Dh Di Dj Dk Dl Dm Dn Do Dp Dq Dr Ds Dt Du Dv Dw Dx Dy Dz E0 E1 E2 E3 E4 E5 E6 E7 E8 E9 Ea Eb Ec Ed Ee Ef Eg Eh Ei Ej Ek El Em En Eo Ep Eq Er : Value} (htun : TunOK) (hjf : JobOKf 2 1) (hs : LW w0 w g5 X xa xn xc ja jn es) (hxn : xn = X.sh.length) (hat : -9223372036854775808 ≤ tat ∧ tat ≤ 9223372036854775807) (hnn : nn = nl.length ∧ nn ≤ 9223372036854775807) (hnl : Is w w.heap.size na nl) (hx20 : xn ≤ 20) (hj20 : jn ≤ 20) (he20 : ∀ e ∈ es,e.n ≤ 20) : Code.wp Try.prog bkrest3 (QBK w0) ⟨#[(.slice ja jn jc),u1,(.int .i64 tat),(.slice na nn nc),u4,(.pointer (some ⟨g5,0,none⟩)),u6,u7,u8,u9,A0,A1,A2,A3,A4,A5,A6,A7,A8,A9,Aa,Ab,Ac,Ad,Ae,Af,Ag,Ah,Ai,Aj,Ak,Al,Am,An,Ao,Ap,Aq,Ar,As,At,Au,Av,Aw,Ax,Ay,Az,C0,C1,C2,C3,C4,C5,C6,C7,C8,C9,Ca,Cb,Cc,Cd,Ce,Cf,Cg,Ch,Ci,Cj,Ck,Cl,Cm,Cn,Co,Cp,Cq,Cr,Cs,Ct,Cu,Cv,Cw,Cx,Cy,Cz,D0,D1,D2,D3,D4,D5,D6,D7,D8,D9,Da,Db,Dc,Dd,De,Df,Dg,Dh,Di,Dj,Dk,Dl,Dm,Dn,Do,Dp,Dq,Dr,Ds,Dt,Du,Dv,Dw,Dx,Dy,Dz,E0,E1,E2,E3,E4,E5,E6,E7,E8,E9,Ea,Eb,Ec,Ed,Ee,Ef,Eg,Eh,Ei,Ej,Ek,El,Em,En,Eo,Ep,Eq,Er],[]⟩ w := by
  rw [bkrest3_eq]
  have HT := hidMk htun
  have HJF := hidMk hjf
  have HS := hidMk hs
  have HXN := hidMk hxn
  have HAT := hidMk hat
  clear htun hjf hs hxn hat
  have HNN := hidMk hnn
  have HNL := hidMk hnl
  clear hnn hnl
  have HE20 := hidMk he20
  clear he20
  go_wp2_with fail
  refine (newPot_any na nn nc nl _ HNN.out.1 HNN.out.2 HNL.out).mono ?_
  rintro e w1 ⟨s,t,rfl,hb,hB1⟩
  have HS2 := hidMk (HS.out.next hB1)
  have HP := hidMk (show Pt w1 w.heap.size from ⟨_,_,hb⟩)
  have hbb := HS.out.b0.size
  clear hb hB1
  go_wp2_with fail
  exact bkpart4 HT.out HJF.out HS2.out HXN.out HAT.out hx20 hj20 HE20.out HP.out hbb
set_option maxHeartbeats 4000000 in
set_option maxRecDepth 1000000 in
theorem bkpart2 {w0 : World} {g5 : Nat} {X : Jb} {xa : Option Addr} {xn xc : Nat} {ja : Option Addr} {jn jc : Nat} {es : List Ent} {tat : Int} {na : Option Addr} {nn nc : Nat} {nl : List Int} {w : World} {u1 u4 u6 u7 u8 u9 A0 A1 A2 A3 A4 A5 A6 A7 A8 A9 Aa Ab Ac Ad Ae Af Ag Ah Ai Aj Ak Al Am An Ao Ap Aq Ar As At Au Av Aw Ax Ay Az C0 C1 C2 C3 C4 C5 C6 C7 C8 C9 Ca Cb Cc Cd Ce Cf Cg Ch Ci Cj Ck Cl Cm Cn Co Cp Cq Cr Cs Ct Cu Cv Cw Cx Cy Cz D0 D1 D2 D3 D4 D5 D6 D7 D8 D9 Da Db Dc Dd De Df Dg Dh Di Dj Dk Dl Dm Dn Do Dp Dq Dr Ds Dt Du Dv Dw Dx Dy Dz E0 E1 E2 E3 E4 E5 E6 E7 E8 E9 Ea Eb Ec Ed Ee Ef Eg Eh Ei Ej Ek El Em En Eo Ep Eq Er : Value} (htun : TunOK) (hjf : JobOKf 2 1) (hs : LW w0 w g5 X xa xn xc ja jn es) (hxn : xn = X.sh.length) (hat : -9223372036854775808 ≤ tat ∧ tat ≤ 9223372036854775807) (hnn : nn = nl.length ∧ nn ≤ 9223372036854775807) (hnl : Is w w.heap.size na nl) (hx20 : xn ≤ 20) (hj20 : jn ≤ 20) : Code.wp Try.prog bkrest2 (QBK w0) ⟨#[(.slice ja jn jc),u1,(.int .i64 tat),(.slice na nn nc),u4,(.pointer (some ⟨g5,0,none⟩)),u6,u7,u8,u9,A0,A1,A2,A3,A4,A5,A6,A7,A8,A9,Aa,Ab,Ac,Ad,Ae,Af,Ag,Ah,Ai,Aj,Ak,Al,Am,An,Ao,Ap,Aq,Ar,As,At,Au,Av,Aw,Ax,Ay,Az,C0,C1,C2,C3,C4,C5,C6,C7,C8,C9,Ca,Cb,Cc,Cd,Ce,Cf,Cg,Ch,Ci,Cj,Ck,Cl,Cm,Cn,Co,Cp,Cq,Cr,Cs,Ct,Cu,Cv,Cw,Cx,Cy,Cz,D0,D1,D2,D3,D4,D5,D6,D7,D8,D9,Da,Db,Dc,Dd,De,Df,Dg,Dh,Di,Dj,Dk,Dl,Dm,Dn,Do,Dp,Dq,Dr,Ds,Dt,Du,Dv,Dw,Dx,Dy,Dz,E0,E1,E2,E3,E4,E5,E6,E7,E8,E9,Ea,Eb,Ec,Ed,Ee,Ef,Eg,Eh,Ei,Ej,Ek,El,Em,En,Eo,Ep,Eq,Er],[]⟩ w := by
  rw [bkrest2_eq]
  have HT := hidMk htun
  have HJF := hidMk hjf
  have HS := hidMk hs
  have HXN := hidMk hxn
  have HAT := hidMk hat
  clear htun hjf hs hxn hat
  have HNN := hidMk hnn
  have HNL := hidMk hnl
  clear hnn hnl
  refine wp_seq_k fun K0 hK0 => ?_
  unfold QBK at hK0
  go_wp2_with fail
  go_loopw [8,9] (fun _ iv wr => ∃ i : Nat,i ≤ jn ∧ iv = .int .i64 i ∧ Hid (∀ e ∈ es.take i,e.n ≤ 20) ∧ Below w.heap.size w wr) (fun _ iv _ => jn - (intOf iv).toNat)
  case atStart => exact ⟨0,Nat.zero_le _,rfl,hidMk (by simp),Below.refl _ _⟩
  case round =>
    obtain ⟨i,hi,rfl,HE,hb⟩ := hrel
    have HSR := hidMk (HS.out.next hb)
    have HBB := hidMk hb
    have hz := hb.size
    clear hb
    by_cases hlt : i < jn
    · have hil : i < es.length := by rw [← HS.out.js.len]; exact hlt
      obtain ⟨e,he⟩ : ∃ e,es[i]? = some e := ⟨es[i]'hil,List.getElem?_eq_getElem hil⟩
      obtain ⟨b',off,rfl,hbB,hrow⟩ := HSR.out.js.row i e he
      obtain ⟨hrg,hen,hem⟩ := HSR.out.js.each e (List.mem_of_getElem? he)
      have HROW := hidMk hrow
      have HRG := hidMk hrg
      have HEN := hidMk hen
      have HE1 := hidMk he
      clear hrow hrg hen he
      go_wp2_with (refine wpList_load_midA rfl 30 _ rfl b' (off + i * 18) rfl (jobC e.J (.slice e.a e.n e.c)) _ HROW.out Try.underlying30 rfl szJob ?_)
      refine (slow_any HEN.out hem _ HRG.out).mono ?_
      rintro e2 w2 ⟨⟨bb,rfl,hx⟩,hb2⟩
      have HS2 := hidMk (HSR.out.next hb2)
      have HB2 := hidMk (HBB.out.trans (hb2.mono hz))
      have HX := hidMk hx
      clear hb2 hx
      cases bb with
      | true =>
        go_wp2_with (go_at_call 8; refine (HT.out _).mono ?_; rintro e w9 ⟨rfl,hb9⟩)
        go_ret
        exact ⟨rfl,HS2.out.b0.trans (hb9.mono HS2.out.b0.size)⟩
      | false =>
        go_wp2_with fail
        go_roundw
        case rel =>
          refine ⟨i + 1,by omega,by go_num,hidMk ?_,HB2.out⟩
          intro x hx
          rw [List.take_add_one,HE1.out,Option.toList_some,List.mem_append,List.mem_singleton] at hx
          rcases hx with hx | rfl
          · exact HE.out x hx
          · exact HX.out (by first | trivial | rfl)
        case measure => simp [intOf]; omega
    · have HE20 := hidMk (show ∀ e ∈ es,e.n ≤ 20 from fun e he => HE.out e (by rw [List.take_of_length_le (by rw [← HS.out.js.len]; omega)]; exact he))
      go_wp2_with fail
      exact bkpart3 HT.out HJF.out HSR.out HXN.out HAT.out HNN.out (HNL.out.up HBB.out) hx20 hj20 HE20.out
set_option maxHeartbeats 4000000 in
set_option maxRecDepth 1000000 in
theorem bkpart1 {w0 : World} {g5 : Nat} {X : Jb} {xa : Option Addr} {xn xc : Nat} {ja : Option Addr} {jn jc : Nat} {es : List Ent} {tat : Int} {na : Option Addr} {nn nc : Nat} {nl : List Int} {w : World} {u1 u4 u6 u7 u8 u9 A0 A1 A2 A3 A4 A5 A6 A7 A8 A9 Aa Ab Ac Ad Ae Af Ag Ah Ai Aj Ak Al Am An Ao Ap Aq Ar As At Au Av Aw Ax Ay Az C0 C1 C2 C3 C4 C5 C6 C7 C8 C9 Ca Cb Cc Cd Ce Cf Cg Ch Ci Cj Ck Cl Cm Cn Co Cp Cq Cr Cs Ct Cu Cv Cw Cx Cy Cz D0 D1 D2 D3 D4 D5 D6 D7 D8 D9 Da Db Dc Dd De Df Dg Dh Di Dj Dk Dl Dm Dn Do Dp Dq Dr Ds Dt Du Dv Dw Dx Dy Dz E0 E1 E2 E3 E4 E5 E6 E7 E8 E9 Ea Eb Ec Ed Ee Ef Eg Eh Ei Ej Ek El Em En Eo Ep Eq Er : Value} (htun : TunOK) (hjf : JobOKf 2 1) (hs : LW w0 w g5 X xa xn xc ja jn es) (hxn : xn = X.sh.length) (hat : -9223372036854775808 ≤ tat ∧ tat ≤ 9223372036854775807) (hnn : nn = nl.length ∧ nn ≤ 9223372036854775807) (hnl : Is w w.heap.size na nl) (hxm : xn ≤ 9223372036854775807) : Code.wp Try.prog bkrest1 (QBK w0) ⟨#[(.slice ja jn jc),u1,(.int .i64 tat),(.slice na nn nc),u4,(.pointer (some ⟨g5,0,none⟩)),u6,u7,u8,u9,A0,A1,A2,A3,A4,A5,A6,A7,A8,A9,Aa,Ab,Ac,Ad,Ae,Af,Ag,Ah,Ai,Aj,Ak,Al,Am,An,Ao,Ap,Aq,Ar,As,At,Au,Av,Aw,Ax,Ay,Az,C0,C1,C2,C3,C4,C5,C6,C7,C8,C9,Ca,Cb,Cc,Cd,Ce,Cf,Cg,Ch,Ci,Cj,Ck,Cl,Cm,Cn,Co,Cp,Cq,Cr,Cs,Ct,Cu,Cv,Cw,Cx,Cy,Cz,D0,D1,D2,D3,D4,D5,D6,D7,D8,D9,Da,Db,Dc,Dd,De,Df,Dg,Dh,Di,Dj,Dk,Dl,Dm,Dn,Do,Dp,Dq,Dr,Ds,Dt,Du,Dv,Dw,Dx,Dy,Dz,E0,E1,E2,E3,E4,E5,E6,E7,E8,E9,Ea,Eb,Ec,Ed,Ee,Ef,Eg,Eh,Ei,Ej,Ek,El,Em,En,Eo,Ep,Eq,Er],[]⟩ w := by
  have HT := hidMk htun
  have HJF := hidMk hjf
  have HS := hidMk hs
  have HXN := hidMk hxn
  have HAT := hidMk hat
  clear htun hjf hs hxn hat
  have HNN := hidMk hnn
  have HNL := hidMk hnl
  clear hnn hnl
  by_cases h20 : (20 : Int) < (jn : Int)
  · rw [bkrest1_eq]
    unfold QBK
    go_wp2_with (go_at_call 8; refine (HT.out _).mono ?_; rintro e w9 ⟨rfl,hb9⟩)
    go_ret
    exact ⟨rfl,HS.out.b0.trans (hb9.mono HS.out.b0.size)⟩
  · have hj20 : jn ≤ 20 := by omega
    have d20 : decide ((20 : Int) < (jn : Int)) = false := decide_eq_false h20
    rw [bkrest1_cut]
    refine wp_seq_k fun K0 hK0 => ?_
    refine wp_seq_k fun K1 hK1 => ?_
    refine wp_region_l [0,1,2,3,4,5,6] (by kernel_rfl) ?_
    refine opsL_take (o := ⟨some 25,.move (.tmp 0),37,"law.go:117",#[],none⟩) (v := .slice ja jn jc) (by kernel_rfl) (by kernel_rfl) ?_ ?_
    · (go_simp <;> with_reducible rfl)
    (try simp only [Act.put,aT,aZ,aS])
    refine opsL_take (o := ⟨some 26,.call { callee := .builtin .len,args := #[.tmp 25],argTypes := #[37] },3,"law.go:117",#[⟨0,.data⟩],none⟩) (v := .int .i64 (jn : Int)) (by kernel_rfl) (by kernel_rfl) ?_ ?_
    · (go_simp <;> with_reducible rfl)
    (try simp only [Act.put,aT,aZ,aS])
    refine opsL_take (o := ⟨some 27,.binOp .gtr 3 (.tmp 26) (.const (.int .i64 20)) 3,4,"law.go:117",#[⟨1,.data⟩],none⟩) (v := .bool false) (by kernel_rfl) (by kernel_rfl) ?_ ?_
    · (go_simp <;> with_reducible rfl)
    (try simp only [Act.put,aT,aZ,aS])
    refine opsL_take (o := ⟨some 28,.move (.tmp 27),4,"law.go:117",#[⟨2,.data⟩],none⟩) (v := .bool false) (by kernel_rfl) (by kernel_rfl) ?_ ?_
    · (go_simp <;> with_reducible rfl)
    (try simp only [Act.put,aT,aZ,aS])
    refine opsL_row (o := ⟨some 29,.load 30 (.tmp 5),30,"law.go:117",#[⟨3,.guard⟩],some (3,false)⟩) (by kernel_rfl) (by kernel_rfl) 30 _ rfl g5 (jobC X (.slice xa xn xc)) rfl _ HS.out.box Try.underlying30 szJob ?_
    (try simp only [Act.put,aT,aZ,aS])
    refine opsL_step (o := ⟨some 30,.call { callee := .value (.func 7),args := #[.tmp 29],argTypes := #[30] },4,"law.go:117",#[⟨4,.data⟩,⟨3,.chain⟩,⟨3,.guard⟩],some (3,false)⟩) (by kernel_rfl) (fun K hK => ?_)
    rw [if_pos]
    rotate_left
    · kernel_rfl
    go_simp
    go_at_call 7
    refine (slow_any HXN.out hxm _ HS.out.xrg).mono ?_
    rintro e w2 ⟨⟨bb,rfl,hx20⟩,hb⟩
    have HS2 := hidMk (HS.out.next hb)
    have HNL2 := hidMk (HNL.out.up hb)
    have HX20 := hidMk hx20
    clear hb HS HNL hx20
    go_wp2_with fail
    refine hK.out _ _ ?_
    clear hK K
    (try simp only [Act.put,aT,aZ,aS])
    refine opsL_take (o := ⟨some 31,.pick (.tmp 28) (.const (.bool true)) (.tmp 30),4,"law.go:117",#[⟨3,.data⟩,⟨5,.data⟩],none⟩) (v := .bool bb) (by kernel_rfl) (by kernel_rfl) ?_ ?_
    · (go_simp <;> with_reducible rfl)
    (try simp only [Act.put,aT,aZ,aS])
    refine hK1 _ _ ?_
    cases bb with
    | true =>
      unfold QBK at hK0
      go_wp2_with (go_at_call 8; refine (HT.out _).mono ?_; rintro e w9 ⟨rfl,hb9⟩)
      go_ret
      exact ⟨rfl,HS2.out.b0.trans (hb9.mono HS2.out.b0.size)⟩
    | false =>
      go_wp2_with fail
      exact bkpart2 HT.out HJF.out HS2.out HXN.out HAT.out HNN.out HNL2.out (HX20.out (by first | trivial | rfl)) hj20
end Go.Proofs.Ytadmcafbffjjbaa
/- The law ReedBlanks. -/
namespace Go.Proofs.Ytadmcafbffjjbaa
set_option linter.all false
open Go.RowKit
set_option maxHeartbeats 1000000 in
set_option maxRecDepth 100000 in
theorem blanks_law_any (hjf : JobOKf 2 1) (htun : TunOK) (ja : Option Addr) (jn jc : Nat) (es : List Ent) (X : Jb) (xa : Option Addr) (xn xc : Nat) (tat : Int) (na : Option Addr) (nn nc : Nat) (nl : List Int) (w : World)
    (hjs : Js w w.heap.size ja jn es) (hxn : xn = X.sh.length) (hxm : xn ≤ 9223372036854775807) (hxr : Rg w w.heap.size xa X.sh) (hat : -9223372036854775808 ≤ tat ∧ tat ≤ 9223372036854775807) (hnn : nn = nl.length ∧ nn ≤ 9223372036854775807) (hnl : Is w w.heap.size na nl) :
    Calls Try.prog 4 #[.slice ja jn jc,.agg (jobC X (.slice xa xn xc)),.int .i64 tat,.slice na nn nc] w fun e w' => e = .returned (.bool true) ∧ Below w.heap.size w w' := by
  have hW : Below w.heap.size w (w.alloc (.cells (jobC X (.slice xa xn xc)) 30)) := (Below.refl _ _).alloc (Nat.le_refl _) _
  have HS := hidMk (show LW w (w.alloc (.cells (jobC X (.slice xa xn xc)) 30)) w.heap.size X xa xn xc ja jn es from ⟨hW,Bk.new _ _ _,hxr.up hW,hjs.up hW⟩)
  have HNL := hidMk (hnl.up hW)
  have HJF := hidMk hjf
  have HT := hidMk htun
  have HXN := hidMk hxn
  have HAT := hidMk hat
  have HNN := hidMk hnn
  clear hjf htun hjs hxn hxr hat hnn hnl hW
  go_enter Try.func4,Try.ntmps4
  show Code.wp Try.prog bkbody (QBK w) _ _
  rw [bkbody_eq]
  go_wp2_with fail
  exact bkpart1 HT.out HJF.out HS.out HXN.out HAT.out HNN.out HNL.out hxm
end Go.Proofs.Ytadmcafbffjjbaa
