/- Part 17 of the proof: AlY, AlZ. -/
import Derived.Great.Walk
import Derived.Deep.WholeRow
import Derived.Deep.MidRow
import Derived.Test.YtolabejbhaeddaaW16
import Derived.Test.YtolabejbhaeddaaW00
/- The law ReedAll: its head, first part. -/
namespace Go.Proofs.Ytolabejbhaeddaa
set_option linter.all false
open Go.RowKit Go.Great

theorem H9.own {w0 w : World} {b g4 : Nat} {J : Jb} {ja : Option Addr} {jn jc : Nat} (h : H9 w0 w b g4 J ja jn jc) {g : Nat} (hg : w0.heap.size ≤ g ∧ g ≠ b ∧ g ≠ g4) (i : Nat) (v : Value) : H9 w0 (w.setCell ⟨g,i,none⟩ v) b g4 J ja jn jc :=
  ⟨h.b0.setCell (p := ⟨g,i,none⟩) hg.1 v,h.hb,h.pt.other (p := ⟨g,i,none⟩) (fun e => hg.2.1 e.symm) v,h.job.other (p := ⟨g,i,none⟩) (fun e => hg.2.2 e.symm) v,h.ne⟩
theorem SH.take {w0 w : World} {b g4 : Nat} {ja : Option Addr} {L : List R2} (h : SH w0 w b g4 ja L 0) (k : Nat) : SH w0 w b g4 ja (L.take k) 0 := fun hl => by
  obtain ⟨g,o,cur,h1,h2,h3,h4⟩ := h (fun e => hl (by rw [e]; simp))
  refine ⟨g,o,cur,h1,h2,h3,fun j r hr => h4 j r ?_⟩
  rw [List.getElem?_take] at hr
  split at hr
  · exact hr
  · cases hr
theorem SH.of_own {w0 w : World} {b g4 B n : Nat} {ma : Option Addr} {mc : Nat} {L : List R2} (h : w.ownsRow B 23 2 (.slice ma n mc) n (rgCells L)) (h0 : w0.heap.size ≤ B) (hb : b < B) (h4 : w.heap.size ≤ g4) : SH w0 w b g4 ma L 0 := fun hl => by
  have hlen := h.1
  rw [rgCells_len] at hlen
  rcases h.2 with ⟨_,h2⟩ | ⟨g,cap,cur,h1,h2,h3,h5,h6,h7,h8⟩
  · exact absurd (List.length_eq_zero_iff.1 (by omega)) hl
  · cases h1
    have hgl := (Array.getElem?_eq_some_iff.1 h3).1
    refine ⟨g,0,cur,rfl,⟨by omega,by omega,by omega⟩,h3,fun k r hr => ?_⟩
    have hkl := (List.getElem?_eq_some_iff.1 hr).1
    obtain ⟨e0,e1⟩ := rgCells_at L k r hr
    rw [← h8] at e0 e1
    rw [List.getElem?_take_of_lt (by omega)] at e0 e1
    rw [Nat.zero_add,← Array.getElem?_toList,← Array.getElem?_toList,if_neg (by omega)]
    exact ⟨e0,e1⟩
theorem SH.alloc {w0 w : World} {b g4 i : Nat} {ja : Option Addr} {L : List R2} (h : SH w0 w b g4 ja L i) (o : Obj) : SH w0 (w.alloc o) b g4 ja L i := fun hl => by
  obtain ⟨g,of_,cur,h1,h2,h3,h4⟩ := h hl
  exact ⟨g,of_,cur,h1,h2,h3.alloc o,h4⟩
theorem SH.off4 {w0 w : World} {b g4 i : Nat} {ja : Option Addr} {L L' : List R2} (h : SH w0 w b g4 ja L i) (hL : L' ≠ [] → L ≠ []) : ∀ (w1 : World),Rg w1 w1.heap.size ja L' → ∀ (i : Nat) (v : Value),Rg (w1.setCell ⟨g4,i,none⟩ v) w1.heap.size ja L' := fun w1 hr i v k r hk => by
  obtain ⟨g,o,cur,h1,h2,h3,h4⟩ := h (hL fun e => by rw [e] at hk; simp at hk)
  obtain ⟨q,o',e,hq,c0,c1⟩ := hr k r hk
  rw [h1] at e
  cases e
  exact ⟨g,o,h1,hq,(cell_other w1 g4 i g (o + k * 2) v h2.2.2.symm).trans c0,(cell_other w1 g4 i g (o + k * 2 + 1) v h2.2.2.symm).trans c1⟩
theorem clip_step {cur : Array Value} {o i : Nat} {L : List R2} {r0 : R2} (hr0 : L[i]? = some r0) (h : ∀ (k : Nat) (r : R2),L[k]? = some r → cur[o + k * 2]? = some (.int .i64 r.1) ∧ cur[o + k * 2 + 1]? = some (.int .i64 (if k < i then (Clip r).2 else r.2))) :
    ∀ (k : Nat) (r : R2),L[k]? = some r → (cur.setIfInBounds (o + i * 2 + 1) (.int .i64 (Clip r0).2))[o + k * 2]? = some (.int .i64 r.1) ∧ (cur.setIfInBounds (o + i * 2 + 1) (.int .i64 (Clip r0).2))[o + k * 2 + 1]? = some (.int .i64 (if k < i + 1 then (Clip r).2 else r.2)) := fun k r hr => by
  obtain ⟨h1,h2⟩ := h k r hr
  rw [Array.getElem?_setIfInBounds,Array.getElem?_setIfInBounds,if_neg (by omega)]
  refine ⟨h1,?_⟩
  by_cases hk : k = i
  · subst hk
    rw [hr] at hr0
    cases hr0
    have hlt := (Array.getElem?_eq_some_iff.1 h2).1
    rw [if_pos rfl,if_pos hlt,if_pos (by omega)]
  · rw [if_neg (by omega),h2]
    by_cases hki : k < i
    · rw [if_pos hki,if_pos (by omega)]
    · rw [if_neg hki,if_neg (by omega)]
set_option maxRecDepth 1000000 in
theorem rarest4_cut : rarest4 = .seq (.seq (Code.region 4 #[⟨some 5,.assign (.const (.int .i64 0)),3,"outright.go:221",#[],none⟩] false) (.block 0 (.loop (.seq (.seq (Code.region 5 #[⟨some 34,.move (.tmp 5),3,"outright.go:221",#[],none⟩,⟨some 35,.fieldAddr 30 (.tmp 4) 2,0,"outright.go:221",#[],none⟩,⟨some 36,.load 28 (.tmp 35),28,"outright.go:221",#[⟨1,.data⟩],none⟩,⟨some 37,.call { callee := .builtin .len,args := #[.tmp 36],argTypes := #[28] },3,"outright.go:221",#[⟨2,.data⟩],none⟩,⟨some 38,.binOp .lss 3 (.tmp 34) (.tmp 37) 3,4,"outright.go:221",#[⟨0,.data⟩,⟨3,.data⟩],none⟩] false) (.cond (.tmp 38) .skip (.exit 0))) (.seq (.block 1 (Code.region 7 #[⟨some 41,.fieldAddr 30 (.tmp 4) 2,0,"outright.go:222",#[],none⟩,⟨some 42,.load 28 (.tmp 41),28,"outright.go:222",#[⟨0,.data⟩],none⟩,⟨some 43,.move (.tmp 5),3,"outright.go:222",#[],none⟩,⟨some 44,.fieldAddr 30 (.tmp 4) 2,0,"outright.go:222",#[],none⟩,⟨some 45,.load 28 (.tmp 44),28,"outright.go:222",#[⟨3,.data⟩],none⟩,⟨some 46,.move (.tmp 5),3,"outright.go:222",#[],none⟩,⟨some 47,.indexAddr 28 (.tmp 45) (.tmp 46),0,"outright.go:222",#[⟨4,.data⟩,⟨5,.data⟩],none⟩,⟨some 48,.fieldAddr 23 (.tmp 47) 1,0,"outright.go:222",#[⟨6,.data⟩],none⟩,⟨some 49,.load 3 (.tmp 48),3,"outright.go:222",#[⟨7,.data⟩],none⟩,⟨some 50,.fieldAddr 30 (.tmp 4) 2,0,"outright.go:222",#[],none⟩,⟨some 51,.load 28 (.tmp 50),28,"outright.go:222",#[⟨9,.data⟩],none⟩,⟨some 52,.move (.tmp 5),3,"outright.go:222",#[],none⟩,⟨some 53,.indexAddr 28 (.tmp 51) (.tmp 52),0,"outright.go:222",#[⟨10,.data⟩,⟨11,.data⟩],none⟩,⟨some 54,.fieldAddr 23 (.tmp 53) 0,0,"outright.go:222",#[⟨12,.data⟩],none⟩,⟨some 55,.load 3 (.tmp 54),3,"outright.go:222",#[⟨13,.data⟩],none⟩,⟨some 56,.binOp .add 3 (.tmp 55) (.const (.int .i64 2)) 3,3,"outright.go:222",#[⟨14,.data⟩],none⟩,⟨some 57,.call { callee := .builtin .min,args := #[.tmp 49,.tmp 56],argTypes := #[3,3] },3,"outright.go:222",#[⟨8,.data⟩,⟨15,.data⟩],none⟩,⟨some 58,.indexAddr 28 (.tmp 42) (.tmp 43),0,"outright.go:222",#[⟨1,.data⟩,⟨2,.data⟩,⟨0,.phase⟩,⟨1,.phase⟩,⟨2,.phase⟩,⟨3,.phase⟩,⟨4,.phase⟩,⟨5,.phase⟩,⟨6,.phase⟩,⟨7,.phase⟩,⟨8,.phase⟩,⟨9,.phase⟩,⟨10,.phase⟩,⟨11,.phase⟩,⟨12,.phase⟩,⟨13,.phase⟩,⟨14,.phase⟩,⟨15,.phase⟩,⟨16,.phase⟩],none⟩,⟨some 59,.fieldAddr 23 (.tmp 58) 1,0,"outright.go:222",#[⟨17,.data⟩,⟨0,.phase⟩,⟨1,.phase⟩,⟨2,.phase⟩,⟨3,.phase⟩,⟨4,.phase⟩,⟨5,.phase⟩,⟨6,.phase⟩,⟨7,.phase⟩,⟨8,.phase⟩,⟨9,.phase⟩,⟨10,.phase⟩,⟨11,.phase⟩,⟨12,.phase⟩,⟨13,.phase⟩,⟨14,.phase⟩,⟨15,.phase⟩,⟨16,.phase⟩],none⟩,⟨none,.store 3 (.tmp 59) (.tmp 57),0,"outright.go:222",#[⟨18,.data⟩,⟨16,.data⟩,⟨0,.phase⟩,⟨1,.phase⟩,⟨2,.phase⟩,⟨3,.phase⟩,⟨4,.phase⟩,⟨5,.phase⟩,⟨6,.phase⟩,⟨7,.phase⟩,⟨8,.phase⟩,⟨9,.phase⟩,⟨10,.phase⟩,⟨11,.phase⟩,⟨12,.phase⟩,⟨13,.phase⟩,⟨14,.phase⟩,⟨15,.phase⟩,⟨16,.phase⟩],none⟩] true)) (Code.region 6 #[⟨some 39,.move (.tmp 5),3,"outright.go:221",#[],none⟩,⟨some 40,.binOp .add 3 (.tmp 39) (.const (.int .i64 1)) 3,3,"outright.go:221",#[⟨0,.data⟩],none⟩,⟨some 5,.assign (.tmp 40),3,"outright.go:221",#[⟨1,.data⟩,⟨0,.phase⟩,⟨1,.phase⟩],none⟩] false)))))) rarest5 := by kernel_rfl
set_option maxHeartbeats 9000000 in
set_option maxRecDepth 1000000 in
theorem rar7 {w0 w : World} {b g4 g o : Nat} {J : Jb} {jn jc i : Nat} {cur : Array Value} {r1 r2 : Int} {Q : Exit → Act → World → Prop} {u0 u1 u2 u6 u7 u8 u9 A0 A1 A2 A3 A4 A5 A6 A7 A8 A9 Aa Ab Ac Ad Ae Af Ag Ah Ai Aj Ak Al Am An Ao Ap Aq Ar As At Au Av Aw Ax Ay Az C0 C1 C2 C3 C4 C5 C6 C7 C8 C9 Ca Cb Cc Cd Ce Cf Cg Ch Ci Cj Ck Cl Cm Cn Co Cp Cq Cr Cs Ct Cu Cv Cw Cx Cy Cz D0 D1 D2 D3 D4 D5 D6 D7 D8 D9 Da Db Dc Dd De Df Dg Dh Di Dj Dk Dl Dm Dn Do Dp Dq Dr Ds Dt Du Dv Dw Dx Dy Dz E0 E1 E2 E3 E4 E5 E6 E7 E8 E9 Ea Eb Ec Ed Ee Ef Eg Eh Ei Ej Ek El Em En Eo Ep Eq Er Es Et Eu Ev Ew Ex Ey Ez F0 F1 F2 F3 F4 F5 F6 F7 F8 F9 Fa Fb Fc Fd Fe Ff Fg Fh Fi Fj Fk Fl Fm Fn Fo Fp Fq Fr Fs Ft Fu Fv Fw Fx Fy Fz L0 L1 L2 L3 L4 L5 L6 L7 L8 L9 La Lb Lc Ld Le Lf Lg Lh Li Lj Lk Ll Lm Ln Lo Lp Lq Lr Ls Lt Lu Lv Lw Lx Ly Lz M0 M1 M2 M3 M4 M5 M6 M7 M8 M9 Ma Mb Mc Md Me Mf Mg Mh Mi Mj Mk Ml Mm Mn Mo Mp : Value} (hs : H9 w0 w b g4 J (some ⟨g,o,none⟩) jn jc) (hB : Bk w g 23 cur) (hg : w0.heap.size ≤ g ∧ g ≠ b ∧ g ≠ g4) (hc1 : Hid (cur[o + i * 2]? = some (.int .i64 r1))) (hc2 : Hid (cur[o + i * 2 + 1]? = some (.int .i64 r2))) (hr : -100 ≤ r1 ∧ r1 ≤ 100) (hi : i < jn) (hK : ∀ w' : World,H9 w0 w' b g4 J (some ⟨g,o,none⟩) jn jc → Bk w' g 23 (cur.setIfInBounds (o + i * 2 + 1) (.int .i64 (mn r2 (r1 + 2)))) → ∀ (S7 S8 S9 Sa Sb Sc Sd Se Sf Sg Sh Si Sj Sk Sl Sm Sn So Sp : Value),Q .normal ⟨#[u0,u1,u2,(.pointer (some ⟨b,0,none⟩)),(.pointer (some ⟨g4,0,none⟩)),(.int .i64 (↑i : Int)),u6,u7,u8,u9,A0,A1,A2,A3,A4,A5,A6,A7,A8,A9,Aa,Ab,Ac,Ad,Ae,Af,Ag,Ah,Ai,Aj,Ak,Al,Am,An,Ao,Ap,Aq,Ar,As,At,Au,S7,S8,S9,Sa,Sb,Sc,Sd,Se,Sf,Sg,Sh,Si,Sj,Sk,Sl,Sm,Sn,So,Sp,Ce,Cf,Cg,Ch,Ci,Cj,Ck,Cl,Cm,Cn,Co,Cp,Cq,Cr,Cs,Ct,Cu,Cv,Cw,Cx,Cy,Cz,D0,D1,D2,D3,D4,D5,D6,D7,D8,D9,Da,Db,Dc,Dd,De,Df,Dg,Dh,Di,Dj,Dk,Dl,Dm,Dn,Do,Dp,Dq,Dr,Ds,Dt,Du,Dv,Dw,Dx,Dy,Dz,E0,E1,E2,E3,E4,E5,E6,E7,E8,E9,Ea,Eb,Ec,Ed,Ee,Ef,Eg,Eh,Ei,Ej,Ek,El,Em,En,Eo,Ep,Eq,Er,Es,Et,Eu,Ev,Ew,Ex,Ey,Ez,F0,F1,F2,F3,F4,F5,F6,F7,F8,F9,Fa,Fb,Fc,Fd,Fe,Ff,Fg,Fh,Fi,Fj,Fk,Fl,Fm,Fn,Fo,Fp,Fq,Fr,Fs,Ft,Fu,Fv,Fw,Fx,Fy,Fz,L0,L1,L2,L3,L4,L5,L6,L7,L8,L9,La,Lb,Lc,Ld,Le,Lf,Lg,Lh,Li,Lj,Lk,Ll,Lm,Ln,Lo,Lp,Lq,Lr,Ls,Lt,Lu,Lv,Lw,Lx,Ly,Lz,M0,M1,M2,M3,M4,M5,M6,M7,M8,M9,Ma,Mb,Mc,Md,Me,Mf,Mg,Mh,Mi,Mj,Mk,Ml,Mm,Mn,Mo,Mp],[]⟩ w') : Code.wp Try.prog (Code.region 7 #[⟨some 41,.fieldAddr 30 (.tmp 4) 2,0,"outright.go:222",#[],none⟩,⟨some 42,.load 28 (.tmp 41),28,"outright.go:222",#[⟨0,.data⟩],none⟩,⟨some 43,.move (.tmp 5),3,"outright.go:222",#[],none⟩,⟨some 44,.fieldAddr 30 (.tmp 4) 2,0,"outright.go:222",#[],none⟩,⟨some 45,.load 28 (.tmp 44),28,"outright.go:222",#[⟨3,.data⟩],none⟩,⟨some 46,.move (.tmp 5),3,"outright.go:222",#[],none⟩,⟨some 47,.indexAddr 28 (.tmp 45) (.tmp 46),0,"outright.go:222",#[⟨4,.data⟩,⟨5,.data⟩],none⟩,⟨some 48,.fieldAddr 23 (.tmp 47) 1,0,"outright.go:222",#[⟨6,.data⟩],none⟩,⟨some 49,.load 3 (.tmp 48),3,"outright.go:222",#[⟨7,.data⟩],none⟩,⟨some 50,.fieldAddr 30 (.tmp 4) 2,0,"outright.go:222",#[],none⟩,⟨some 51,.load 28 (.tmp 50),28,"outright.go:222",#[⟨9,.data⟩],none⟩,⟨some 52,.move (.tmp 5),3,"outright.go:222",#[],none⟩,⟨some 53,.indexAddr 28 (.tmp 51) (.tmp 52),0,"outright.go:222",#[⟨10,.data⟩,⟨11,.data⟩],none⟩,⟨some 54,.fieldAddr 23 (.tmp 53) 0,0,"outright.go:222",#[⟨12,.data⟩],none⟩,⟨some 55,.load 3 (.tmp 54),3,"outright.go:222",#[⟨13,.data⟩],none⟩,⟨some 56,.binOp .add 3 (.tmp 55) (.const (.int .i64 2)) 3,3,"outright.go:222",#[⟨14,.data⟩],none⟩,⟨some 57,.call { callee := .builtin .min,args := #[.tmp 49,.tmp 56],argTypes := #[3,3] },3,"outright.go:222",#[⟨8,.data⟩,⟨15,.data⟩],none⟩,⟨some 58,.indexAddr 28 (.tmp 42) (.tmp 43),0,"outright.go:222",#[⟨1,.data⟩,⟨2,.data⟩,⟨0,.phase⟩,⟨1,.phase⟩,⟨2,.phase⟩,⟨3,.phase⟩,⟨4,.phase⟩,⟨5,.phase⟩,⟨6,.phase⟩,⟨7,.phase⟩,⟨8,.phase⟩,⟨9,.phase⟩,⟨10,.phase⟩,⟨11,.phase⟩,⟨12,.phase⟩,⟨13,.phase⟩,⟨14,.phase⟩,⟨15,.phase⟩,⟨16,.phase⟩],none⟩,⟨some 59,.fieldAddr 23 (.tmp 58) 1,0,"outright.go:222",#[⟨17,.data⟩,⟨0,.phase⟩,⟨1,.phase⟩,⟨2,.phase⟩,⟨3,.phase⟩,⟨4,.phase⟩,⟨5,.phase⟩,⟨6,.phase⟩,⟨7,.phase⟩,⟨8,.phase⟩,⟨9,.phase⟩,⟨10,.phase⟩,⟨11,.phase⟩,⟨12,.phase⟩,⟨13,.phase⟩,⟨14,.phase⟩,⟨15,.phase⟩,⟨16,.phase⟩],none⟩,⟨none,.store 3 (.tmp 59) (.tmp 57),0,"outright.go:222",#[⟨18,.data⟩,⟨16,.data⟩,⟨0,.phase⟩,⟨1,.phase⟩,⟨2,.phase⟩,⟨3,.phase⟩,⟨4,.phase⟩,⟨5,.phase⟩,⟨6,.phase⟩,⟨7,.phase⟩,⟨8,.phase⟩,⟨9,.phase⟩,⟨10,.phase⟩,⟨11,.phase⟩,⟨12,.phase⟩,⟨13,.phase⟩,⟨14,.phase⟩,⟨15,.phase⟩,⟨16,.phase⟩],none⟩] true) Q ⟨#[u0,u1,u2,(.pointer (some ⟨b,0,none⟩)),(.pointer (some ⟨g4,0,none⟩)),(.int .i64 (↑i : Int)),u6,u7,u8,u9,A0,A1,A2,A3,A4,A5,A6,A7,A8,A9,Aa,Ab,Ac,Ad,Ae,Af,Ag,Ah,Ai,Aj,Ak,Al,Am,An,Ao,Ap,Aq,Ar,As,At,Au,Av,Aw,Ax,Ay,Az,C0,C1,C2,C3,C4,C5,C6,C7,C8,C9,Ca,Cb,Cc,Cd,Ce,Cf,Cg,Ch,Ci,Cj,Ck,Cl,Cm,Cn,Co,Cp,Cq,Cr,Cs,Ct,Cu,Cv,Cw,Cx,Cy,Cz,D0,D1,D2,D3,D4,D5,D6,D7,D8,D9,Da,Db,Dc,Dd,De,Df,Dg,Dh,Di,Dj,Dk,Dl,Dm,Dn,Do,Dp,Dq,Dr,Ds,Dt,Du,Dv,Dw,Dx,Dy,Dz,E0,E1,E2,E3,E4,E5,E6,E7,E8,E9,Ea,Eb,Ec,Ed,Ee,Ef,Eg,Eh,Ei,Ej,Ek,El,Em,En,Eo,Ep,Eq,Er,Es,Et,Eu,Ev,Ew,Ex,Ey,Ez,F0,F1,F2,F3,F4,F5,F6,F7,F8,F9,Fa,Fb,Fc,Fd,Fe,Ff,Fg,Fh,Fi,Fj,Fk,Fl,Fm,Fn,Fo,Fp,Fq,Fr,Fs,Ft,Fu,Fv,Fw,Fx,Fy,Fz,L0,L1,L2,L3,L4,L5,L6,L7,L8,L9,La,Lb,Lc,Ld,Le,Lf,Lg,Lh,Li,Lj,Lk,Ll,Lm,Ln,Lo,Lp,Lq,Lr,Ls,Lt,Lu,Lv,Lw,Lx,Ly,Lz,M0,M1,M2,M3,M4,M5,M6,M7,M8,M9,Ma,Mb,Mc,Md,Me,Mf,Mg,Mh,Mi,Mj,Mk,Ml,Mm,Mn,Mo,Mp],[]⟩ w := by
  obtain ⟨m,hm⟩ : ∃ m,m = mn r2 (r1 + 2) := ⟨_,rfl⟩
  have HM1 := hidMk (show (if r1 + 2 < r2 then r1 + 2 else r2) = m from hm.symm)
  have HM2 := hidMk (show min r2 (r1 + 2) = m by rw [hm]; unfold mn; split <;> omega)
  have w1 : IntKind.i64.wrap (r1 + 2) = r1 + 2 := IntWalk.i64_in _ (by omega)
  rw [← hm] at hK
  have HK := hidMk hK
  have hi1 : (i : Int) < (jn : Int) := by omega
  clear hm hK
  refine region_via (R := fun a_ e_ a' w' => e_ = .normal ∧ ∃ (S7 S8 S9 Sa Sb Sc Sd Se Sf Sg Sh Si Sj Sk Sl Sm Sn So Sp : Value),a' = (((((((((((((((((((a_.put (some 41) S7).put (some 42) S8).put (some 43) S9).put (some 44) Sa).put (some 45) Sb).put (some 46) Sc).put (some 47) Sd).put (some 48) Se).put (some 49) Sf).put (some 50) Sg).put (some 51) Sh).put (some 52) Si).put (some 53) Sj).put (some 54) Sk).put (some 55) Sl).put (some 56) Sm).put (some 57) Sn).put (some 58) So).put (some 59) Sp) ∧ H9 w0 w' b g4 J (some ⟨g,o,none⟩) jn jc ∧ Bk w' g 23 (cur.setIfInBounds (o + i * 2 + 1) (.int .i64 m))) ?_ ?_
  rotate_left
  · rintro e_ a' w' ⟨rfl,S7,S8,S9,Sa,Sb,Sc,Sd,Se,Sf,Sg,Sh,Si,Sj,Sk,Sl,Sm,Sn,So,Sp,rfl,h1,h2⟩
    simp only [Act.put,aT,aZ,aS]
    exact HK.out _ h1 h2 _ _ _ _ _ _ _ _ _ _ _ _ _ _ _ _ _ _ _ 
  have HH := hidMk (hs.next (Below.refl _ _).drew)
  have hS := HH.out.job
  have hB_ : Bk w.drew g 23 cur := hB
  clear hs hB
  have hB := hB_
  clear hB_
  refine wp_region_held_drew (S := (fun w' => Bk w' g4 30 (jobC J (.slice (some ⟨g,o,none⟩) jn jc)))) (by kernel_rfl) hS (fun hS0 => ?_)
  clear hS0
  generalize w.drew = wd at hS hB HH ⊢
  refine wpAnyH_take (i := 0) (v := ?_) rfl (by kernel_rfl) (by kernel_rfl) (by kernel_rfl) (fun _ _ _ h => by cases h.1) (.inl ⟨by rfl,?_⟩) (by assumption) ?_
  rotate_left
  · (intro w' hSw; (try dsimp only at hSw); skip; go_simp <;> with_reducible rfl)
  (try simp only [Act.put,aT,aZ,aS])
  refine wpAnyH_take (i := 1) (v := ?_) rfl (by kernel_rfl) (by kernel_rfl) (by kernel_rfl) (fun _ _ _ h => by cases h.1) (.inl ⟨by rfl,?_⟩) (by assumption) ?_
  rotate_left
  · (intro w' hSw; (try dsimp only at hSw); (have q0 := hSw.at_ 15 (.slice (some ⟨g,o,none⟩) jn jc) rfl); go_simp <;> with_reducible rfl)
  (try simp only [Act.put,aT,aZ,aS])
  refine wpAnyH_take (i := 2) (v := ?_) rfl (by kernel_rfl) (by kernel_rfl) (by kernel_rfl) (fun _ _ _ h => by cases h.1) (.inl ⟨by rfl,?_⟩) (by assumption) ?_
  rotate_left
  · (intro w' hSw; (try dsimp only at hSw); skip; go_simp <;> with_reducible rfl)
  (try simp only [Act.put,aT,aZ,aS])
  refine wpAnyH_take (i := 3) (v := ?_) rfl (by kernel_rfl) (by kernel_rfl) (by kernel_rfl) (fun _ _ _ h => by cases h.1) (.inl ⟨by rfl,?_⟩) (by assumption) ?_
  rotate_left
  · (intro w' hSw; (try dsimp only at hSw); skip; go_simp <;> with_reducible rfl)
  (try simp only [Act.put,aT,aZ,aS])
  refine wpAnyH_take (i := 4) (v := ?_) rfl (by kernel_rfl) (by kernel_rfl) (by kernel_rfl) (fun _ _ _ h => by cases h.1) (.inl ⟨by rfl,?_⟩) (by assumption) ?_
  rotate_left
  · (intro w' hSw; (try dsimp only at hSw); (have q0 := hSw.at_ 15 (.slice (some ⟨g,o,none⟩) jn jc) rfl); go_simp <;> with_reducible rfl)
  (try simp only [Act.put,aT,aZ,aS])
  refine wpAnyH_take (i := 5) (v := ?_) rfl (by kernel_rfl) (by kernel_rfl) (by kernel_rfl) (fun _ _ _ h => by cases h.1) (.inl ⟨by rfl,?_⟩) (by assumption) ?_
  rotate_left
  · (intro w' hSw; (try dsimp only at hSw); skip; go_simp <;> with_reducible rfl)
  (try simp only [Act.put,aT,aZ,aS])
  refine wpAnyH_take (i := 6) (v := ?_) rfl (by kernel_rfl) (by kernel_rfl) (by kernel_rfl) (fun _ _ _ h => by cases h.1) (.inl ⟨by rfl,?_⟩) (by assumption) ?_
  rotate_left
  · (intro w' hSw; (try dsimp only at hSw); skip; go_simp <;> with_reducible rfl)
  (try simp only [Act.put,aT,aZ,aS])
  refine wpAnyH_take (i := 7) (v := ?_) rfl (by kernel_rfl) (by kernel_rfl) (by kernel_rfl) (fun _ _ _ h => by cases h.1) (.inl ⟨by rfl,?_⟩) (by assumption) ?_
  rotate_left
  · (intro w' hSw; (try dsimp only at hSw); skip; go_simp <;> with_reducible rfl)
  (try simp only [Act.put,aT,aZ,aS])
  refine wpAnyH_take (i := 9) (v := ?_) rfl (by kernel_rfl) (by kernel_rfl) (by kernel_rfl) (fun _ _ _ h => by cases h.1) (.inl ⟨by rfl,?_⟩) (by assumption) ?_
  rotate_left
  · (intro w' hSw; (try dsimp only at hSw); skip; go_simp <;> with_reducible rfl)
  (try simp only [Act.put,aT,aZ,aS])
  refine wpAnyH_take (i := 10) (v := ?_) rfl (by kernel_rfl) (by kernel_rfl) (by kernel_rfl) (fun _ _ _ h => by cases h.1) (.inl ⟨by rfl,?_⟩) (by assumption) ?_
  rotate_left
  · (intro w' hSw; (try dsimp only at hSw); (have q0 := hSw.at_ 15 (.slice (some ⟨g,o,none⟩) jn jc) rfl); go_simp <;> with_reducible rfl)
  (try simp only [Act.put,aT,aZ,aS])
  refine wpAnyH_take (i := 11) (v := ?_) rfl (by kernel_rfl) (by kernel_rfl) (by kernel_rfl) (fun _ _ _ h => by cases h.1) (.inl ⟨by rfl,?_⟩) (by assumption) ?_
  rotate_left
  · (intro w' hSw; (try dsimp only at hSw); skip; go_simp <;> with_reducible rfl)
  (try simp only [Act.put,aT,aZ,aS])
  refine wpAnyH_take (i := 12) (v := ?_) rfl (by kernel_rfl) (by kernel_rfl) (by kernel_rfl) (fun _ _ _ h => by cases h.1) (.inl ⟨by rfl,?_⟩) (by assumption) ?_
  rotate_left
  · (intro w' hSw; (try dsimp only at hSw); skip; go_simp <;> with_reducible rfl)
  (try simp only [Act.put,aT,aZ,aS])
  refine wpAnyH_take (i := 13) (v := ?_) rfl (by kernel_rfl) (by kernel_rfl) (by kernel_rfl) (fun _ _ _ h => by cases h.1) (.inl ⟨by rfl,?_⟩) (by assumption) ?_
  rotate_left
  · (intro w' hSw; (try dsimp only at hSw); skip; go_simp <;> with_reducible rfl)
  (try simp only [Act.put,aT,aZ,aS])
  refine wpAnyH_ready (rs := [8,14]) (by kernel_rfl) (by simp) ?_
  refine AllReadyH.cons rfl (fun K hK => ?_) ?_
  · have z := hB.at_ (o + i * 2 + 1) (.int .i64 r2) hc2.out
    go_simp
    refine hK.out _ _ hS (fun _ => ?_)
    clear z
    clear hK K
    (try simp only [Act.put,aT,aZ,aS])
    refine wpAnyH_ready (rs := [14]) (by kernel_rfl) (by simp) ?_
    refine AllReadyH.cons rfl (fun K hK => ?_) ?_
    · have z := hB.at_ (o + i * 2) (.int .i64 r1) hc1.out
      go_simp
      refine hK.out _ _ hS (fun _ => ?_)
      clear z
      clear hK K
      (try simp only [Act.put,aT,aZ,aS])
      refine wpAnyH_take (i := 15) (v := ?_) rfl (by kernel_rfl) (by kernel_rfl) (by kernel_rfl) (fun _ _ _ h => by cases h.1) (.inl ⟨by rfl,?_⟩) (by assumption) ?_
      rotate_left
      · (intro w' hSw; (try dsimp only at hSw); skip; go_simp <;> with_reducible rfl)
      (try simp only [Act.put,aT,aZ,aS])
      refine wpAnyH_take (i := 16) (v := ?_) rfl (by kernel_rfl) (by kernel_rfl) (by kernel_rfl) (fun _ _ _ h => by cases h.1) (.inl ⟨by rfl,?_⟩) (by assumption) ?_
      rotate_left
      · (intro w' hSw; (try dsimp only at hSw); (have q9 := HM1.out; have q8 := HM2.out); go_simp <;> with_reducible rfl)
      (try simp only [Act.put,aT,aZ,aS])
      refine wpAnyH_take (i := 17) (v := ?_) rfl (by kernel_rfl) (by kernel_rfl) (by kernel_rfl) (fun _ _ _ h => by cases h.1) (.inl ⟨by rfl,?_⟩) (by assumption) ?_
      rotate_left
      · (intro w' hSw; (try dsimp only at hSw); skip; go_simp <;> with_reducible rfl)
      (try simp only [Act.put,aT,aZ,aS])
      refine wpAnyH_take (i := 18) (v := ?_) rfl (by kernel_rfl) (by kernel_rfl) (by kernel_rfl) (fun _ _ _ h => by cases h.1) (.inl ⟨by rfl,?_⟩) (by assumption) ?_
      rotate_left
      · (intro w' hSw; (try dsimp only at hSw); skip; go_simp <;> with_reducible rfl)
      (try simp only [Act.put,aT,aZ,aS])
      refine wpAnyH_ready (rs := [19]) (by kernel_rfl) (by simp) ?_
      refine AllReadyH.cons rfl (fun K hK => ?_) ?_
      · have z := hB.at_ (o + i * 2 + 1) (.int .i64 r2) hc2.out
        have fz := hB.free (o + i * 2 + 1)
        go_simp
        have hS_ : Bk (wd.setCell ⟨g,o + i * 2 + 1,none⟩ (.int .i64 m)) g4 30 (jobC J (.slice (some ⟨g,o,none⟩) jn jc)) := hS.other (p := ⟨g,o + i * 2 + 1,none⟩) (fun e => hg.2.2 e.symm) (.int .i64 m)
        have hB_ := hB.put (o + i * 2 + 1) (.int .i64 m)
        have hH_ := HH.out.own hg (o + i * 2 + 1) (.int .i64 m)
        refine hK.out _ _ hS_ (fun _ => ?_)
        clear z fz hS hB
        clear hK K
        (try simp only [Act.put,aT,aZ,aS])
        refine wpAnyH_done (by kernel_rfl) ?_ _
        exact ⟨rfl,_,_,_,_,_,_,_,_,_,_,_,_,_,_,_,_,_,_,_,rfl,hH_,hB_⟩
      exact AllReadyH.nil
    exact AllReadyH.nil
  refine AllReadyH.cons rfl (fun K hK => ?_) ?_
  · have z := hB.at_ (o + i * 2) (.int .i64 r1) hc1.out
    go_simp
    refine hK.out _ _ hS (fun _ => ?_)
    clear z
    clear hK K
    (try simp only [Act.put,aT,aZ,aS])
    refine wpAnyH_take (i := 15) (v := ?_) rfl (by kernel_rfl) (by kernel_rfl) (by kernel_rfl) (fun _ _ _ h => by cases h.1) (.inl ⟨by rfl,?_⟩) (by assumption) ?_
    rotate_left
    · (intro w' hSw; (try dsimp only at hSw); skip; go_simp <;> with_reducible rfl)
    (try simp only [Act.put,aT,aZ,aS])
    refine wpAnyH_ready (rs := [8]) (by kernel_rfl) (by simp) ?_
    refine AllReadyH.cons rfl (fun K hK => ?_) ?_
    · have z := hB.at_ (o + i * 2 + 1) (.int .i64 r2) hc2.out
      go_simp
      refine hK.out _ _ hS (fun _ => ?_)
      clear z
      clear hK K
      (try simp only [Act.put,aT,aZ,aS])
      refine wpAnyH_take (i := 16) (v := ?_) rfl (by kernel_rfl) (by kernel_rfl) (by kernel_rfl) (fun _ _ _ h => by cases h.1) (.inl ⟨by rfl,?_⟩) (by assumption) ?_
      rotate_left
      · (intro w' hSw; (try dsimp only at hSw); (have q9 := HM1.out; have q8 := HM2.out); go_simp <;> with_reducible rfl)
      (try simp only [Act.put,aT,aZ,aS])
      refine wpAnyH_take (i := 17) (v := ?_) rfl (by kernel_rfl) (by kernel_rfl) (by kernel_rfl) (fun _ _ _ h => by cases h.1) (.inl ⟨by rfl,?_⟩) (by assumption) ?_
      rotate_left
      · (intro w' hSw; (try dsimp only at hSw); skip; go_simp <;> with_reducible rfl)
      (try simp only [Act.put,aT,aZ,aS])
      refine wpAnyH_take (i := 18) (v := ?_) rfl (by kernel_rfl) (by kernel_rfl) (by kernel_rfl) (fun _ _ _ h => by cases h.1) (.inl ⟨by rfl,?_⟩) (by assumption) ?_
      rotate_left
      · (intro w' hSw; (try dsimp only at hSw); skip; go_simp <;> with_reducible rfl)
      (try simp only [Act.put,aT,aZ,aS])
      refine wpAnyH_ready (rs := [19]) (by kernel_rfl) (by simp) ?_
      refine AllReadyH.cons rfl (fun K hK => ?_) ?_
      · have z := hB.at_ (o + i * 2 + 1) (.int .i64 r2) hc2.out
        have fz := hB.free (o + i * 2 + 1)
        go_simp
        have hS_ : Bk (wd.setCell ⟨g,o + i * 2 + 1,none⟩ (.int .i64 m)) g4 30 (jobC J (.slice (some ⟨g,o,none⟩) jn jc)) := hS.other (p := ⟨g,o + i * 2 + 1,none⟩) (fun e => hg.2.2 e.symm) (.int .i64 m)
        have hB_ := hB.put (o + i * 2 + 1) (.int .i64 m)
        have hH_ := HH.out.own hg (o + i * 2 + 1) (.int .i64 m)
        refine hK.out _ _ hS_ (fun _ => ?_)
        clear z fz hS hB
        clear hK K
        (try simp only [Act.put,aT,aZ,aS])
        refine wpAnyH_done (by kernel_rfl) ?_ _
        exact ⟨rfl,_,_,_,_,_,_,_,_,_,_,_,_,_,_,_,_,_,_,_,rfl,hH_,hB_⟩
      exact AllReadyH.nil
    exact AllReadyH.nil
  exact AllReadyH.nil
set_option maxHeartbeats 9000000 in
set_option maxRecDepth 1000000 in
theorem rapart4 {w0 w : World} {b g4 : Nat} {J : Jb} {ja : Option Addr} {jn jc : Nat} {L : List R2} {u0 u1 u2 u5 u6 u7 u8 u9 A0 A1 A2 A3 A4 A5 A6 A7 A8 A9 Aa Ab Ac Ad Ae Af Ag Ah Ai Aj Ak Al Am An Ao Ap Aq Ar As At Au Av Aw Ax Ay Az C0 C1 C2 C3 C4 C5 C6 C7 C8 C9 Ca Cb Cc Cd Ce Cf Cg Ch Ci Cj Ck Cl Cm Cn Co Cp Cq Cr Cs Ct Cu Cv Cw Cx Cy Cz D0 D1 D2 D3 D4 D5 D6 D7 D8 D9 Da Db Dc Dd De Df Dg Dh Di Dj Dk Dl Dm Dn Do Dp Dq Dr Ds Dt Du Dv Dw Dx Dy Dz E0 E1 E2 E3 E4 E5 E6 E7 E8 E9 Ea Eb Ec Ed Ee Ef Eg Eh Ei Ej Ek El Em En Eo Ep Eq Er Es Et Eu Ev Ew Ex Ey Ez F0 F1 F2 F3 F4 F5 F6 F7 F8 F9 Fa Fb Fc Fd Fe Ff Fg Fh Fi Fj Fk Fl Fm Fn Fo Fp Fq Fr Fs Ft Fu Fv Fw Fx Fy Fz L0 L1 L2 L3 L4 L5 L6 L7 L8 L9 La Lb Lc Ld Le Lf Lg Lh Li Lj Lk Ll Lm Ln Lo Lp Lq Lr Ls Lt Lu Lv Lw Lx Ly Lz M0 M1 M2 M3 M4 M5 M6 M7 M8 M9 Ma Mb Mc Md Me Mf Mg Mh Mi Mj Mk Ml Mm Mn Mo Mp : Value} (htun : TunOK) (hF : ({ J with sh := L.map Clip } : Jb).Full) (hs : H9 w0 w b g4 J ja jn jc) (hsh : SH w0 w b g4 ja L 0) (hjn : jn = L.length ∧ jn ≤ 2) (hJL : True) (h18 : 18 ≤ J.t1 ∧ 18 ≤ J.r1) (hLb : ∀ s ∈ L,-60 ≤ s.1 ∧ s.1 ≤ 60) : Code.wp Try.prog rarest4 (QRA w0) ⟨#[u0,u1,u2,(.pointer (some ⟨b,0,none⟩)),(.pointer (some ⟨g4,0,none⟩)),u5,u6,u7,u8,u9,A0,A1,A2,A3,A4,A5,A6,A7,A8,A9,Aa,Ab,Ac,Ad,Ae,Af,Ag,Ah,Ai,Aj,Ak,Al,Am,An,Ao,Ap,Aq,Ar,As,At,Au,Av,Aw,Ax,Ay,Az,C0,C1,C2,C3,C4,C5,C6,C7,C8,C9,Ca,Cb,Cc,Cd,Ce,Cf,Cg,Ch,Ci,Cj,Ck,Cl,Cm,Cn,Co,Cp,Cq,Cr,Cs,Ct,Cu,Cv,Cw,Cx,Cy,Cz,D0,D1,D2,D3,D4,D5,D6,D7,D8,D9,Da,Db,Dc,Dd,De,Df,Dg,Dh,Di,Dj,Dk,Dl,Dm,Dn,Do,Dp,Dq,Dr,Ds,Dt,Du,Dv,Dw,Dx,Dy,Dz,E0,E1,E2,E3,E4,E5,E6,E7,E8,E9,Ea,Eb,Ec,Ed,Ee,Ef,Eg,Eh,Ei,Ej,Ek,El,Em,En,Eo,Ep,Eq,Er,Es,Et,Eu,Ev,Ew,Ex,Ey,Ez,F0,F1,F2,F3,F4,F5,F6,F7,F8,F9,Fa,Fb,Fc,Fd,Fe,Ff,Fg,Fh,Fi,Fj,Fk,Fl,Fm,Fn,Fo,Fp,Fq,Fr,Fs,Ft,Fu,Fv,Fw,Fx,Fy,Fz,L0,L1,L2,L3,L4,L5,L6,L7,L8,L9,La,Lb,Lc,Ld,Le,Lf,Lg,Lh,Li,Lj,Lk,Ll,Lm,Ln,Lo,Lp,Lq,Lr,Ls,Lt,Lu,Lv,Lw,Lx,Ly,Lz,M0,M1,M2,M3,M4,M5,M6,M7,M8,M9,Ma,Mb,Mc,Md,Me,Mf,Mg,Mh,Mi,Mj,Mk,Ml,Mm,Mn,Mo,Mp],[]⟩ w := by
  rw [rarest4_cut]
  have HT := hidMk htun
  have HF := hidMk hF
  have HS := hidMk hs
  have HSH := hidMk hsh
  have HJ := hidMk hjn
  have HE := hidMk hJL
  have H18 := hidMk h18
  have HLB := hidMk hLb
  clear htun hF hs hsh hjn hJL h18 hLb
  refine wp_seq_k fun K0 hK0 => ?_
  go_wp2_with fail
  refine wp_loop (fun a wr => ∃ (u0 u1 u2 u6 u7 u8 u9 A0 A1 A2 A3 A4 A5 A6 A7 A8 A9 Aa Ab Ac Ad Ae Af Ag Ah Ai Aj Ak Al Am An Ao Ap Aq Ar As At Au Av Aw Ax Ay Az C0 C1 C2 C3 C4 C5 C6 C7 C8 C9 Ca Cb Cc Cd Ce Cf Cg Ch Ci Cj Ck Cl Cm Cn Co Cp Cq Cr Cs Ct Cu Cv Cw Cx Cy Cz D0 D1 D2 D3 D4 D5 D6 D7 D8 D9 Da Db Dc Dd De Df Dg Dh Di Dj Dk Dl Dm Dn Do Dp Dq Dr Ds Dt Du Dv Dw Dx Dy Dz E0 E1 E2 E3 E4 E5 E6 E7 E8 E9 Ea Eb Ec Ed Ee Ef Eg Eh Ei Ej Ek El Em En Eo Ep Eq Er Es Et Eu Ev Ew Ex Ey Ez F0 F1 F2 F3 F4 F5 F6 F7 F8 F9 Fa Fb Fc Fd Fe Ff Fg Fh Fi Fj Fk Fl Fm Fn Fo Fp Fq Fr Fs Ft Fu Fv Fw Fx Fy Fz L0 L1 L2 L3 L4 L5 L6 L7 L8 L9 La Lb Lc Ld Le Lf Lg Lh Li Lj Lk Ll Lm Ln Lo Lp Lq Lr Ls Lt Lu Lv Lw Lx Ly Lz M0 M1 M2 M3 M4 M5 M6 M7 M8 M9 Ma Mb Mc Md Me Mf Mg Mh Mi Mj Mk Ml Mm Mn Mo Mp : Value) (i : Nat),i ≤ jn ∧ Hid (H9 w0 wr b g4 J ja jn jc) ∧ Hid (SH w0 wr b g4 ja L i) ∧ a = ⟨#[u0,u1,u2,(.pointer (some ⟨b,0,none⟩)),(.pointer (some ⟨g4,0,none⟩)),(.int .i64 (↑i : Int)),u6,u7,u8,u9,A0,A1,A2,A3,A4,A5,A6,A7,A8,A9,Aa,Ab,Ac,Ad,Ae,Af,Ag,Ah,Ai,Aj,Ak,Al,Am,An,Ao,Ap,Aq,Ar,As,At,Au,Av,Aw,Ax,Ay,Az,C0,C1,C2,C3,C4,C5,C6,C7,C8,C9,Ca,Cb,Cc,Cd,Ce,Cf,Cg,Ch,Ci,Cj,Ck,Cl,Cm,Cn,Co,Cp,Cq,Cr,Cs,Ct,Cu,Cv,Cw,Cx,Cy,Cz,D0,D1,D2,D3,D4,D5,D6,D7,D8,D9,Da,Db,Dc,Dd,De,Df,Dg,Dh,Di,Dj,Dk,Dl,Dm,Dn,Do,Dp,Dq,Dr,Ds,Dt,Du,Dv,Dw,Dx,Dy,Dz,E0,E1,E2,E3,E4,E5,E6,E7,E8,E9,Ea,Eb,Ec,Ed,Ee,Ef,Eg,Eh,Ei,Ej,Ek,El,Em,En,Eo,Ep,Eq,Er,Es,Et,Eu,Ev,Ew,Ex,Ey,Ez,F0,F1,F2,F3,F4,F5,F6,F7,F8,F9,Fa,Fb,Fc,Fd,Fe,Ff,Fg,Fh,Fi,Fj,Fk,Fl,Fm,Fn,Fo,Fp,Fq,Fr,Fs,Ft,Fu,Fv,Fw,Fx,Fy,Fz,L0,L1,L2,L3,L4,L5,L6,L7,L8,L9,La,Lb,Lc,Ld,Le,Lf,Lg,Lh,Li,Lj,Lk,Ll,Lm,Ln,Lo,Lp,Lq,Lr,Ls,Lt,Lu,Lv,Lw,Lx,Ly,Lz,M0,M1,M2,M3,M4,M5,M6,M7,M8,M9,Ma,Mb,Mc,Md,Me,Mf,Mg,Mh,Mi,Mj,Mk,Ml,Mm,Mn,Mo,Mp],[]⟩) (fun a _ => jn - (intOf (a.tmps.getD 5 undef)).toNat) ?_ ?_
  · exact ⟨_,_,_,_,_,_,_,_,_,_,_,_,_,_,_,_,_,_,_,_,_,_,_,_,_,_,_,_,_,_,_,_,_,_,_,_,_,_,_,_,_,_,_,_,_,_,_,_,_,_,_,_,_,_,_,_,_,_,_,_,_,_,_,_,_,_,_,_,_,_,_,_,_,_,_,_,_,_,_,_,_,_,_,_,_,_,_,_,_,_,_,_,_,_,_,_,_,_,_,_,_,_,_,_,_,_,_,_,_,_,_,_,_,_,_,_,_,_,_,_,_,_,_,_,_,_,_,_,_,_,_,_,_,_,_,_,_,_,_,_,_,_,_,_,_,_,_,_,_,_,_,_,_,_,_,_,_,_,_,_,_,_,_,_,_,_,_,_,_,_,_,_,_,_,_,_,_,_,_,_,_,_,_,_,_,_,_,_,_,_,_,_,_,_,_,_,_,_,_,_,_,_,_,_,_,_,_,_,_,_,_,_,_,_,_,_,_,_,_,_,_,_,_,_,_,_,_,_,_,_,_,_,_,_,_,_,_,_,_,_,_,_,_,_,_,_,_,_,_,0,Nat.zero_le _,HS,HSH,rfl⟩
  · intro a wr h
    obtain ⟨u0,h⟩ := h
    obtain ⟨u1,h⟩ := h
    obtain ⟨u2,h⟩ := h
    obtain ⟨u6,h⟩ := h
    obtain ⟨u7,h⟩ := h
    obtain ⟨u8,h⟩ := h
    obtain ⟨u9,h⟩ := h
    obtain ⟨A0,h⟩ := h
    obtain ⟨A1,h⟩ := h
    obtain ⟨A2,h⟩ := h
    obtain ⟨A3,h⟩ := h
    obtain ⟨A4,h⟩ := h
    obtain ⟨A5,h⟩ := h
    obtain ⟨A6,h⟩ := h
    obtain ⟨A7,h⟩ := h
    obtain ⟨A8,h⟩ := h
    obtain ⟨A9,h⟩ := h
    obtain ⟨Aa,h⟩ := h
    obtain ⟨Ab,h⟩ := h
    obtain ⟨Ac,h⟩ := h
    obtain ⟨Ad,h⟩ := h
    obtain ⟨Ae,h⟩ := h
    obtain ⟨Af,h⟩ := h
    obtain ⟨Ag,h⟩ := h
    obtain ⟨Ah,h⟩ := h
    obtain ⟨Ai,h⟩ := h
    obtain ⟨Aj,h⟩ := h
    obtain ⟨Ak,h⟩ := h
    obtain ⟨Al,h⟩ := h
    obtain ⟨Am,h⟩ := h
    obtain ⟨An,h⟩ := h
    obtain ⟨Ao,h⟩ := h
    obtain ⟨Ap,h⟩ := h
    obtain ⟨Aq,h⟩ := h
    obtain ⟨Ar,h⟩ := h
    obtain ⟨As,h⟩ := h
    obtain ⟨At,h⟩ := h
    obtain ⟨Au,h⟩ := h
    obtain ⟨Av,h⟩ := h
    obtain ⟨Aw,h⟩ := h
    obtain ⟨Ax,h⟩ := h
    obtain ⟨Ay,h⟩ := h
    obtain ⟨Az,h⟩ := h
    obtain ⟨C0,h⟩ := h
    obtain ⟨C1,h⟩ := h
    obtain ⟨C2,h⟩ := h
    obtain ⟨C3,h⟩ := h
    obtain ⟨C4,h⟩ := h
    obtain ⟨C5,h⟩ := h
    obtain ⟨C6,h⟩ := h
    obtain ⟨C7,h⟩ := h
    obtain ⟨C8,h⟩ := h
    obtain ⟨C9,h⟩ := h
    obtain ⟨Ca,h⟩ := h
    obtain ⟨Cb,h⟩ := h
    obtain ⟨Cc,h⟩ := h
    obtain ⟨Cd,h⟩ := h
    obtain ⟨Ce,h⟩ := h
    obtain ⟨Cf,h⟩ := h
    obtain ⟨Cg,h⟩ := h
    obtain ⟨Ch,h⟩ := h
    obtain ⟨Ci,h⟩ := h
    obtain ⟨Cj,h⟩ := h
    obtain ⟨Ck,h⟩ := h
    obtain ⟨Cl,h⟩ := h
    obtain ⟨Cm,h⟩ := h
    obtain ⟨Cn,h⟩ := h
    obtain ⟨Co,h⟩ := h
    obtain ⟨Cp,h⟩ := h
    obtain ⟨Cq,h⟩ := h
    obtain ⟨Cr,h⟩ := h
    obtain ⟨Cs,h⟩ := h
    obtain ⟨Ct,h⟩ := h
    obtain ⟨Cu,h⟩ := h
    obtain ⟨Cv,h⟩ := h
    obtain ⟨Cw,h⟩ := h
    obtain ⟨Cx,h⟩ := h
    obtain ⟨Cy,h⟩ := h
    obtain ⟨Cz,h⟩ := h
    obtain ⟨D0,h⟩ := h
    obtain ⟨D1,h⟩ := h
    obtain ⟨D2,h⟩ := h
    obtain ⟨D3,h⟩ := h
    obtain ⟨D4,h⟩ := h
    obtain ⟨D5,h⟩ := h
    obtain ⟨D6,h⟩ := h
    obtain ⟨D7,h⟩ := h
    obtain ⟨D8,h⟩ := h
    obtain ⟨D9,h⟩ := h
    obtain ⟨Da,h⟩ := h
    obtain ⟨Db,h⟩ := h
    obtain ⟨Dc,h⟩ := h
    obtain ⟨Dd,h⟩ := h
    obtain ⟨De,h⟩ := h
    obtain ⟨Df,h⟩ := h
    obtain ⟨Dg,h⟩ := h
    obtain ⟨Dh,h⟩ := h
    obtain ⟨Di,h⟩ := h
    obtain ⟨Dj,h⟩ := h
    obtain ⟨Dk,h⟩ := h
    obtain ⟨Dl,h⟩ := h
    obtain ⟨Dm,h⟩ := h
    obtain ⟨Dn,h⟩ := h
    obtain ⟨Do,h⟩ := h
    obtain ⟨Dp,h⟩ := h
    obtain ⟨Dq,h⟩ := h
    obtain ⟨Dr,h⟩ := h
    obtain ⟨Ds,h⟩ := h
    obtain ⟨Dt,h⟩ := h
    obtain ⟨Du,h⟩ := h
    obtain ⟨Dv,h⟩ := h
    obtain ⟨Dw,h⟩ := h
    obtain ⟨Dx,h⟩ := h
    obtain ⟨Dy,h⟩ := h
    obtain ⟨Dz,h⟩ := h
    obtain ⟨E0,h⟩ := h
    obtain ⟨E1,h⟩ := h
    obtain ⟨E2,h⟩ := h
    obtain ⟨E3,h⟩ := h
    obtain ⟨E4,h⟩ := h
    obtain ⟨E5,h⟩ := h
    obtain ⟨E6,h⟩ := h
    obtain ⟨E7,h⟩ := h
    obtain ⟨E8,h⟩ := h
    obtain ⟨E9,h⟩ := h
    obtain ⟨Ea,h⟩ := h
    obtain ⟨Eb,h⟩ := h
    obtain ⟨Ec,h⟩ := h
    obtain ⟨Ed,h⟩ := h
    obtain ⟨Ee,h⟩ := h
    obtain ⟨Ef,h⟩ := h
    obtain ⟨Eg,h⟩ := h
    obtain ⟨Eh,h⟩ := h
    obtain ⟨Ei,h⟩ := h
    obtain ⟨Ej,h⟩ := h
    obtain ⟨Ek,h⟩ := h
    obtain ⟨El,h⟩ := h
    obtain ⟨Em,h⟩ := h
    obtain ⟨En,h⟩ := h
    obtain ⟨Eo,h⟩ := h
    obtain ⟨Ep,h⟩ := h
    obtain ⟨Eq,h⟩ := h
    obtain ⟨Er,h⟩ := h
    obtain ⟨Es,h⟩ := h
    obtain ⟨Et,h⟩ := h
    obtain ⟨Eu,h⟩ := h
    obtain ⟨Ev,h⟩ := h
    obtain ⟨Ew,h⟩ := h
    obtain ⟨Ex,h⟩ := h
    obtain ⟨Ey,h⟩ := h
    obtain ⟨Ez,h⟩ := h
    obtain ⟨F0,h⟩ := h
    obtain ⟨F1,h⟩ := h
    obtain ⟨F2,h⟩ := h
    obtain ⟨F3,h⟩ := h
    obtain ⟨F4,h⟩ := h
    obtain ⟨F5,h⟩ := h
    obtain ⟨F6,h⟩ := h
    obtain ⟨F7,h⟩ := h
    obtain ⟨F8,h⟩ := h
    obtain ⟨F9,h⟩ := h
    obtain ⟨Fa,h⟩ := h
    obtain ⟨Fb,h⟩ := h
    obtain ⟨Fc,h⟩ := h
    obtain ⟨Fd,h⟩ := h
    obtain ⟨Fe,h⟩ := h
    obtain ⟨Ff,h⟩ := h
    obtain ⟨Fg,h⟩ := h
    obtain ⟨Fh,h⟩ := h
    obtain ⟨Fi,h⟩ := h
    obtain ⟨Fj,h⟩ := h
    obtain ⟨Fk,h⟩ := h
    obtain ⟨Fl,h⟩ := h
    obtain ⟨Fm,h⟩ := h
    obtain ⟨Fn,h⟩ := h
    obtain ⟨Fo,h⟩ := h
    obtain ⟨Fp,h⟩ := h
    obtain ⟨Fq,h⟩ := h
    obtain ⟨Fr,h⟩ := h
    obtain ⟨Fs,h⟩ := h
    obtain ⟨Ft,h⟩ := h
    obtain ⟨Fu,h⟩ := h
    obtain ⟨Fv,h⟩ := h
    obtain ⟨Fw,h⟩ := h
    obtain ⟨Fx,h⟩ := h
    obtain ⟨Fy,h⟩ := h
    obtain ⟨Fz,h⟩ := h
    obtain ⟨L0,h⟩ := h
    obtain ⟨L1,h⟩ := h
    obtain ⟨L2,h⟩ := h
    obtain ⟨L3,h⟩ := h
    obtain ⟨L4,h⟩ := h
    obtain ⟨L5,h⟩ := h
    obtain ⟨L6,h⟩ := h
    obtain ⟨L7,h⟩ := h
    obtain ⟨L8,h⟩ := h
    obtain ⟨L9,h⟩ := h
    obtain ⟨La,h⟩ := h
    obtain ⟨Lb,h⟩ := h
    obtain ⟨Lc,h⟩ := h
    obtain ⟨Ld,h⟩ := h
    obtain ⟨Le,h⟩ := h
    obtain ⟨Lf,h⟩ := h
    obtain ⟨Lg,h⟩ := h
    obtain ⟨Lh,h⟩ := h
    obtain ⟨Li,h⟩ := h
    obtain ⟨Lj,h⟩ := h
    obtain ⟨Lk,h⟩ := h
    obtain ⟨Ll,h⟩ := h
    obtain ⟨Lm,h⟩ := h
    obtain ⟨Ln,h⟩ := h
    obtain ⟨Lo,h⟩ := h
    obtain ⟨Lp,h⟩ := h
    obtain ⟨Lq,h⟩ := h
    obtain ⟨Lr,h⟩ := h
    obtain ⟨Ls,h⟩ := h
    obtain ⟨Lt,h⟩ := h
    obtain ⟨Lu,h⟩ := h
    obtain ⟨Lv,h⟩ := h
    obtain ⟨Lw,h⟩ := h
    obtain ⟨Lx,h⟩ := h
    obtain ⟨Ly,h⟩ := h
    obtain ⟨Lz,h⟩ := h
    obtain ⟨M0,h⟩ := h
    obtain ⟨M1,h⟩ := h
    obtain ⟨M2,h⟩ := h
    obtain ⟨M3,h⟩ := h
    obtain ⟨M4,h⟩ := h
    obtain ⟨M5,h⟩ := h
    obtain ⟨M6,h⟩ := h
    obtain ⟨M7,h⟩ := h
    obtain ⟨M8,h⟩ := h
    obtain ⟨M9,h⟩ := h
    obtain ⟨Ma,h⟩ := h
    obtain ⟨Mb,h⟩ := h
    obtain ⟨Mc,h⟩ := h
    obtain ⟨Md,h⟩ := h
    obtain ⟨Me,h⟩ := h
    obtain ⟨Mf,h⟩ := h
    obtain ⟨Mg,h⟩ := h
    obtain ⟨Mh,h⟩ := h
    obtain ⟨Mi,h⟩ := h
    obtain ⟨Mj,h⟩ := h
    obtain ⟨Mk,h⟩ := h
    obtain ⟨Ml,h⟩ := h
    obtain ⟨Mm,h⟩ := h
    obtain ⟨Mn,h⟩ := h
    obtain ⟨Mo,h⟩ := h
    obtain ⟨Mp,h⟩ := h
    obtain ⟨i,hi,HSr,HSHr,ha⟩ := h
    subst ha
    have d15 := HSr.out.job.at_ 15 (.slice ja jn jc) rfl
    have wy : IntKind.i64.wrap ((i : Int) + 1) = (i : Int) + 1 := IntWalk.i64_in _ (by have := HJ.out; omega)
    have HWY := hidMk wy
    clear wy
    by_cases hlt : i < jn
    · have hiL : i < L.length := by rw [← HJ.out.1]; exact hlt
      obtain ⟨r,hr⟩ : ∃ r,L[i]? = some r := ⟨_,List.getElem?_eq_getElem hiL⟩
      obtain ⟨g,o,cur,hja,hg,hB,hcs⟩ := HSHr.out (fun e => by rw [e] at hr; simp at hr)
      obtain ⟨c1,c2⟩ := hcs i r hr
      rw [if_neg (by omega)] at c2
      have hrb := HLB.out r (List.mem_of_getElem? hr)
      have hcs2 := hidMk (clip_step hr hcs)
      obtain ⟨r1,r2⟩ := r
      simp only at hrb c1 c2
      have HG := hidMk hg
      have HBB := hidMk hB
      have HC1 := hidMk c1
      have HC2 := hidMk c2
      have HLN := hidMk hr
      have hi1 : (i : Int) < (jn : Int) := by omega
      subst hja
      clear hiL hr hcs c1 c2 hg hB
      go_wp2_with fail
      refine rar7 HSr.out HBB.out HG.out HC1 HC2 (by omega) hlt ?_
      intro w' h1 h2
      have HSr2 := hidMk h1
      have HSHr2 : Hid (SH w0 w' b g4 (some ⟨g,o,none⟩) L (i + 1)) := hidMk (fun _ => ⟨g,o,_,rfl,HG.out,h2,hcs2.out⟩)
      clear h1 h2 d15
      intros
      have wy := HWY.out
      go_wp2_with fail
      have e1 : ((i + 1 : Nat) : Int) = (i : Int) + 1 := by push_cast; rfl
      exact ⟨⟨_,_,_,_,_,_,_,_,_,_,_,_,_,_,_,_,_,_,_,_,_,_,_,_,_,_,_,_,_,_,_,_,_,_,_,_,_,_,_,_,_,_,_,_,_,_,_,_,_,_,_,_,_,_,_,_,_,_,_,_,_,_,_,_,_,_,_,_,_,_,_,_,_,_,_,_,_,_,_,_,_,_,_,_,_,_,_,_,_,_,_,_,_,_,_,_,_,_,_,_,_,_,_,_,_,_,_,_,_,_,_,_,_,_,_,_,_,_,_,_,_,_,_,_,_,_,_,_,_,_,_,_,_,_,_,_,_,_,_,_,_,_,_,_,_,_,_,_,_,_,_,_,_,_,_,_,_,_,_,_,_,_,_,_,_,_,_,_,_,_,_,_,_,_,_,_,_,_,_,_,_,_,_,_,_,_,_,_,_,_,_,_,_,_,_,_,_,_,_,_,_,_,_,_,_,_,_,_,_,_,_,_,_,_,_,_,_,_,_,_,_,_,_,_,_,_,_,_,_,_,_,_,_,_,_,_,_,_,_,_,_,_,_,_,_,_,_,_,_,i + 1,by omega,HSr2,HSHr2,by rw [e1]⟩,by simp [intOf]; omega⟩
    · obtain rfl : i = jn := by omega
      have hlt' : ¬ (i : Int) < (i : Int) := by omega
      go_wp2_with fail
      have hrg : Rg wr wr.heap.size ja (L.map Clip) := by
        have h := HSHr.out
        have e := HJ.out.1
        rw [e] at h
        exact h.rg
      exact rapart5 (J := { J with sh := L.map Clip }) HT.out HF.out ⟨HSr.out.b0,HSr.out.hb,HSr.out.pt,HSr.out.job,HSr.out.ne⟩ ⟨by rw [HJ.out.1]; simp,HJ.out.2⟩ hrg H18.out (HSHr.out.off4 (fun h e => h (by rw [e]; rfl)))
end Go.Proofs.Ytolabejbhaeddaa
/- The law ReedAll. -/
namespace Go.Proofs.Ytolabejbhaeddaa
set_option linter.all false
open Go.RowKit Go.Great
set_option maxHeartbeats 4000000 in
set_option maxRecDepth 1000000 in
theorem rapart3 {w0 w : World} {b g4 : Nat} {J : Jb} {ja : Option Addr} {jn jc : Nat} {u0 u1 u2 u5 u6 u7 u8 u9 A0 A1 A2 A3 A4 A5 A6 A7 A8 A9 Aa Ab Ac Ad Ae Af Ag Ah Ai Aj Ak Al Am An Ao Ap Aq Ar As At Au Av Aw Ax Ay Az C0 C1 C2 C3 C4 C5 C6 C7 C8 C9 Ca Cb Cc Cd Ce Cf Cg Ch Ci Cj Ck Cl Cm Cn Co Cp Cq Cr Cs Ct Cu Cv Cw Cx Cy Cz D0 D1 D2 D3 D4 D5 D6 D7 D8 D9 Da Db Dc Dd De Df Dg Dh Di Dj Dk Dl Dm Dn Do Dp Dq Dr Ds Dt Du Dv Dw Dx Dy Dz E0 E1 E2 E3 E4 E5 E6 E7 E8 E9 Ea Eb Ec Ed Ee Ef Eg Eh Ei Ej Ek El Em En Eo Ep Eq Er Es Et Eu Ev Ew Ex Ey Ez F0 F1 F2 F3 F4 F5 F6 F7 F8 F9 Fa Fb Fc Fd Fe Ff Fg Fh Fi Fj Fk Fl Fm Fn Fo Fp Fq Fr Fs Ft Fu Fv Fw Fx Fy Fz L0 L1 L2 L3 L4 L5 L6 L7 L8 L9 La Lb Lc Ld Le Lf Lg Lh Li Lj Lk Ll Lm Ln Lo Lp Lq Lr Ls Lt Lu Lv Lw Lx Ly Lz M0 M1 M2 M3 M4 M5 M6 M7 M8 M9 Ma Mb Mc Md Me Mf Mg Mh Mi Mj Mk Ml Mm Mn Mo Mp : Value} (htun : TunOK) (hF : J.Full) (hs : H9 w0 w b g4 J ja jn jc) (hsh : SH w0 w b g4 ja J.sh 0) (hjn : jn = J.sh.length ∧ jn ≤ jc) (h18 : 18 ≤ J.t1 ∧ 18 ≤ J.r1) : Code.wp Try.prog rarest3 (QRA w0) ⟨#[u0,u1,u2,(.pointer (some ⟨b,0,none⟩)),(.pointer (some ⟨g4,0,none⟩)),u5,u6,u7,u8,u9,A0,A1,A2,A3,A4,A5,A6,A7,A8,A9,Aa,Ab,Ac,Ad,Ae,Af,Ag,Ah,Ai,Aj,Ak,Al,Am,An,Ao,Ap,Aq,Ar,As,At,Au,Av,Aw,Ax,Ay,Az,C0,C1,C2,C3,C4,C5,C6,C7,C8,C9,Ca,Cb,Cc,Cd,Ce,Cf,Cg,Ch,Ci,Cj,Ck,Cl,Cm,Cn,Co,Cp,Cq,Cr,Cs,Ct,Cu,Cv,Cw,Cx,Cy,Cz,D0,D1,D2,D3,D4,D5,D6,D7,D8,D9,Da,Db,Dc,Dd,De,Df,Dg,Dh,Di,Dj,Dk,Dl,Dm,Dn,Do,Dp,Dq,Dr,Ds,Dt,Du,Dv,Dw,Dx,Dy,Dz,E0,E1,E2,E3,E4,E5,E6,E7,E8,E9,Ea,Eb,Ec,Ed,Ee,Ef,Eg,Eh,Ei,Ej,Ek,El,Em,En,Eo,Ep,Eq,Er,Es,Et,Eu,Ev,Ew,Ex,Ey,Ez,F0,F1,F2,F3,F4,F5,F6,F7,F8,F9,Fa,Fb,Fc,Fd,Fe,Ff,Fg,Fh,Fi,Fj,Fk,Fl,Fm,Fn,Fo,Fp,Fq,Fr,Fs,Ft,Fu,Fv,Fw,Fx,Fy,Fz,L0,L1,L2,L3,L4,L5,L6,L7,L8,L9,La,Lb,Lc,Ld,Le,Lf,Lg,Lh,Li,Lj,Lk,Ll,Lm,Ln,Lo,Lp,Lq,Lr,Ls,Lt,Lu,Lv,Lw,Lx,Ly,Lz,M0,M1,M2,M3,M4,M5,M6,M7,M8,M9,Ma,Mb,Mc,Md,Me,Mf,Mg,Mh,Mi,Mj,Mk,Ml,Mm,Mn,Mo,Mp],[]⟩ w := by
  rw [rarest3_eq]
  have hF0 := clip_full hF 2
  have hlb : ∀ s ∈ J.sh.take 2,-60 ≤ s.1 ∧ s.1 ≤ 60 := fun s hs => by have := hF.sh s (List.mem_of_mem_take hs); omega
  have HT := hidMk htun
  have HF := hidMk hF0
  have HS := hidMk hs
  have HSH := hidMk (hsh.take 2)
  have HJ := hidMk hjn
  have H18 := hidMk h18
  have HLB := hidMk hlb
  have d15 := hs.job.at_ 15 (.slice ja jn jc) rfl
  have f15 := hs.job.free 15
  have hjc := hjn.2
  have hlen : (J.sh.take 2).length = min 2 jn := by rw [List.length_take,hjn.1]
  have HLEN := hidMk hlen
  clear htun hF0 hs hsh hjn h18 hlb hlen hF
  by_cases h2 : 2 < jn
  · have m2 : min (jn : Int) 2 = 2 := by omega
    have i1 : (2 : Int) ≤ (jc : Int) := by omega
    have i2 : 2 ≤ jc := by omega
    go_wp2_with fail
    exact rapart4 (L := J.sh.take 2) HT.out HF.out (HS.out.put (J' := J) (ja' := ja) (jn' := 2) (jc' := jc) 15 (.slice ja 2 jc) rfl) (HSH.out.put4 15 _) ⟨by rw [HLEN.out]; omega,by omega⟩ trivial H18.out HLB.out
  · have m2 : min (jn : Int) 2 = (jn : Int) := by omega
    have i1 : (jn : Int) ≤ (jc : Int) := by omega
    go_wp2_with fail
    exact rapart4 (L := J.sh.take 2) HT.out HF.out (HS.out.put (J' := J) (ja' := ja) (jn' := jn) (jc' := jc) 15 (.slice ja jn jc) rfl) (HSH.out.put4 15 _) ⟨by rw [HLEN.out]; omega,by omega⟩ trivial H18.out HLB.out
set_option maxHeartbeats 4000000 in
set_option maxRecDepth 1000000 in
theorem rapart2 {w0 w : World} {b : Nat} {u0 u1 u2 u4 u5 u6 u7 u8 u9 A0 A1 A2 A3 A4 A5 A6 A7 A8 A9 Aa Ab Ac Ad Ae Af Ag Ah Ai Aj Ak Al Am An Ao Ap Aq Ar As At Au Av Aw Ax Ay Az C0 C1 C2 C3 C4 C5 C6 C7 C8 C9 Ca Cb Cc Cd Ce Cf Cg Ch Ci Cj Ck Cl Cm Cn Co Cp Cq Cr Cs Ct Cu Cv Cw Cx Cy Cz D0 D1 D2 D3 D4 D5 D6 D7 D8 D9 Da Db Dc Dd De Df Dg Dh Di Dj Dk Dl Dm Dn Do Dp Dq Dr Ds Dt Du Dv Dw Dx Dy Dz E0 E1 E2 E3 E4 E5 E6 E7 E8 E9 Ea Eb Ec Ed Ee Ef Eg Eh Ei Ej Ek El Em En Eo Ep Eq Er Es Et Eu Ev Ew Ex Ey Ez F0 F1 F2 F3 F4 F5 F6 F7 F8 F9 Fa Fb Fc Fd Fe Ff Fg Fh Fi Fj Fk Fl Fm Fn Fo Fp Fq Fr Fs Ft Fu Fv Fw Fx Fy Fz L0 L1 L2 L3 L4 L5 L6 L7 L8 L9 La Lb Lc Ld Le Lf Lg Lh Li Lj Lk Ll Lm Ln Lo Lp Lq Lr Ls Lt Lu Lv Lw Lx Ly Lz M0 M1 M2 M3 M4 M5 M6 M7 M8 M9 Ma Mb Mc Md Me Mf Mg Mh Mi Mj Mk Ml Mm Mn Mo Mp : Value} (htun : TunOK) (hb0 : Below w0.heap.size w0 w) (hbb : w0.heap.size ≤ b) (hp : Pt w b) : Code.wp Try.prog rarest2 (QRA w0) ⟨#[u0,u1,u2,(.pointer (some ⟨b,0,none⟩)),u4,u5,u6,u7,u8,u9,A0,A1,A2,A3,A4,A5,A6,A7,A8,A9,Aa,Ab,Ac,Ad,Ae,Af,Ag,Ah,Ai,Aj,Ak,Al,Am,An,Ao,Ap,Aq,Ar,As,At,Au,Av,Aw,Ax,Ay,Az,C0,C1,C2,C3,C4,C5,C6,C7,C8,C9,Ca,Cb,Cc,Cd,Ce,Cf,Cg,Ch,Ci,Cj,Ck,Cl,Cm,Cn,Co,Cp,Cq,Cr,Cs,Ct,Cu,Cv,Cw,Cx,Cy,Cz,D0,D1,D2,D3,D4,D5,D6,D7,D8,D9,Da,Db,Dc,Dd,De,Df,Dg,Dh,Di,Dj,Dk,Dl,Dm,Dn,Do,Dp,Dq,Dr,Ds,Dt,Du,Dv,Dw,Dx,Dy,Dz,E0,E1,E2,E3,E4,E5,E6,E7,E8,E9,Ea,Eb,Ec,Ed,Ee,Ef,Eg,Eh,Ei,Ej,Ek,El,Em,En,Eo,Ep,Eq,Er,Es,Et,Eu,Ev,Ew,Ex,Ey,Ez,F0,F1,F2,F3,F4,F5,F6,F7,F8,F9,Fa,Fb,Fc,Fd,Fe,Ff,Fg,Fh,Fi,Fj,Fk,Fl,Fm,Fn,Fo,Fp,Fq,Fr,Fs,Ft,Fu,Fv,Fw,Fx,Fy,Fz,L0,L1,L2,L3,L4,L5,L6,L7,L8,L9,La,Lb,Lc,Ld,Le,Lf,Lg,Lh,Li,Lj,Lk,Ll,Lm,Ln,Lo,Lp,Lq,Lr,Ls,Lt,Lu,Lv,Lw,Lx,Ly,Lz,M0,M1,M2,M3,M4,M5,M6,M7,M8,M9,Ma,Mb,Mc,Md,Me,Mf,Mg,Mh,Mi,Mj,Mk,Ml,Mm,Mn,Mo,Mp],[]⟩ w := by
  rw [rarest2_eq]
  have HT := hidMk htun
  have HB0 := hidMk hb0
  have HP := hidMk hp
  clear htun hb0 hp
  go_wp2_with fail
  refine (jobOf_hand 1 1 (by decide) (by decide) b _ HP.out).mono ?_
  rintro e w3 ⟨M,ma,mn_,mc,rfl,hmn,hmg,hck,hk,hp3,hown,h18⟩
  have hlb := HP.out.lt
  have hB3 := HB0.out.trans ((hk.mono HB0.out.size).toBelow hbb)
  have hsz := HB0.out.size
  have HB3 := hidMk hB3
  have HMN := hidMk (And.intro hmn (own_le hown))
  have HCK := hidMk (check_full hck)
  have HP3 := hidMk hp3
  have HSH : Hid (SH w0 w3 b w3.heap.size ma M.sh 0) := hidMk (SH.of_own hown hsz hlb (Nat.le_refl _))
  have H18 := hidMk h18
  clear hk hp3 hmn hmg hck hown h18 hB3
  dsimp only
  go_wp2_with (first | (refine wpList_store_row rfl 30 _ _ rfl w3.heap.size (jobC M (.slice ma mn_ mc)) rfl rfl _ _ (Bk.new _ _ _) szJob rfl (oneJob _ _ _ _) ?_; rw [World.setRow_alloc_new]))
  have q : Below w3.heap.size w3 (w3.alloc (.cells (jobC M (.slice ma mn_ mc)) 30)) := (Below.refl _ _).alloc (Nat.le_refl _) _
  have hlt := HP3.out.lt
  exact rapart3 (J := M) HT.out HCK.out ⟨HB3.out.trans (q.mono HB3.out.size),hbb,HP3.out.below q hlt,Bk.new _ _ _,by omega,HB3.out.size⟩ (HSH.out.alloc _) HMN.out H18.out
set_option maxHeartbeats 4000000 in
set_option maxRecDepth 1000000 in
theorem rapart1 {w0 w : World} {na : Option Addr} {nn nc : Nat} {nl : List Int} {u1 u2 u3 u4 u5 u6 u7 u8 u9 A0 A1 A2 A3 A4 A5 A6 A7 A8 A9 Aa Ab Ac Ad Ae Af Ag Ah Ai Aj Ak Al Am An Ao Ap Aq Ar As At Au Av Aw Ax Ay Az C0 C1 C2 C3 C4 C5 C6 C7 C8 C9 Ca Cb Cc Cd Ce Cf Cg Ch Ci Cj Ck Cl Cm Cn Co Cp Cq Cr Cs Ct Cu Cv Cw Cx Cy Cz D0 D1 D2 D3 D4 D5 D6 D7 D8 D9 Da Db Dc Dd De Df Dg Dh Di Dj Dk Dl Dm Dn Do Dp Dq Dr Ds Dt Du Dv Dw Dx Dy Dz E0 E1 E2 E3 E4 E5 E6 E7 E8 E9 Ea Eb Ec Ed Ee Ef Eg Eh Ei Ej Ek El Em En Eo Ep Eq Er Es Et Eu Ev Ew Ex Ey Ez F0 F1 F2 F3 F4 F5 F6 F7 F8 F9 Fa Fb Fc Fd Fe Ff Fg Fh Fi Fj Fk Fl Fm Fn Fo Fp Fq Fr Fs Ft Fu Fv Fw Fx Fy Fz L0 L1 L2 L3 L4 L5 L6 L7 L8 L9 La Lb Lc Ld Le Lf Lg Lh Li Lj Lk Ll Lm Ln Lo Lp Lq Lr Ls Lt Lu Lv Lw Lx Ly Lz M0 M1 M2 M3 M4 M5 M6 M7 M8 M9 Ma Mb Mc Md Me Mf Mg Mh Mi Mj Mk Ml Mm Mn Mo Mp : Value} (htun : TunOK) (hb0 : Below w0.heap.size w0 w) (hnn : nn = nl.length ∧ nn ≤ 9223372036854775807) (hnl : Is w w.heap.size na nl) : Code.wp Try.prog rarest1 (QRA w0) ⟨#[(.slice na nn nc),u1,u2,u3,u4,u5,u6,u7,u8,u9,A0,A1,A2,A3,A4,A5,A6,A7,A8,A9,Aa,Ab,Ac,Ad,Ae,Af,Ag,Ah,Ai,Aj,Ak,Al,Am,An,Ao,Ap,Aq,Ar,As,At,Au,Av,Aw,Ax,Ay,Az,C0,C1,C2,C3,C4,C5,C6,C7,C8,C9,Ca,Cb,Cc,Cd,Ce,Cf,Cg,Ch,Ci,Cj,Ck,Cl,Cm,Cn,Co,Cp,Cq,Cr,Cs,Ct,Cu,Cv,Cw,Cx,Cy,Cz,D0,D1,D2,D3,D4,D5,D6,D7,D8,D9,Da,Db,Dc,Dd,De,Df,Dg,Dh,Di,Dj,Dk,Dl,Dm,Dn,Do,Dp,Dq,Dr,Ds,Dt,Du,Dv,Dw,Dx,Dy,Dz,E0,E1,E2,E3,E4,E5,E6,E7,E8,E9,Ea,Eb,Ec,Ed,Ee,Ef,Eg,Eh,Ei,Ej,Ek,El,Em,En,Eo,Ep,Eq,Er,Es,Et,Eu,Ev,Ew,Ex,Ey,Ez,F0,F1,F2,F3,F4,F5,F6,F7,F8,F9,Fa,Fb,Fc,Fd,Fe,Ff,Fg,Fh,Fi,Fj,Fk,Fl,Fm,Fn,Fo,Fp,Fq,Fr,Fs,Ft,Fu,Fv,Fw,Fx,Fy,Fz,L0,L1,L2,L3,L4,L5,L6,L7,L8,L9,La,Lb,Lc,Ld,Le,Lf,Lg,Lh,Li,Lj,Lk,Ll,Lm,Ln,Lo,Lp,Lq,Lr,Ls,Lt,Lu,Lv,Lw,Lx,Ly,Lz,M0,M1,M2,M3,M4,M5,M6,M7,M8,M9,Ma,Mb,Mc,Md,Me,Mf,Mg,Mh,Mi,Mj,Mk,Ml,Mm,Mn,Mo,Mp],[]⟩ w := by
  rw [rarest1_eq]
  have HT := hidMk htun
  have HB0 := hidMk hb0
  have HNL := hidMk hnl
  have HNN := hidMk hnn
  clear htun hb0 hnl hnn
  go_wp2_with fail
  refine (newPot_any na nn nc nl _ HNN.out.1 HNN.out.2 HNL.out).mono ?_
  rintro e w1 ⟨s,t,rfl,hb,hB1⟩
  have HP1 := hidMk (show Pt w1 w.heap.size from ⟨_,_,hb⟩)
  have HB1 := hidMk (HB0.out.trans (hB1.mono HB0.out.size))
  have hle := HB0.out.size
  clear hb hB1
  dsimp only
  go_wp2_with fail
  exact rapart2 HT.out HB1.out hle HP1.out
set_option maxHeartbeats 2000000 in
set_option maxRecDepth 1000000 in
theorem all_law_any (htun : TunOK) (na : Option Addr) (nn nc : Nat) (nl : List Int) (w : World) (hnn : nn = nl.length) (hnm : nn ≤ 9223372036854775807) (hnl : Is w w.heap.size na nl) :
    Calls Try.prog 5 #[.slice na nn nc] w fun e w' => e = .returned (.bool true) ∧ Below w.heap.size w w' := by
  have HT := hidMk htun
  have HNN := hidMk (And.intro hnn hnm)
  have HNL := hidMk hnl
  clear htun hnn hnm hnl
  go_enter Try.func5,Try.ntmps5
  show Code.wp Try.prog rabody (QRA w) _ _
  rw [rabody_eq]
  go_wp2_with fail
  exact rapart1 HT.out (Below.refl _ _) HNN.out HNL.out
end Go.Proofs.Ytolabejbhaeddaa
