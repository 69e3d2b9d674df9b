/- Part 15 of the proof: AlV, AlW, Pots. -/
import Derived.Great.Walk
import Derived.Deep.WholeRow
import Derived.Deep.MidRow
import Derived.Test.YtolabejbhaeddaaW14
import Derived.Test.YtolabejbhaeddaaW01
import Derived.Test.YtolabejbhaeddaaW00
/- The law ReedAll: numbers of truths. -/
namespace Go.Proofs.Ytolabejbhaeddaa
set_option linter.all false
open Go.RowKit Go.Great

theorem flen {L : List Int} {F : Int → List (Fd × List Int)} {k c : Nat} (hk : L.length ≤ k) (h : ∀ x ∈ L,(F x).length ≤ c) : (L.flatMap F).length ≤ k * c := by
  induction L generalizing k with
  | nil => simp
  | cons x L ih =>
    rw [List.flatMap_cons,List.length_append]
    have h1 := h x List.mem_cons_self
    cases k with
    | zero => simp at hk
    | succ k =>
      have h2 := ih (k := k) (by simp at hk; omega) (fun y hy => h y (List.mem_cons_of_mem _ hy))
      rw [Nat.add_mul,Nat.one_mul]
      omega
theorem flen2 {L : List Int} {F : Int → List (List Int)} {k c : Nat} (hk : L.length ≤ k) (h : ∀ x ∈ L,(F x).length ≤ c) : (L.flatMap F).length ≤ k * c := by
  induction L generalizing k with
  | nil => simp
  | cons x L ih =>
    rw [List.flatMap_cons,List.length_append]
    have h1 := h x List.mem_cons_self
    cases k with
    | zero => simp at hk
    | succ k =>
      have h2 := ih (k := k) (by simp at hk; omega) (fun y hy => h y (List.mem_cons_of_mem _ hy))
      rw [Nat.add_mul,Nat.one_mul]
      omega
theorem nums_le {a b : Int} {k : Nat} (h : b - a + 1 ≤ (k : Int)) : (nums a b).length ≤ k := by
  rw [nums_len]
  omega
theorem shiftsT_len : ∀ (r : List R2) (acc : List Int),(∀ s ∈ r,-60 ≤ s.1 ∧ s.2 ≤ 60) → (shiftsT r acc).length ≤ 121 ^ r.length
  | [],acc,_ => by simp [shiftsT]
  | s :: r,acc,h => by
    rw [shiftsT,List.length_cons,Nat.pow_succ,Nat.mul_comm]
    have h1 := h s List.mem_cons_self
    exact flen2 (nums_le (by omega)) fun x _ => shiftsT_len r (acc ++ [x]) fun q hq => h q (List.mem_cons_of_mem _ hq)
theorem allT_len {J : Jb} (hF : J.Full) : ∀ (l : List Int) (t : Fd),(∀ s ∈ l,s = 1 ∨ s = 2) → (allT J l t []).length ≤ 169 ^ l.length * 121 ^ J.sh.length
  | [],t,_ => by
    have h := shiftsT_len J.sh [] (fun s hs => by have := hF.sh s hs; omega)
    show ((shiftsT (J.sh.drop 0) []).map _).length ≤ _
    rw [List.length_map,List.drop_zero]
    simpa using h
  | s :: l,t,hl => by
    have hu := hF.u
    have hd := hF.d
    have hx := hF.x
    have hy := hF.y
    have hs := hl s List.mem_cons_self
    rw [allT,List.length_cons,Nat.pow_succ,Nat.mul_comm (169 ^ l.length) 169,Nat.mul_assoc,show 169 = 13 * 13 from rfl,Nat.mul_assoc]
    refine flen (nums_le ?_) fun n _ => flen (nums_le ?_) fun w _ => allT_len hF l _ (fun q hq => hl q (List.mem_cons_of_mem _ hq))
    · rcases hs with rfl | rfl
      · rw [upR_1]; simp only; omega
      · rw [upR_2]; simp only; omega
    · rcases hs with rfl | rfl
      · rw [weR_1]; simp only; omega
      · rw [weR_2]; simp only; omega
theorem rootT_len {J : Jb} (hF : J.Full) (l : List Int) (h12 : ∀ s ∈ l,s = 1 ∨ s = 2) (hl : l.length ≤ 2) (hsh : J.sh.length ≤ 2) : (rootT J l).length ≤ 100000000000000000 := by
  have h1 : (rootT J l).length ≤ 121 * (101 * (101 * (169 ^ l.length * 121 ^ J.sh.length))) := by
    have hp := hF.p
    have ht := hF.t
    have hr := hF.r
    unfold rootT
    exact flen (nums_le (by omega)) fun n _ => flen (nums_le (by omega)) fun t _ => flen (nums_le (by omega)) fun r _ => allT_len hF l _ h12
  have h2 : 169 ^ l.length ≤ 169 ^ 2 := Nat.pow_le_pow_right (by decide) hl
  have h3 : 121 ^ J.sh.length ≤ 121 ^ 2 := Nat.pow_le_pow_right (by decide) hsh
  have h4 := Nat.mul_le_mul h2 h3
  omega
theorem kindE_0 : ∀ (l : List Int),(∀ x ∈ l,x = 1 ∨ x = 2) → kindE l = 0
  | [],_ => rfl
  | y :: l,h => by
    unfold kindE
    rw [if_pos (h y List.mem_cons_self)]
    exact kindE_0 l fun x hx => h x (List.mem_cons_of_mem _ hx)
theorem filed_0 {J : Jb} (hF : J.Full) {l : List Int} (h : ∀ x ∈ l,x = 1 ∨ x = 2) (hl : l.length ≤ 6) : filedE J l = 0 := by
  unfold filedE strokesE
  rw [if_pos hF.check,if_neg (by omega)]
  exact kindE_0 l h
theorem full_ord {J : Jb} (hF : J.Full) : J.Ord := ⟨hF.u.2.1,hF.d.2.1,hF.x.2.1,hF.y.2.1⟩
theorem full_ne {J : Jb} (hF : J.Full) : J.tg.Ne := ⟨hF.p.2.1,hF.t.2.1,hF.r.2.1⟩
theorem en0_ok : en0.Ok := ⟨⟨Int.le_refl _,Int.le_refl _⟩,⟨Int.le_refl _,Int.le_refl _⟩,Int.le_refl _,Int.le_refl _⟩
set_option maxRecDepth 1000000 in
theorem rarest8_cut : rarest8 = .seq (.seq (Code.region 11 #[⟨some 7,.assign (.const (.int .i64 0)),3,"outright.go:227",#[],none⟩] false) (.block 2 (.loop (.seq (.seq (Code.region 12 #[⟨some 110,.move (.tmp 7),3,"outright.go:227",#[],none⟩,⟨some 111,.binOp .lss 3 (.tmp 110) (.const (.int .i64 2)) 3,4,"outright.go:227",#[⟨0,.data⟩],none⟩] false) (.cond (.tmp 111) .skip (.exit 2))) (.seq (.block 3 tb0) (Code.region 13 #[⟨some 112,.move (.tmp 7),3,"outright.go:227",#[],none⟩,⟨some 113,.binOp .add 3 (.tmp 112) (.const (.int .i64 1)) 3,3,"outright.go:227",#[⟨0,.data⟩],none⟩,⟨some 7,.assign (.tmp 113),3,"outright.go:227",#[⟨1,.data⟩,⟨0,.phase⟩,⟨1,.phase⟩],none⟩] false)))))) rarest9 := by kernel_rfl
set_option maxRecDepth 1000000 in
theorem tb0_eq2 : tb0 = .seq (Code.region 14 #[⟨some 8,.alloc 54,0,"outright.go:228",#[],none⟩] false) tb1 := by kernel_rfl
end Go.Proofs.Ytolabejbhaeddaa
/- The law ReedAll: the turns. -/
namespace Go.Proofs.Ytolabejbhaeddaa
set_option linter.all false
open Go.RowKit Go.Great

/-- What lies about between turns. -/
structure HW (w0 w : World) (g4 : Nat) (J : Jb) (ja : Option Addr) (jn jc : Nat) (la : Option Addr) (l : List Int) : Prop where
  b0 : Below w0.heap.size w0 w
  job : Bk w g4 30 (jobC J (.slice ja jn jc))
  rg : Rg w w.heap.size ja J.sh
  is : Is w w.heap.size la l
theorem HW.next {w0 w w' : World} {g4 : Nat} {J : Jb} {ja : Option Addr} {jn jc : Nat} {la : Option Addr} {l : List Int} (h : HW w0 w g4 J ja jn jc la l) (hb : Below w.heap.size w w') : HW w0 w' g4 J ja jn jc la l :=
  ⟨h.b0.trans (hb.mono h.b0.size),h.job.below hb h.job.lt,h.rg.up hb,h.is.up hb⟩
theorem HW.nil {w0 w : World} {g4 : Nat} {J : Jb} {ja : Option Addr} {jn jc : Nat} {la : Option Addr} {l : List Int} (h : HW w0 w g4 J ja jn jc la l) : HW w0 w g4 J ja jn jc none [] := ⟨h.b0,h.job,h.rg,Is.nil _ _ _⟩
def QRA (w0 : World) : Exit → Act → World → Prop := bodyPost Try.prog Try.f5 fun e w' => e = .returned (.bool true) ∧ Below w0.heap.size w0 w'
set_option maxHeartbeats 9000000 in
set_option maxRecDepth 1000000 in
theorem turn_ok {w0 w : World} {g4 : Nat} {J : Jb} {ja : Option Addr} {jn jc : Nat} {la : Option Addr} {ln lc : Nat} {l : List Int} {turn : Int} {Q : Exit → Act → World → Prop} {u0 u1 u2 u3 u5 u8 u9 A0 A1 A2 A3 A4 A5 A6 A7 A8 A9 Aa Ab Ac Ad Ae Af Ag Ah Ai Aj Ak Al Am An Ao Ap Aq Ar As At Au Av Aw Ax Ay Az C0 C1 C2 C3 C4 C5 C6 C7 C8 C9 Ca Cb Cc Cd Ce Cf Cg Ch Ci Cj Ck Cl Cm Cn Co Cp Cq Cr Cs Ct Cu Cv Cw Cx Cy Cz D0 D1 D2 D3 D4 D5 D6 D7 D8 D9 Da Db Dc Dd De Df Dg Dh Di Dj Dk Dl Dm Dn Do Dp Dq Dr Ds Dt Du Dv Dw Dx Dy Dz E0 E1 E2 E3 E4 E5 E6 E7 E8 E9 Ea Eb Ec Ed Ee Ef Eg Eh Ei Ej Ek El Em En Eo Ep Eq Er Es Et Eu Ev Ew Ex Ey Ez F0 F1 F2 F3 F4 F5 F6 F7 F8 F9 Fa Fb Fc Fd Fe Ff Fg Fh Fi Fj Fk Fl Fm Fn Fo Fp Fq Fr Fs Ft Fu Fv Fw Fx Fy Fz L0 L1 L2 L3 L4 L5 L6 L7 L8 L9 La Lb Lc Ld Le Lf Lg Lh Li Lj Lk Ll Lm Ln Lo Lp Lq Lr Ls Lt Lu Lv Lw Lx Ly Lz M0 M1 M2 M3 M4 M5 M6 M7 M8 M9 Ma Mb Mc Md Me Mf Mg Mh Mi Mj Mk Ml Mm Mn Mo Mp : Value} (hs : HW w0 w g4 J ja jn jc la l) (hF : J.Full) (hjn : jn = J.sh.length ∧ jn ≤ 2) (hln : ln = l.length ∧ ln ≤ lc) (h12 : ∀ s ∈ l,s = 1 ∨ s = 2) (hl2 : l.length ≤ 2) (hK : ∀ w' : World,Below w.heap.size w w' → ∀ (u0 u1 u2 u3 u5 u8 u9 A0 A1 A2 A3 A4 A5 A6 A7 A8 A9 Aa Ab Ac Ad Ae Af Ag Ah Ai Aj Ak Al Am An Ao Ap Aq Ar As At Au Av Aw Ax Ay Az C0 C1 C2 C3 C4 C5 C6 C7 C8 C9 Ca Cb Cc Cd Ce Cf Cg Ch Ci Cj Ck Cl Cm Cn Co Cp Cq Cr Cs Ct Cu Cv Cw Cx Cy Cz D0 D1 D2 D3 D4 D5 D6 D7 D8 D9 Da Db Dc Dd De Df Dg Dh Di Dj Dk Dl Dm Dn Do Dp Dq Dr Ds Dt Du Dv Dw Dx Dy Dz E0 E1 E2 E3 E4 E5 E6 E7 E8 E9 Ea Eb Ec Ed Ee Ef Eg Eh Ei Ej Ek El Em En Eo Ep Eq Er Es Et Eu Ev Ew Ex Ey Ez F0 F1 F2 F3 F4 F5 F6 F7 F8 F9 Fa Fb Fc Fd Fe Ff Fg Fh Fi Fj Fk Fl Fm Fn Fo Fp Fq Fr Fs Ft Fu Fv Fw Fx Fy Fz L0 L1 L2 L3 L4 L5 L6 L7 L8 L9 La Lb Lc Ld Le Lf Lg Lh Li Lj Lk Ll Lm Ln Lo Lp Lq Lr Ls Lt Lu Lv Lw Lx Ly Lz M0 M1 M2 M3 M4 M5 M6 M7 M8 M9 Ma Mb Mc Md Me Mf Mg Mh Mi Mj Mk Ml Mm Mn Mo Mp : Value),Q .normal ⟨#[u0,u1,u2,u3,(.pointer (some ⟨g4,0,none⟩)),u5,(.slice none 0 0),(.int .i64 turn),u8,u9,A0,A1,A2,A3,A4,A5,A6,A7,A8,A9,Aa,Ab,Ac,Ad,Ae,Af,Ag,Ah,Ai,Aj,Ak,Al,Am,An,Ao,Ap,Aq,Ar,As,At,Au,Av,Aw,Ax,Ay,Az,C0,C1,C2,C3,C4,C5,C6,C7,C8,C9,Ca,Cb,Cc,Cd,Ce,Cf,Cg,Ch,Ci,Cj,Ck,Cl,Cm,Cn,Co,Cp,Cq,Cr,Cs,Ct,Cu,Cv,Cw,Cx,Cy,Cz,D0,D1,D2,D3,D4,D5,D6,D7,D8,D9,Da,Db,Dc,Dd,De,Df,Dg,Dh,Di,Dj,Dk,Dl,Dm,Dn,Do,Dp,Dq,Dr,Ds,Dt,Du,Dv,Dw,Dx,Dy,Dz,E0,E1,E2,E3,E4,E5,E6,E7,E8,E9,Ea,Eb,Ec,Ed,Ee,Ef,Eg,Eh,Ei,Ej,Ek,El,Em,En,Eo,Ep,Eq,Er,Es,Et,Eu,Ev,Ew,Ex,Ey,Ez,F0,F1,F2,F3,F4,F5,F6,F7,F8,F9,Fa,Fb,Fc,Fd,Fe,Ff,Fg,Fh,Fi,Fj,Fk,Fl,Fm,Fn,Fo,Fp,Fq,Fr,Fs,Ft,Fu,Fv,Fw,Fx,Fy,Fz,L0,L1,L2,L3,L4,L5,L6,L7,L8,L9,La,Lb,Lc,Ld,Le,Lf,Lg,Lh,Li,Lj,Lk,Ll,Lm,Ln,Lo,Lp,Lq,Lr,Ls,Lt,Lu,Lv,Lw,Lx,Ly,Lz,M0,M1,M2,M3,M4,M5,M6,M7,M8,M9,Ma,Mb,Mc,Md,Me,Mf,Mg,Mh,Mi,Mj,Mk,Ml,Mm,Mn,Mo,Mp],[]⟩ w') : Code.wp Try.prog tb0 Q ⟨#[u0,u1,u2,u3,(.pointer (some ⟨g4,0,none⟩)),u5,(.slice la ln lc),(.int .i64 turn),u8,u9,A0,A1,A2,A3,A4,A5,A6,A7,A8,A9,Aa,Ab,Ac,Ad,Ae,Af,Ag,Ah,Ai,Aj,Ak,Al,Am,An,Ao,Ap,Aq,Ar,As,At,Au,Av,Aw,Ax,Ay,Az,C0,C1,C2,C3,C4,C5,C6,C7,C8,C9,Ca,Cb,Cc,Cd,Ce,Cf,Cg,Ch,Ci,Cj,Ck,Cl,Cm,Cn,Co,Cp,Cq,Cr,Cs,Ct,Cu,Cv,Cw,Cx,Cy,Cz,D0,D1,D2,D3,D4,D5,D6,D7,D8,D9,Da,Db,Dc,Dd,De,Df,Dg,Dh,Di,Dj,Dk,Dl,Dm,Dn,Do,Dp,Dq,Dr,Ds,Dt,Du,Dv,Dw,Dx,Dy,Dz,E0,E1,E2,E3,E4,E5,E6,E7,E8,E9,Ea,Eb,Ec,Ed,Ee,Ef,Eg,Eh,Ei,Ej,Ek,El,Em,En,Eo,Ep,Eq,Er,Es,Et,Eu,Ev,Ew,Ex,Ey,Ez,F0,F1,F2,F3,F4,F5,F6,F7,F8,F9,Fa,Fb,Fc,Fd,Fe,Ff,Fg,Fh,Fi,Fj,Fk,Fl,Fm,Fn,Fo,Fp,Fq,Fr,Fs,Ft,Fu,Fv,Fw,Fx,Fy,Fz,L0,L1,L2,L3,L4,L5,L6,L7,L8,L9,La,Lb,Lc,Ld,Le,Lf,Lg,Lh,Li,Lj,Lk,Ll,Lm,Ln,Lo,Lp,Lq,Lr,Ls,Lt,Lu,Lv,Lw,Lx,Ly,Lz,M0,M1,M2,M3,M4,M5,M6,M7,M8,M9,Ma,Mb,Mc,Md,Me,Mf,Mg,Mh,Mi,Mj,Mk,Ml,Mm,Mn,Mo,Mp],[]⟩ w := by
  have hl := hs.job.lt
  have al : Below w.heap.size w (w.alloc (.cells #[.int .i64 0,.int .i64 0,.int .i64 0,.int .i64 0,.int .i64 0,.int .i64 0,.int .i64 0,.int .i64 0,.int .i64 0,.int .i64 0,.int .i64 0] 54)) := (Below.refl _ _).alloc (Nat.le_refl _) _
  have hml : ML w (w.alloc (.cells #[.int .i64 0,.int .i64 0,.int .i64 0,.int .i64 0,.int .i64 0,.int .i64 0,.int .i64 0,.int .i64 0,.int .i64 0,.int .i64 0,.int .i64 0] 54)) g4 w.heap.size J ja jn jc la l :=
    ⟨al,Nat.le_refl _,by simp,hs.job.below al hl,hs.rg.up al,hs.is.up al,by omega,hs.rg.offB (Nat.le_refl _),hs.is.offB (Nat.le_refl _)⟩
  have hEn : Bk (w.alloc (.cells #[.int .i64 0,.int .i64 0,.int .i64 0,.int .i64 0,.int .i64 0,.int .i64 0,.int .i64 0,.int .i64 0,.int .i64 0,.int .i64 0,.int .i64 0] 54)) w.heap.size 54 (enC en0) := Bk.new _ _ _
  have hcap : en0.truths + ((rootT J l).length : Int) ≤ capN := by
    have h := rootT_len hF l h12 hl2 (by omega)
    have e0 : en0.truths = 0 := rfl
    rw [e0]
    show _ ≤ (100000000000000000 : Int)
    omega
  have hq := all_said (full_ord hF) (full_ne hF) hF.wi.1 (fun s hs => (hF.sh s hs).2.1) l h12
  have hc := filed_0 hF h12 (by omega)
  have HML := hidMk hml
  have HEN := hidMk hEn
  have HCAP := hidMk hcap
  have HQ := hidMk hq
  have HC := hidMk hc
  have HF := hidMk hF
  have HJ := hidMk hjn
  have HL := hidMk hln
  have H12 := hidMk h12
  have HK := hidMk hK
  clear hs al hml hEn hcap hq hc hF hjn hln h12 hK
  rw [tb0_eq2]
  go_wp2_with fail
  generalize hg : w.heap.size = bx at HML HEN ⊢
  generalize (w.alloc (.cells #[.int .i64 0,.int .i64 0,.int .i64 0,.int .i64 0,.int .i64 0,.int .i64 0,.int .i64 0,.int .i64 0,.int .i64 0,.int .i64 0,.int .i64 0] 54)) = wA at HML HEN ⊢
  refine mA HML.out HEN.out en0_ok HF.out ⟨HJ.out.1,by have := HJ.out.2; omega⟩ HL.out H12.out (by omega) HCAP.out ?_
  intro w' hp hE
  intros
  have hm := HML.out.pb hp
  exact tbp2 (w0 := w) ⟨hm.b0,hm.job,hm.rg,hm.is,hE⟩ HC.out ⟨HJ.out.1,by have := HJ.out.2; omega⟩ ⟨HL.out.1,by have := HL.out.1; omega⟩ HQ.out HK.out
set_option maxHeartbeats 9000000 in
set_option maxRecDepth 1000000 in
theorem rapart8 {w0 w : World} {g4 : Nat} {J : Jb} {ja : Option Addr} {jn jc : Nat} {la : Option Addr} {ln lc : Nat} {l : List Int} {u0 u1 u2 u3 u5 u7 u8 u9 A0 A1 A2 A3 A4 A5 A6 A7 A8 A9 Aa Ab Ac Ad Ae Af Ag Ah Ai Aj Ak Al Am An Ao Ap Aq Ar As At Au Av Aw Ax Ay Az C0 C1 C2 C3 C4 C5 C6 C7 C8 C9 Ca Cb Cc Cd Ce Cf Cg Ch Ci Cj Ck Cl Cm Cn Co Cp Cq Cr Cs Ct Cu Cv Cw Cx Cy Cz D0 D1 D2 D3 D4 D5 D6 D7 D8 D9 Da Db Dc Dd De Df Dg Dh Di Dj Dk Dl Dm Dn Do Dp Dq Dr Ds Dt Du Dv Dw Dx Dy Dz E0 E1 E2 E3 E4 E5 E6 E7 E8 E9 Ea Eb Ec Ed Ee Ef Eg Eh Ei Ej Ek El Em En Eo Ep Eq Er Es Et Eu Ev Ew Ex Ey Ez F0 F1 F2 F3 F4 F5 F6 F7 F8 F9 Fa Fb Fc Fd Fe Ff Fg Fh Fi Fj Fk Fl Fm Fn Fo Fp Fq Fr Fs Ft Fu Fv Fw Fx Fy Fz L0 L1 L2 L3 L4 L5 L6 L7 L8 L9 La Lb Lc Ld Le Lf Lg Lh Li Lj Lk Ll Lm Ln Lo Lp Lq Lr Ls Lt Lu Lv Lw Lx Ly Lz M0 M1 M2 M3 M4 M5 M6 M7 M8 M9 Ma Mb Mc Md Me Mf Mg Mh Mi Mj Mk Ml Mm Mn Mo Mp : Value} (htun : TunOK) (hs : HW w0 w g4 J ja jn jc la l) (hF : J.Full) (hjn : jn = J.sh.length ∧ jn ≤ 2) (hln : ln = l.length ∧ ln ≤ lc) (h12 : ∀ s ∈ l,s = 1 ∨ s = 2) (hl2 : l.length ≤ 2) : Code.wp Try.prog rarest8 (QRA w0) ⟨#[u0,u1,u2,u3,(.pointer (some ⟨g4,0,none⟩)),u5,(.slice la ln lc),u7,u8,u9,A0,A1,A2,A3,A4,A5,A6,A7,A8,A9,Aa,Ab,Ac,Ad,Ae,Af,Ag,Ah,Ai,Aj,Ak,Al,Am,An,Ao,Ap,Aq,Ar,As,At,Au,Av,Aw,Ax,Ay,Az,C0,C1,C2,C3,C4,C5,C6,C7,C8,C9,Ca,Cb,Cc,Cd,Ce,Cf,Cg,Ch,Ci,Cj,Ck,Cl,Cm,Cn,Co,Cp,Cq,Cr,Cs,Ct,Cu,Cv,Cw,Cx,Cy,Cz,D0,D1,D2,D3,D4,D5,D6,D7,D8,D9,Da,Db,Dc,Dd,De,Df,Dg,Dh,Di,Dj,Dk,Dl,Dm,Dn,Do,Dp,Dq,Dr,Ds,Dt,Du,Dv,Dw,Dx,Dy,Dz,E0,E1,E2,E3,E4,E5,E6,E7,E8,E9,Ea,Eb,Ec,Ed,Ee,Ef,Eg,Eh,Ei,Ej,Ek,El,Em,En,Eo,Ep,Eq,Er,Es,Et,Eu,Ev,Ew,Ex,Ey,Ez,F0,F1,F2,F3,F4,F5,F6,F7,F8,F9,Fa,Fb,Fc,Fd,Fe,Ff,Fg,Fh,Fi,Fj,Fk,Fl,Fm,Fn,Fo,Fp,Fq,Fr,Fs,Ft,Fu,Fv,Fw,Fx,Fy,Fz,L0,L1,L2,L3,L4,L5,L6,L7,L8,L9,La,Lb,Lc,Ld,Le,Lf,Lg,Lh,Li,Lj,Lk,Ll,Lm,Ln,Lo,Lp,Lq,Lr,Ls,Lt,Lu,Lv,Lw,Lx,Ly,Lz,M0,M1,M2,M3,M4,M5,M6,M7,M8,M9,Ma,Mb,Mc,Md,Me,Mf,Mg,Mh,Mi,Mj,Mk,Ml,Mm,Mn,Mo,Mp],[]⟩ w := by
  rw [rarest8_cut]
  have HT := hidMk htun
  have HS := hidMk hs
  have HF := hidMk hF
  have HJ := hidMk hjn
  have HL := hidMk (show (ln = l.length ∧ ln ≤ lc) ∧ (∀ s ∈ l,s = 1 ∨ s = 2) ∧ l.length ≤ 2 from ⟨hln,h12,hl2⟩)
  clear htun hs hF hjn hln h12 hl2
  refine wp_seq_k fun K0 hK0 => ?_
  go_wp2_with fail
  refine wp_loop (fun a wr => ∃ (u0 u1 u2 u3 u5 u8 u9 A0 A1 A2 A3 A4 A5 A6 A7 A8 A9 Aa Ab Ac Ad Ae Af Ag Ah Ai Aj Ak Al Am An Ao Ap Aq Ar As At Au Av Aw Ax Ay Az C0 C1 C2 C3 C4 C5 C6 C7 C8 C9 Ca Cb Cc Cd Ce Cf Cg Ch Ci Cj Ck Cl Cm Cn Co Cp Cq Cr Cs Ct Cu Cv Cw Cx Cy Cz D0 D1 D2 D3 D4 D5 D6 D7 D8 D9 Da Db Dc Dd De Df Dg Dh Di Dj Dk Dl Dm Dn Do Dp Dq Dr Ds Dt Du Dv Dw Dx Dy Dz E0 E1 E2 E3 E4 E5 E6 E7 E8 E9 Ea Eb Ec Ed Ee Ef Eg Eh Ei Ej Ek El Em En Eo Ep Eq Er Es Et Eu Ev Ew Ex Ey Ez F0 F1 F2 F3 F4 F5 F6 F7 F8 F9 Fa Fb Fc Fd Fe Ff Fg Fh Fi Fj Fk Fl Fm Fn Fo Fp Fq Fr Fs Ft Fu Fv Fw Fx Fy Fz L0 L1 L2 L3 L4 L5 L6 L7 L8 L9 La Lb Lc Ld Le Lf Lg Lh Li Lj Lk Ll Lm Ln Lo Lp Lq Lr Ls Lt Lu Lv Lw Lx Ly Lz M0 M1 M2 M3 M4 M5 M6 M7 M8 M9 Ma Mb Mc Md Me Mf Mg Mh Mi Mj Mk Ml Mm Mn Mo Mp : Value) (turn : Int) (la1 : Option Addr) (ln1 lc1 : Nat) (l1 : List Int),(0 ≤ turn ∧ turn ≤ 2) ∧ HW w0 wr g4 J ja jn jc la1 l1 ∧ ((ln1 = l1.length ∧ ln1 ≤ lc1) ∧ (∀ s ∈ l1,s = 1 ∨ s = 2) ∧ l1.length ≤ 2) ∧ a = ⟨#[u0,u1,u2,u3,(.pointer (some ⟨g4,0,none⟩)),u5,(.slice la1 ln1 lc1),(.int .i64 turn),u8,u9,A0,A1,A2,A3,A4,A5,A6,A7,A8,A9,Aa,Ab,Ac,Ad,Ae,Af,Ag,Ah,Ai,Aj,Ak,Al,Am,An,Ao,Ap,Aq,Ar,As,At,Au,Av,Aw,Ax,Ay,Az,C0,C1,C2,C3,C4,C5,C6,C7,C8,C9,Ca,Cb,Cc,Cd,Ce,Cf,Cg,Ch,Ci,Cj,Ck,Cl,Cm,Cn,Co,Cp,Cq,Cr,Cs,Ct,Cu,Cv,Cw,Cx,Cy,Cz,D0,D1,D2,D3,D4,D5,D6,D7,D8,D9,Da,Db,Dc,Dd,De,Df,Dg,Dh,Di,Dj,Dk,Dl,Dm,Dn,Do,Dp,Dq,Dr,Ds,Dt,Du,Dv,Dw,Dx,Dy,Dz,E0,E1,E2,E3,E4,E5,E6,E7,E8,E9,Ea,Eb,Ec,Ed,Ee,Ef,Eg,Eh,Ei,Ej,Ek,El,Em,En,Eo,Ep,Eq,Er,Es,Et,Eu,Ev,Ew,Ex,Ey,Ez,F0,F1,F2,F3,F4,F5,F6,F7,F8,F9,Fa,Fb,Fc,Fd,Fe,Ff,Fg,Fh,Fi,Fj,Fk,Fl,Fm,Fn,Fo,Fp,Fq,Fr,Fs,Ft,Fu,Fv,Fw,Fx,Fy,Fz,L0,L1,L2,L3,L4,L5,L6,L7,L8,L9,La,Lb,Lc,Ld,Le,Lf,Lg,Lh,Li,Lj,Lk,Ll,Lm,Ln,Lo,Lp,Lq,Lr,Ls,Lt,Lu,Lv,Lw,Lx,Ly,Lz,M0,M1,M2,M3,M4,M5,M6,M7,M8,M9,Ma,Mb,Mc,Md,Me,Mf,Mg,Mh,Mi,Mj,Mk,Ml,Mm,Mn,Mo,Mp],[]⟩) (fun a _ => (2 - intOf (a.tmps.getD 7 undef)).toNat) ?_ ?_
  · exact ⟨_,_,_,_,_,_,_,_,_,_,_,_,_,_,_,_,_,_,_,_,_,_,_,_,_,_,_,_,_,_,_,_,_,_,_,_,_,_,_,_,_,_,_,_,_,_,_,_,_,_,_,_,_,_,_,_,_,_,_,_,_,_,_,_,_,_,_,_,_,_,_,_,_,_,_,_,_,_,_,_,_,_,_,_,_,_,_,_,_,_,_,_,_,_,_,_,_,_,_,_,_,_,_,_,_,_,_,_,_,_,_,_,_,_,_,_,_,_,_,_,_,_,_,_,_,_,_,_,_,_,_,_,_,_,_,_,_,_,_,_,_,_,_,_,_,_,_,_,_,_,_,_,_,_,_,_,_,_,_,_,_,_,_,_,_,_,_,_,_,_,_,_,_,_,_,_,_,_,_,_,_,_,_,_,_,_,_,_,_,_,_,_,_,_,_,_,_,_,_,_,_,_,_,_,_,_,_,_,_,_,_,_,_,_,_,_,_,_,_,_,_,_,_,_,_,_,_,_,_,_,_,_,_,_,_,_,_,_,_,_,_,_,_,_,_,_,_,_,_,0,la,ln,lc,l,⟨by decide,by decide⟩,HS.out,HL.out,rfl⟩
  · intro a wr h
    obtain ⟨u0,h⟩ := h
    obtain ⟨u1,h⟩ := h
    obtain ⟨u2,h⟩ := h
    obtain ⟨u3,h⟩ := h
    obtain ⟨u5,h⟩ := h
    obtain ⟨u8,h⟩ := h
    obtain ⟨u9,h⟩ := h
    obtain ⟨A0,h⟩ := h
    obtain ⟨A1,h⟩ := h
    obtain ⟨A2,h⟩ := h
    obtain ⟨A3,h⟩ := h
    obtain ⟨A4,h⟩ := h
    obtain ⟨A5,h⟩ := h
    obtain ⟨A6,h⟩ := h
    obtain ⟨A7,h⟩ := h
    obtain ⟨A8,h⟩ := h
    obtain ⟨A9,h⟩ := h
    obtain ⟨Aa,h⟩ := h
    obtain ⟨Ab,h⟩ := h
    obtain ⟨Ac,h⟩ := h
    obtain ⟨Ad,h⟩ := h
    obtain ⟨Ae,h⟩ := h
    obtain ⟨Af,h⟩ := h
    obtain ⟨Ag,h⟩ := h
    obtain ⟨Ah,h⟩ := h
    obtain ⟨Ai,h⟩ := h
    obtain ⟨Aj,h⟩ := h
    obtain ⟨Ak,h⟩ := h
    obtain ⟨Al,h⟩ := h
    obtain ⟨Am,h⟩ := h
    obtain ⟨An,h⟩ := h
    obtain ⟨Ao,h⟩ := h
    obtain ⟨Ap,h⟩ := h
    obtain ⟨Aq,h⟩ := h
    obtain ⟨Ar,h⟩ := h
    obtain ⟨As,h⟩ := h
    obtain ⟨At,h⟩ := h
    obtain ⟨Au,h⟩ := h
    obtain ⟨Av,h⟩ := h
    obtain ⟨Aw,h⟩ := h
    obtain ⟨Ax,h⟩ := h
    obtain ⟨Ay,h⟩ := h
    obtain ⟨Az,h⟩ := h
    obtain ⟨C0,h⟩ := h
    obtain ⟨C1,h⟩ := h
    obtain ⟨C2,h⟩ := h
    obtain ⟨C3,h⟩ := h
    obtain ⟨C4,h⟩ := h
    obtain ⟨C5,h⟩ := h
    obtain ⟨C6,h⟩ := h
    obtain ⟨C7,h⟩ := h
    obtain ⟨C8,h⟩ := h
    obtain ⟨C9,h⟩ := h
    obtain ⟨Ca,h⟩ := h
    obtain ⟨Cb,h⟩ := h
    obtain ⟨Cc,h⟩ := h
    obtain ⟨Cd,h⟩ := h
    obtain ⟨Ce,h⟩ := h
    obtain ⟨Cf,h⟩ := h
    obtain ⟨Cg,h⟩ := h
    obtain ⟨Ch,h⟩ := h
    obtain ⟨Ci,h⟩ := h
    obtain ⟨Cj,h⟩ := h
    obtain ⟨Ck,h⟩ := h
    obtain ⟨Cl,h⟩ := h
    obtain ⟨Cm,h⟩ := h
    obtain ⟨Cn,h⟩ := h
    obtain ⟨Co,h⟩ := h
    obtain ⟨Cp,h⟩ := h
    obtain ⟨Cq,h⟩ := h
    obtain ⟨Cr,h⟩ := h
    obtain ⟨Cs,h⟩ := h
    obtain ⟨Ct,h⟩ := h
    obtain ⟨Cu,h⟩ := h
    obtain ⟨Cv,h⟩ := h
    obtain ⟨Cw,h⟩ := h
    obtain ⟨Cx,h⟩ := h
    obtain ⟨Cy,h⟩ := h
    obtain ⟨Cz,h⟩ := h
    obtain ⟨D0,h⟩ := h
    obtain ⟨D1,h⟩ := h
    obtain ⟨D2,h⟩ := h
    obtain ⟨D3,h⟩ := h
    obtain ⟨D4,h⟩ := h
    obtain ⟨D5,h⟩ := h
    obtain ⟨D6,h⟩ := h
    obtain ⟨D7,h⟩ := h
    obtain ⟨D8,h⟩ := h
    obtain ⟨D9,h⟩ := h
    obtain ⟨Da,h⟩ := h
    obtain ⟨Db,h⟩ := h
    obtain ⟨Dc,h⟩ := h
    obtain ⟨Dd,h⟩ := h
    obtain ⟨De,h⟩ := h
    obtain ⟨Df,h⟩ := h
    obtain ⟨Dg,h⟩ := h
    obtain ⟨Dh,h⟩ := h
    obtain ⟨Di,h⟩ := h
    obtain ⟨Dj,h⟩ := h
    obtain ⟨Dk,h⟩ := h
    obtain ⟨Dl,h⟩ := h
    obtain ⟨Dm,h⟩ := h
    obtain ⟨Dn,h⟩ := h
    obtain ⟨Do,h⟩ := h
    obtain ⟨Dp,h⟩ := h
    obtain ⟨Dq,h⟩ := h
    obtain ⟨Dr,h⟩ := h
    obtain ⟨Ds,h⟩ := h
    obtain ⟨Dt,h⟩ := h
    obtain ⟨Du,h⟩ := h
    obtain ⟨Dv,h⟩ := h
    obtain ⟨Dw,h⟩ := h
    obtain ⟨Dx,h⟩ := h
    obtain ⟨Dy,h⟩ := h
    obtain ⟨Dz,h⟩ := h
    obtain ⟨E0,h⟩ := h
    obtain ⟨E1,h⟩ := h
    obtain ⟨E2,h⟩ := h
    obtain ⟨E3,h⟩ := h
    obtain ⟨E4,h⟩ := h
    obtain ⟨E5,h⟩ := h
    obtain ⟨E6,h⟩ := h
    obtain ⟨E7,h⟩ := h
    obtain ⟨E8,h⟩ := h
    obtain ⟨E9,h⟩ := h
    obtain ⟨Ea,h⟩ := h
    obtain ⟨Eb,h⟩ := h
    obtain ⟨Ec,h⟩ := h
    obtain ⟨Ed,h⟩ := h
    obtain ⟨Ee,h⟩ := h
    obtain ⟨Ef,h⟩ := h
    obtain ⟨Eg,h⟩ := h
    obtain ⟨Eh,h⟩ := h
    obtain ⟨Ei,h⟩ := h
    obtain ⟨Ej,h⟩ := h
    obtain ⟨Ek,h⟩ := h
    obtain ⟨El,h⟩ := h
    obtain ⟨Em,h⟩ := h
    obtain ⟨En,h⟩ := h
    obtain ⟨Eo,h⟩ := h
    obtain ⟨Ep,h⟩ := h
    obtain ⟨Eq,h⟩ := h
    obtain ⟨Er,h⟩ := h
    obtain ⟨Es,h⟩ := h
    obtain ⟨Et,h⟩ := h
    obtain ⟨Eu,h⟩ := h
    obtain ⟨Ev,h⟩ := h
    obtain ⟨Ew,h⟩ := h
    obtain ⟨Ex,h⟩ := h
    obtain ⟨Ey,h⟩ := h
    obtain ⟨Ez,h⟩ := h
    obtain ⟨F0,h⟩ := h
    obtain ⟨F1,h⟩ := h
    obtain ⟨F2,h⟩ := h
    obtain ⟨F3,h⟩ := h
    obtain ⟨F4,h⟩ := h
    obtain ⟨F5,h⟩ := h
    obtain ⟨F6,h⟩ := h
    obtain ⟨F7,h⟩ := h
    obtain ⟨F8,h⟩ := h
    obtain ⟨F9,h⟩ := h
    obtain ⟨Fa,h⟩ := h
    obtain ⟨Fb,h⟩ := h
    obtain ⟨Fc,h⟩ := h
    obtain ⟨Fd,h⟩ := h
    obtain ⟨Fe,h⟩ := h
    obtain ⟨Ff,h⟩ := h
    obtain ⟨Fg,h⟩ := h
    obtain ⟨Fh,h⟩ := h
    obtain ⟨Fi,h⟩ := h
    obtain ⟨Fj,h⟩ := h
    obtain ⟨Fk,h⟩ := h
    obtain ⟨Fl,h⟩ := h
    obtain ⟨Fm,h⟩ := h
    obtain ⟨Fn,h⟩ := h
    obtain ⟨Fo,h⟩ := h
    obtain ⟨Fp,h⟩ := h
    obtain ⟨Fq,h⟩ := h
    obtain ⟨Fr,h⟩ := h
    obtain ⟨Fs,h⟩ := h
    obtain ⟨Ft,h⟩ := h
    obtain ⟨Fu,h⟩ := h
    obtain ⟨Fv,h⟩ := h
    obtain ⟨Fw,h⟩ := h
    obtain ⟨Fx,h⟩ := h
    obtain ⟨Fy,h⟩ := h
    obtain ⟨Fz,h⟩ := h
    obtain ⟨L0,h⟩ := h
    obtain ⟨L1,h⟩ := h
    obtain ⟨L2,h⟩ := h
    obtain ⟨L3,h⟩ := h
    obtain ⟨L4,h⟩ := h
    obtain ⟨L5,h⟩ := h
    obtain ⟨L6,h⟩ := h
    obtain ⟨L7,h⟩ := h
    obtain ⟨L8,h⟩ := h
    obtain ⟨L9,h⟩ := h
    obtain ⟨La,h⟩ := h
    obtain ⟨Lb,h⟩ := h
    obtain ⟨Lc,h⟩ := h
    obtain ⟨Ld,h⟩ := h
    obtain ⟨Le,h⟩ := h
    obtain ⟨Lf,h⟩ := h
    obtain ⟨Lg,h⟩ := h
    obtain ⟨Lh,h⟩ := h
    obtain ⟨Li,h⟩ := h
    obtain ⟨Lj,h⟩ := h
    obtain ⟨Lk,h⟩ := h
    obtain ⟨Ll,h⟩ := h
    obtain ⟨Lm,h⟩ := h
    obtain ⟨Ln,h⟩ := h
    obtain ⟨Lo,h⟩ := h
    obtain ⟨Lp,h⟩ := h
    obtain ⟨Lq,h⟩ := h
    obtain ⟨Lr,h⟩ := h
    obtain ⟨Ls,h⟩ := h
    obtain ⟨Lt,h⟩ := h
    obtain ⟨Lu,h⟩ := h
    obtain ⟨Lv,h⟩ := h
    obtain ⟨Lw,h⟩ := h
    obtain ⟨Lx,h⟩ := h
    obtain ⟨Ly,h⟩ := h
    obtain ⟨Lz,h⟩ := h
    obtain ⟨M0,h⟩ := h
    obtain ⟨M1,h⟩ := h
    obtain ⟨M2,h⟩ := h
    obtain ⟨M3,h⟩ := h
    obtain ⟨M4,h⟩ := h
    obtain ⟨M5,h⟩ := h
    obtain ⟨M6,h⟩ := h
    obtain ⟨M7,h⟩ := h
    obtain ⟨M8,h⟩ := h
    obtain ⟨M9,h⟩ := h
    obtain ⟨Ma,h⟩ := h
    obtain ⟨Mb,h⟩ := h
    obtain ⟨Mc,h⟩ := h
    obtain ⟨Md,h⟩ := h
    obtain ⟨Me,h⟩ := h
    obtain ⟨Mf,h⟩ := h
    obtain ⟨Mg,h⟩ := h
    obtain ⟨Mh,h⟩ := h
    obtain ⟨Mi,h⟩ := h
    obtain ⟨Mj,h⟩ := h
    obtain ⟨Mk,h⟩ := h
    obtain ⟨Ml,h⟩ := h
    obtain ⟨Mm,h⟩ := h
    obtain ⟨Mn,h⟩ := h
    obtain ⟨Mo,h⟩ := h
    obtain ⟨Mp,h⟩ := h
    obtain ⟨turn,la1,ln1,lc1,l1,ht,hs1,hl1,ha⟩ := h
    subst ha
    have HS1 := hidMk hs1
    have HL1 := hidMk hl1
    have wy : IntKind.i64.wrap (turn + 1) = turn + 1 := IntWalk.i64_in _ (by omega)
    have HWY := hidMk wy
    clear hs1 hl1 wy
    by_cases hlt : turn < 2
    · go_wp2_with fail
      refine turn_ok HS1.out HF.out HJ.out HL1.out.1 HL1.out.2.1 HL1.out.2.2 ?_
      intro w' hb
      have HS2 := hidMk (HS1.out.next hb).nil
      clear hb
      intros
      have wy := HWY.out
      go_wp2_with fail
      exact ⟨⟨_,_,_,_,_,_,_,_,_,_,_,_,_,_,_,_,_,_,_,_,_,_,_,_,_,_,_,_,_,_,_,_,_,_,_,_,_,_,_,_,_,_,_,_,_,_,_,_,_,_,_,_,_,_,_,_,_,_,_,_,_,_,_,_,_,_,_,_,_,_,_,_,_,_,_,_,_,_,_,_,_,_,_,_,_,_,_,_,_,_,_,_,_,_,_,_,_,_,_,_,_,_,_,_,_,_,_,_,_,_,_,_,_,_,_,_,_,_,_,_,_,_,_,_,_,_,_,_,_,_,_,_,_,_,_,_,_,_,_,_,_,_,_,_,_,_,_,_,_,_,_,_,_,_,_,_,_,_,_,_,_,_,_,_,_,_,_,_,_,_,_,_,_,_,_,_,_,_,_,_,_,_,_,_,_,_,_,_,_,_,_,_,_,_,_,_,_,_,_,_,_,_,_,_,_,_,_,_,_,_,_,_,_,_,_,_,_,_,_,_,_,_,_,_,_,_,_,_,_,_,_,_,_,_,_,_,_,_,_,_,_,_,_,_,_,_,_,_,_,turn + 1,none,0,0,[],⟨by omega,by omega⟩,HS2.out,⟨⟨rfl,Nat.le_refl _⟩,by simp,by simp⟩,rfl⟩,by simp [intOf]; omega⟩
    · go_wp2_with fail
      rw [rarest9_eq]
      go_wp2_with (go_at_call 8; refine (HT.out _).mono ?_; rintro e w9 ⟨rfl,hb9⟩)
      go_ret
      exact ⟨rfl,HS1.out.b0.trans (hb9.mono HS1.out.b0.size)⟩
end Go.Proofs.Ytolabejbhaeddaa
/- The contract of NewPot: a new block with one number; nothing else is changed. -/
namespace Go.Proofs.Ytolabejbhaeddaa
set_option linter.all false
open Go.RowKit
set_option maxHeartbeats 1000000 in
theorem newPot_any (a : Option Addr) (n c : Nat) (l : List Int) (w : World) (hn : n = l.length) (hm : n ≤ 9223372036854775807) (h : Is w w.heap.size a l) :
    Calls Try.prog 9 #[.slice a n c] w fun e w' => ∃ s t,e = .returned (.pointer (some ⟨w.heap.size,0,none⟩)) ∧ Bk w' w.heap.size t #[.int .u64 s] ∧ Below w.heap.size w w' := by
  have Hn : Hid (n = l.length) := hn
  have Hh : Hid (Is w w.heap.size a l) := h
  clear hn h
  go_enter Try.func9,Try.ntmps9
  go_wp2
  go_loopw [4] (fun i wr => ∃ (k : Nat) (s : Int) (t : TypeId),k ≤ n ∧ i = .int .i64 k ∧ Bk wr w.heap.size t #[.int .u64 s] ∧ Below w.heap.size w wr) (fun i _ => n - (intOf i).toNat)
  case atStart => exact ⟨0,_,_,Nat.zero_le _,rfl,Bk.new w _ _,(Below.refl _ _).alloc (Nat.le_refl _) _⟩
  case round =>
    obtain ⟨k,s,t,hk,rfl,hb,hB⟩ := hrel
    have c0 := hb.at_ 0 _ rfl
    have f0 := hb.free 0
    have hl := hb.lt
    by_cases hlt : k < n
    · have hkl : k < l.length := by rw [← Hn.out]; exact hlt
      obtain ⟨b,off,rfl,hbl,e0⟩ := Hh.out k l[k] (List.getElem?_eq_getElem hkl)
      replace e0 := (hB.cell (p := ⟨b,off + k,none⟩) hbl).trans e0
      obtain ⟨x,hx⟩ : ∃ x,l[k] = x := ⟨_,rfl⟩
      rw [hx] at e0
      have hne : b ≠ w.heap.size := by omega
      have hne' : w.heap.size ≠ b := by omega
      have i0 : (0 : Int) ≤ ↑k := by omega
      have i1 : (↑k : Int) < ↑n := by omega
      have HB := hidMk hB
      have Hb := hidMk hb
      clear hB hb hx hbl Hh Hn hkl
      go_wp2
      go_region
      clear e0 hne hne'
      obtain ⟨s1,hs1⟩ : ∃ s1,IntKind.u64.wrap (bits BinOp.xor IntKind.u64 s (IntKind.u64.wrap x) * 15485907386658061715) = s1 := ⟨_,rfl⟩
      rw [hs1]
      clear hs1
      go_wp2
      go_region
      go_wp2
      go_roundw
      case rel =>
        exact ⟨k + 1,_,t,by omega,by go_num,((Hb.out.put1 _).put1 _),((HB.out.setCell (Nat.le_refl _) _).setCell (Nat.le_refl _) _).drew.drew⟩
      case measure => simp [intOf]; omega
    · obtain rfl : k = n := by omega
      go_wp2
      go_ret
      exact ⟨s,t,rfl,hb,hB⟩
end Go.Proofs.Ytolabejbhaeddaa
