/- Part 14 of the proof: AlU. -/
import Derived.Great.Walk
import Derived.Deep.WholeRow
import Derived.Deep.MidRow
import Derived.Test.YtolabejbhaeddaaW13
import Derived.Test.YtolabejbhaeddaaW01
import Derived.Test.YtolabejbhaeddaaW12
/- The law ReedAll: all truths are gone through. -/
namespace Go.Proofs.Ytolabejbhaeddaa
set_option linter.all false
open Go.RowKit Go.Great

/-- What lies about while truths are gone through. -/
structure ML (w0 w : World) (g4 bx : Nat) (J : Jb) (ja : Option Addr) (jn jc : Nat) (la : Option Addr) (l : List Int) : Prop where
  b0 : Below w0.heap.size w0 w
  hbx : w0.heap.size ≤ bx
  bl : bx < w.heap.size
  job : Bk w g4 30 (jobC J (.slice ja jn jc))
  rg : Rg w w.heap.size ja J.sh
  is : Is w w.heap.size la l
  ne : g4 ≠ bx
  off : (J.sh ≠ [] → Off ja bx) ∧ (l ≠ [] → Off la bx)
theorem ML.pb {w0 w w' : World} {g4 bx : Nat} {J : Jb} {ja : Option Addr} {jn jc : Nat} {la : Option Addr} {l : List Int} (h : ML w0 w g4 bx J ja jn jc la l) (hk : PB bx w.heap.size w w') : ML w0 w' g4 bx J ja jn jc la l :=
  ⟨h.b0.trans ((hk.mono h.b0.size).toBelow h.hbx),h.hbx,Nat.lt_of_lt_of_le h.bl hk.size,h.job.pb hk h.job.lt h.ne,(h.rg.pbo h.off.1 hk).hi2 hk.size,(h.is.pbo h.off.2 hk).hi2 hk.size,h.ne,h.off⟩
noncomputable def nA : Code := navC [0,1,0,0,1,0,0] tb1
noncomputable def nB : Code := navC [1,0,0,1,0,0] nA
set_option maxRecDepth 1000000 in
theorem tb1_cut : tb1 = .seq (.seq (Code.region 15 #[⟨some 114,.fieldAddr 30 (.tmp 4) 0,0,"outright.go:229",#[],none⟩,⟨some 115,.fieldAddr 25 (.tmp 114) 0,0,"outright.go:229",#[⟨0,.data⟩],none⟩,⟨some 116,.fieldAddr 23 (.tmp 115) 0,0,"outright.go:229",#[⟨1,.data⟩],none⟩,⟨some 117,.load 3 (.tmp 116),3,"outright.go:229",#[⟨2,.data⟩],none⟩,⟨some 9,.assign (.tmp 117),3,"outright.go:229",#[⟨3,.data⟩,⟨0,.phase⟩,⟨1,.phase⟩,⟨2,.phase⟩,⟨3,.phase⟩],none⟩] false) (.block 4 (.loop (.seq (.seq (Code.region 16 #[⟨some 118,.move (.tmp 9),3,"outright.go:229",#[],none⟩,⟨some 119,.fieldAddr 30 (.tmp 4) 0,0,"outright.go:229",#[],none⟩,⟨some 120,.fieldAddr 25 (.tmp 119) 0,0,"outright.go:229",#[⟨1,.data⟩],none⟩,⟨some 121,.fieldAddr 23 (.tmp 120) 1,0,"outright.go:229",#[⟨2,.data⟩],none⟩,⟨some 122,.load 3 (.tmp 121),3,"outright.go:229",#[⟨3,.data⟩],none⟩,⟨some 123,.binOp .leq 3 (.tmp 118) (.tmp 122) 3,4,"outright.go:229",#[⟨0,.data⟩,⟨4,.data⟩],none⟩] false) (.cond (.tmp 123) .skip (.exit 4))) (.seq (.block 5 nA) (Code.region 17 #[⟨some 124,.move (.tmp 9),3,"outright.go:229",#[],none⟩,⟨some 125,.binOp .add 3 (.tmp 124) (.const (.int .i64 1)) 3,3,"outright.go:229",#[⟨0,.data⟩],none⟩,⟨some 9,.assign (.tmp 125),3,"outright.go:229",#[⟨1,.data⟩,⟨0,.phase⟩,⟨1,.phase⟩],none⟩] false)))))) tb2 := by kernel_rfl
set_option maxRecDepth 1000000 in
theorem nA_eq : nA = (.seq (Code.region 18 #[⟨some 126,.fieldAddr 30 (.tmp 4) 0,0,"outright.go:230",#[],none⟩,⟨some 127,.fieldAddr 25 (.tmp 126) 1,0,"outright.go:230",#[⟨0,.data⟩],none⟩,⟨some 128,.fieldAddr 23 (.tmp 127) 0,0,"outright.go:230",#[⟨1,.data⟩],none⟩,⟨some 129,.load 3 (.tmp 128),3,"outright.go:230",#[⟨2,.data⟩],none⟩,⟨some 10,.assign (.tmp 129),3,"outright.go:230",#[⟨3,.data⟩,⟨0,.phase⟩,⟨1,.phase⟩,⟨2,.phase⟩,⟨3,.phase⟩],none⟩] false) (.block 6 (.loop (.seq (.seq (Code.region 19 #[⟨some 130,.move (.tmp 10),3,"outright.go:230",#[],none⟩,⟨some 131,.fieldAddr 30 (.tmp 4) 0,0,"outright.go:230",#[],none⟩,⟨some 132,.fieldAddr 25 (.tmp 131) 1,0,"outright.go:230",#[⟨1,.data⟩],none⟩,⟨some 133,.fieldAddr 23 (.tmp 132) 1,0,"outright.go:230",#[⟨2,.data⟩],none⟩,⟨some 134,.load 3 (.tmp 133),3,"outright.go:230",#[⟨3,.data⟩],none⟩,⟨some 135,.binOp .leq 3 (.tmp 130) (.tmp 134) 3,4,"outright.go:230",#[⟨0,.data⟩,⟨4,.data⟩],none⟩] false) (.cond (.tmp 135) .skip (.exit 6))) (.seq (.block 7 nB) (Code.region 20 #[⟨some 136,.move (.tmp 10),3,"outright.go:230",#[],none⟩,⟨some 137,.binOp .add 3 (.tmp 136) (.const (.int .i64 1)) 3,3,"outright.go:230",#[⟨0,.data⟩],none⟩,⟨some 10,.assign (.tmp 137),3,"outright.go:230",#[⟨1,.data⟩,⟨0,.phase⟩,⟨1,.phase⟩],none⟩] false)))))) := by kernel_rfl
set_option maxRecDepth 1000000 in
theorem nB_eq : nB = (.seq (Code.region 21 #[⟨some 138,.fieldAddr 30 (.tmp 4) 0,0,"outright.go:231",#[],none⟩,⟨some 139,.fieldAddr 25 (.tmp 138) 2,0,"outright.go:231",#[⟨0,.data⟩],none⟩,⟨some 140,.fieldAddr 23 (.tmp 139) 0,0,"outright.go:231",#[⟨1,.data⟩],none⟩,⟨some 141,.load 3 (.tmp 140),3,"outright.go:231",#[⟨2,.data⟩],none⟩,⟨some 11,.assign (.tmp 141),3,"outright.go:231",#[⟨3,.data⟩,⟨0,.phase⟩,⟨1,.phase⟩,⟨2,.phase⟩,⟨3,.phase⟩],none⟩] false) (.block 8 (.loop (.seq (.seq (Code.region 22 #[⟨some 142,.move (.tmp 11),3,"outright.go:231",#[],none⟩,⟨some 143,.fieldAddr 30 (.tmp 4) 0,0,"outright.go:231",#[],none⟩,⟨some 144,.fieldAddr 25 (.tmp 143) 2,0,"outright.go:231",#[⟨1,.data⟩],none⟩,⟨some 145,.fieldAddr 23 (.tmp 144) 1,0,"outright.go:231",#[⟨2,.data⟩],none⟩,⟨some 146,.load 3 (.tmp 145),3,"outright.go:231",#[⟨3,.data⟩],none⟩,⟨some 147,.binOp .leq 3 (.tmp 142) (.tmp 146) 3,4,"outright.go:231",#[⟨0,.data⟩,⟨4,.data⟩],none⟩] false) (.cond (.tmp 147) .skip (.exit 8))) (.seq (.block 9 (Code.region 24 #[⟨some 150,.load 30 (.tmp 4),30,"outright.go:232",#[],none⟩,⟨some 151,.move (.tmp 9),3,"outright.go:232",#[],none⟩,⟨some 152,.move (.tmp 10),3,"outright.go:232",#[],none⟩,⟨some 153,.move (.tmp 11),3,"outright.go:232",#[],none⟩,⟨some 154,.build 57 #[(0,.tmp 151),(1,.tmp 152),(2,.tmp 153)],57,"outright.go:232",#[⟨1,.data⟩,⟨2,.data⟩,⟨3,.data⟩],none⟩,⟨some 155,.move (.tmp 6),31,"outright.go:232",#[],none⟩,⟨some 156,.call { callee := .value (.func 24),args := #[.tmp 8,.tmp 150,.tmp 154,.tmp 155,.const (.slice none 0 0)],argTypes := #[54,30,57,31,31] },0,"outright.go:232",#[⟨0,.data⟩,⟨4,.data⟩,⟨5,.data⟩],none⟩] false)) (Code.region 23 #[⟨some 148,.move (.tmp 11),3,"outright.go:231",#[],none⟩,⟨some 149,.binOp .add 3 (.tmp 148) (.const (.int .i64 1)) 3,3,"outright.go:231",#[⟨0,.data⟩],none⟩,⟨some 11,.assign (.tmp 149),3,"outright.go:231",#[⟨1,.data⟩,⟨0,.phase⟩,⟨1,.phase⟩],none⟩] false)))))) := by kernel_rfl
set_option maxHeartbeats 9000000 in
set_option maxRecDepth 1000000 in
theorem mC {w0 w : World} {g4 bx : Nat} {J : Jb} {ja : Option Addr} {jn jc : Nat} {la : Option Addr} {ln lc : Nat} {l : List Int} {e : En} {n t : Int}  {turn : Int} {Q : Exit → Act → World → Prop} {u0 u1 u2 u3 u5 A1 A2 A3 A4 A5 A6 A7 A8 A9 Aa Ab Ac Ad Ae Af Ag Ah Ai Aj Ak Al Am An Ao Ap Aq Ar As At Au Av Aw Ax Ay Az C0 C1 C2 C3 C4 C5 C6 C7 C8 C9 Ca Cb Cc Cd Ce Cf Cg Ch Ci Cj Ck Cl Cm Cn Co Cp Cq Cr Cs Ct Cu Cv Cw Cx Cy Cz D0 D1 D2 D3 D4 D5 D6 D7 D8 D9 Da Db Dc Dd De Df Dg Dh Di Dj Dk Dl Dm Dn Do Dp Dq Dr Ds Dt Du Dv Dw Dx Dy Dz E0 E1 E2 E3 E4 E5 E6 E7 E8 E9 Ea Eb Ec Ed Ee Ef Eg Eh Ei Ej Ek El Em u141 Eo Ep Eq Er Es Et Eu Ev Ew Ex Ey Ez F0 F1 F2 F3 F4 F5 F6 F7 F8 F9 Fa Fb Fc Fd Fe Ff Fg Fh Fi Fj Fk Fl Fm Fn Fo Fp Fq Fr Fs Ft Fu Fv Fw Fx Fy Fz L0 L1 L2 L3 L4 L5 L6 L7 L8 L9 La Lb Lc Ld Le Lf Lg Lh Li Lj Lk Ll Lm Ln Lo Lp Lq Lr Ls Lt Lu Lv Lw Lx Ly Lz M0 M1 M2 M3 M4 M5 M6 M7 M8 M9 Ma Mb Mc Md Me Mf Mg Mh Mi Mj Mk Ml Mm Mn Mo Mp : Value} (hs : ML w0 w g4 bx J ja jn jc la l) (hE : Bk w bx 54 (enC e)) (ho : e.Ok) (hF : J.Full) (hjn : jn = J.sh.length ∧ jn ≤ 1000) (hln : ln = l.length ∧ ln ≤ lc) (h12 : ∀ s ∈ l,s = 1 ∨ s = 2) (hl6 : l.length ≤ 6) (hn : -60 ≤ n ∧ n ≤ 60) (ht : 0 ≤ t ∧ t ≤ 100) (hcap : e.truths + ((((nums J.r1 J.r2).flatMap (fun r => allT J l ⟨n,t,r⟩ []))).length : Int) ≤ capN) (hK : ∀ (w' : World),PB bx w.heap.size w w' → Bk w' bx 54 (enC (e.notes J ((nums J.r1 J.r2).flatMap (fun r => allT J l ⟨n,t,r⟩ [])))) → ∀ (u0 u1 u2 u3 u5 A1 A2 A3 A4 A5 A6 A7 A8 A9 Aa Ab Ac Ad Ae Af Ag Ah Ai Aj Ak Al Am An Ao Ap Aq Ar As At Au Av Aw Ax Ay Az C0 C1 C2 C3 C4 C5 C6 C7 C8 C9 Ca Cb Cc Cd Ce Cf Cg Ch Ci Cj Ck Cl Cm Cn Co Cp Cq Cr Cs Ct Cu Cv Cw Cx Cy Cz D0 D1 D2 D3 D4 D5 D6 D7 D8 D9 Da Db Dc Dd De Df Dg Dh Di Dj Dk Dl Dm Dn Do Dp Dq Dr Ds Dt Du Dv Dw Dx Dy Dz E0 E1 E2 E3 E4 E5 E6 E7 E8 E9 Ea Eb Ec Ed Ee Ef Eg Eh Ei Ej Ek El Em u141 Eo Ep Eq Er Es Et Eu Ev Ew Ex Ey Ez F0 F1 F2 F3 F4 F5 F6 F7 F8 F9 Fa Fb Fc Fd Fe Ff Fg Fh Fi Fj Fk Fl Fm Fn Fo Fp Fq Fr Fs Ft Fu Fv Fw Fx Fy Fz L0 L1 L2 L3 L4 L5 L6 L7 L8 L9 La Lb Lc Ld Le Lf Lg Lh Li Lj Lk Ll Lm Ln Lo Lp Lq Lr Ls Lt Lu Lv Lw Lx Ly Lz M0 M1 M2 M3 M4 M5 M6 M7 M8 M9 Ma Mb Mc Md Me Mf Mg Mh Mi Mj Mk Ml Mm Mn Mo Mp : Value),Q .normal ⟨#[u0,u1,u2,u3,(.pointer (some ⟨g4,0,none⟩)),u5,(.slice la ln lc),(.int .i64 turn),(.pointer (some ⟨bx,0,none⟩)),(.int .i64 n),(.int .i64 t),A1,A2,A3,A4,A5,A6,A7,A8,A9,Aa,Ab,Ac,Ad,Ae,Af,Ag,Ah,Ai,Aj,Ak,Al,Am,An,Ao,Ap,Aq,Ar,As,At,Au,Av,Aw,Ax,Ay,Az,C0,C1,C2,C3,C4,C5,C6,C7,C8,C9,Ca,Cb,Cc,Cd,Ce,Cf,Cg,Ch,Ci,Cj,Ck,Cl,Cm,Cn,Co,Cp,Cq,Cr,Cs,Ct,Cu,Cv,Cw,Cx,Cy,Cz,D0,D1,D2,D3,D4,D5,D6,D7,D8,D9,Da,Db,Dc,Dd,De,Df,Dg,Dh,Di,Dj,Dk,Dl,Dm,Dn,Do,Dp,Dq,Dr,Ds,Dt,Du,Dv,Dw,Dx,Dy,Dz,E0,E1,E2,E3,E4,E5,E6,E7,E8,E9,Ea,Eb,Ec,Ed,Ee,Ef,Eg,Eh,Ei,Ej,Ek,El,Em,u141,Eo,Ep,Eq,Er,Es,Et,Eu,Ev,Ew,Ex,Ey,Ez,F0,F1,F2,F3,F4,F5,F6,F7,F8,F9,Fa,Fb,Fc,Fd,Fe,Ff,Fg,Fh,Fi,Fj,Fk,Fl,Fm,Fn,Fo,Fp,Fq,Fr,Fs,Ft,Fu,Fv,Fw,Fx,Fy,Fz,L0,L1,L2,L3,L4,L5,L6,L7,L8,L9,La,Lb,Lc,Ld,Le,Lf,Lg,Lh,Li,Lj,Lk,Ll,Lm,Ln,Lo,Lp,Lq,Lr,Ls,Lt,Lu,Lv,Lw,Lx,Ly,Lz,M0,M1,M2,M3,M4,M5,M6,M7,M8,M9,Ma,Mb,Mc,Md,Me,Mf,Mg,Mh,Mi,Mj,Mk,Ml,Mm,Mn,Mo,Mp],[]⟩ w') : Code.wp Try.prog nB Q ⟨#[u0,u1,u2,u3,(.pointer (some ⟨g4,0,none⟩)),u5,(.slice la ln lc),(.int .i64 turn),(.pointer (some ⟨bx,0,none⟩)),(.int .i64 n),(.int .i64 t),A1,A2,A3,A4,A5,A6,A7,A8,A9,Aa,Ab,Ac,Ad,Ae,Af,Ag,Ah,Ai,Aj,Ak,Al,Am,An,Ao,Ap,Aq,Ar,As,At,Au,Av,Aw,Ax,Ay,Az,C0,C1,C2,C3,C4,C5,C6,C7,C8,C9,Ca,Cb,Cc,Cd,Ce,Cf,Cg,Ch,Ci,Cj,Ck,Cl,Cm,Cn,Co,Cp,Cq,Cr,Cs,Ct,Cu,Cv,Cw,Cx,Cy,Cz,D0,D1,D2,D3,D4,D5,D6,D7,D8,D9,Da,Db,Dc,Dd,De,Df,Dg,Dh,Di,Dj,Dk,Dl,Dm,Dn,Do,Dp,Dq,Dr,Ds,Dt,Du,Dv,Dw,Dx,Dy,Dz,E0,E1,E2,E3,E4,E5,E6,E7,E8,E9,Ea,Eb,Ec,Ed,Ee,Ef,Eg,Eh,Ei,Ej,Ek,El,Em,u141,Eo,Ep,Eq,Er,Es,Et,Eu,Ev,Ew,Ex,Ey,Ez,F0,F1,F2,F3,F4,F5,F6,F7,F8,F9,Fa,Fb,Fc,Fd,Fe,Ff,Fg,Fh,Fi,Fj,Fk,Fl,Fm,Fn,Fo,Fp,Fq,Fr,Fs,Ft,Fu,Fv,Fw,Fx,Fy,Fz,L0,L1,L2,L3,L4,L5,L6,L7,L8,L9,La,Lb,Lc,Ld,Le,Lf,Lg,Lh,Li,Lj,Lk,Ll,Lm,Ln,Lo,Lp,Lq,Lr,Ls,Lt,Lu,Lv,Lw,Lx,Ly,Lz,M0,M1,M2,M3,M4,M5,M6,M7,M8,M9,Ma,Mb,Mc,Md,Me,Mf,Mg,Mh,Mi,Mj,Mk,Ml,Mm,Mn,Mo,Mp],[]⟩ w := by
  have HS := hidMk hs
  have HE := hidMk hE
  have HO := hidMk ho
  have HCAP := hidMk hcap
  have HF := hidMk hF
  have HJ := hidMk hjn
  have HL := hidMk hln
  have H12 := hidMk h12
  have HK := hidMk hK
  clear hs hE ho hcap hF hjn hln h12 hK
  rw [nB_eq]
  obtain ⟨qp,qt,qr,-,-,-,-,-,-,-,-,-⟩ := HF.out
  have HIN := hidMk ((check_ok HF.out.check).inn.mono (by decide : (100 : Int) ≤ 1000))
  have c0 := HS.out.job.at_ 4 (.int .i64 J.r1) rfl
  skip
  go_wp2_with fail
  clear c0
  refine wp_loop (fun a wr => ∃ (u0 u1 u2 u3 u5 A2 A3 A4 A5 A6 A7 A8 A9 Aa Ab Ac Ad Ae Af Ag Ah Ai Aj Ak Al Am An Ao Ap Aq Ar As At Au Av Aw Ax Ay Az C0 C1 C2 C3 C4 C5 C6 C7 C8 C9 Ca Cb Cc Cd Ce Cf Cg Ch Ci Cj Ck Cl Cm Cn Co Cp Cq Cr Cs Ct Cu Cv Cw Cx Cy Cz D0 D1 D2 D3 D4 D5 D6 D7 D8 D9 Da Db Dc Dd De Df Dg Dh Di Dj Dk Dl Dm Dn Do Dp Dq Dr Ds Dt Du Dv Dw Dx Dy Dz E0 E1 E2 E3 E4 E5 E6 E7 E8 E9 Ea Eb Ec Ed Ee Ef Eg Eh Ei Ej Ek El Em u141 Eo Ep Eq Er Es Et Eu Ev Ew Ex Ey Ez F0 F1 F2 F3 F4 F5 F6 F7 F8 F9 Fa Fb Fc Fd Fe Ff Fg Fh Fi Fj Fk Fl Fm Fn Fo Fp Fq Fr Fs Ft Fu Fv Fw Fx Fy Fz L0 L1 L2 L3 L4 L5 L6 L7 L8 L9 La Lb Lc Ld Le Lf Lg Lh Li Lj Lk Ll Lm Ln Lo Lp Lq Lr Ls Lt Lu Lv Lw Lx Ly Lz M0 M1 M2 M3 M4 M5 M6 M7 M8 M9 Ma Mb Mc Md Me Mf Mg Mh Mi Mj Mk Ml Mm Mn Mo Mp : Value) (j : Nat) (r : Int),(Hid (r = J.r1 + (j : Int)) ∧ (-1 ≤ r ∧ r ≤ 101)) ∧ PB bx w.heap.size w wr ∧ Hid (Bk wr bx 54 (enC (e.notes J (((nums J.r1 J.r2).take j).flatMap (fun r => allT J l ⟨n,t,r⟩ []))))) ∧ a = ⟨#[u0,u1,u2,u3,(.pointer (some ⟨g4,0,none⟩)),u5,(.slice la ln lc),(.int .i64 turn),(.pointer (some ⟨bx,0,none⟩)),(.int .i64 n),(.int .i64 t),(.int .i64 r),A2,A3,A4,A5,A6,A7,A8,A9,Aa,Ab,Ac,Ad,Ae,Af,Ag,Ah,Ai,Aj,Ak,Al,Am,An,Ao,Ap,Aq,Ar,As,At,Au,Av,Aw,Ax,Ay,Az,C0,C1,C2,C3,C4,C5,C6,C7,C8,C9,Ca,Cb,Cc,Cd,Ce,Cf,Cg,Ch,Ci,Cj,Ck,Cl,Cm,Cn,Co,Cp,Cq,Cr,Cs,Ct,Cu,Cv,Cw,Cx,Cy,Cz,D0,D1,D2,D3,D4,D5,D6,D7,D8,D9,Da,Db,Dc,Dd,De,Df,Dg,Dh,Di,Dj,Dk,Dl,Dm,Dn,Do,Dp,Dq,Dr,Ds,Dt,Du,Dv,Dw,Dx,Dy,Dz,E0,E1,E2,E3,E4,E5,E6,E7,E8,E9,Ea,Eb,Ec,Ed,Ee,Ef,Eg,Eh,Ei,Ej,Ek,El,Em,u141,Eo,Ep,Eq,Er,Es,Et,Eu,Ev,Ew,Ex,Ey,Ez,F0,F1,F2,F3,F4,F5,F6,F7,F8,F9,Fa,Fb,Fc,Fd,Fe,Ff,Fg,Fh,Fi,Fj,Fk,Fl,Fm,Fn,Fo,Fp,Fq,Fr,Fs,Ft,Fu,Fv,Fw,Fx,Fy,Fz,L0,L1,L2,L3,L4,L5,L6,L7,L8,L9,La,Lb,Lc,Ld,Le,Lf,Lg,Lh,Li,Lj,Lk,Ll,Lm,Ln,Lo,Lp,Lq,Lr,Ls,Lt,Lu,Lv,Lw,Lx,Ly,Lz,M0,M1,M2,M3,M4,M5,M6,M7,M8,M9,Ma,Mb,Mc,Md,Me,Mf,Mg,Mh,Mi,Mj,Mk,Ml,Mm,Mn,Mo,Mp],[]⟩) (fun a _ => (J.r2 + 1 - intOf (a.tmps.getD 11 undef)).toNat) ?_ ?_
  · exact ⟨_,_,_,_,_,_,_,_,_,_,_,_,_,_,_,_,_,_,_,_,_,_,_,_,_,_,_,_,_,_,_,_,_,_,_,_,_,_,_,_,_,_,_,_,_,_,_,_,_,_,_,_,_,_,_,_,_,_,_,_,_,_,_,_,_,_,_,_,_,_,_,_,_,_,_,_,_,_,_,_,_,_,_,_,_,_,_,_,_,_,_,_,_,_,_,_,_,_,_,_,_,_,_,_,_,_,_,_,_,_,_,_,_,_,_,_,_,_,_,_,_,_,_,_,_,_,_,_,_,_,_,_,_,_,_,_,_,_,_,_,_,_,_,_,_,_,_,_,_,_,_,_,_,_,_,_,_,_,_,_,_,_,_,_,_,_,_,_,_,_,_,_,_,_,_,_,_,_,_,_,_,_,_,_,_,_,_,_,_,_,_,_,_,_,_,_,_,_,_,_,_,_,_,_,_,_,_,_,_,_,_,_,_,_,_,_,_,_,_,_,_,_,_,_,_,_,_,_,_,_,_,_,_,_,_,_,_,_,_,_,_,_,_,_,_,0,J.r1,⟨hidMk (by simp),by omega⟩,PB.refl _ _ _,HE,rfl⟩
  · intro a wr h
    obtain ⟨u0,h⟩ := h
    obtain ⟨u1,h⟩ := h
    obtain ⟨u2,h⟩ := h
    obtain ⟨u3,h⟩ := h
    obtain ⟨u5,h⟩ := h
    obtain ⟨A2,h⟩ := h
    obtain ⟨A3,h⟩ := h
    obtain ⟨A4,h⟩ := h
    obtain ⟨A5,h⟩ := h
    obtain ⟨A6,h⟩ := h
    obtain ⟨A7,h⟩ := h
    obtain ⟨A8,h⟩ := h
    obtain ⟨A9,h⟩ := h
    obtain ⟨Aa,h⟩ := h
    obtain ⟨Ab,h⟩ := h
    obtain ⟨Ac,h⟩ := h
    obtain ⟨Ad,h⟩ := h
    obtain ⟨Ae,h⟩ := h
    obtain ⟨Af,h⟩ := h
    obtain ⟨Ag,h⟩ := h
    obtain ⟨Ah,h⟩ := h
    obtain ⟨Ai,h⟩ := h
    obtain ⟨Aj,h⟩ := h
    obtain ⟨Ak,h⟩ := h
    obtain ⟨Al,h⟩ := h
    obtain ⟨Am,h⟩ := h
    obtain ⟨An,h⟩ := h
    obtain ⟨Ao,h⟩ := h
    obtain ⟨Ap,h⟩ := h
    obtain ⟨Aq,h⟩ := h
    obtain ⟨Ar,h⟩ := h
    obtain ⟨As,h⟩ := h
    obtain ⟨At,h⟩ := h
    obtain ⟨Au,h⟩ := h
    obtain ⟨Av,h⟩ := h
    obtain ⟨Aw,h⟩ := h
    obtain ⟨Ax,h⟩ := h
    obtain ⟨Ay,h⟩ := h
    obtain ⟨Az,h⟩ := h
    obtain ⟨C0,h⟩ := h
    obtain ⟨C1,h⟩ := h
    obtain ⟨C2,h⟩ := h
    obtain ⟨C3,h⟩ := h
    obtain ⟨C4,h⟩ := h
    obtain ⟨C5,h⟩ := h
    obtain ⟨C6,h⟩ := h
    obtain ⟨C7,h⟩ := h
    obtain ⟨C8,h⟩ := h
    obtain ⟨C9,h⟩ := h
    obtain ⟨Ca,h⟩ := h
    obtain ⟨Cb,h⟩ := h
    obtain ⟨Cc,h⟩ := h
    obtain ⟨Cd,h⟩ := h
    obtain ⟨Ce,h⟩ := h
    obtain ⟨Cf,h⟩ := h
    obtain ⟨Cg,h⟩ := h
    obtain ⟨Ch,h⟩ := h
    obtain ⟨Ci,h⟩ := h
    obtain ⟨Cj,h⟩ := h
    obtain ⟨Ck,h⟩ := h
    obtain ⟨Cl,h⟩ := h
    obtain ⟨Cm,h⟩ := h
    obtain ⟨Cn,h⟩ := h
    obtain ⟨Co,h⟩ := h
    obtain ⟨Cp,h⟩ := h
    obtain ⟨Cq,h⟩ := h
    obtain ⟨Cr,h⟩ := h
    obtain ⟨Cs,h⟩ := h
    obtain ⟨Ct,h⟩ := h
    obtain ⟨Cu,h⟩ := h
    obtain ⟨Cv,h⟩ := h
    obtain ⟨Cw,h⟩ := h
    obtain ⟨Cx,h⟩ := h
    obtain ⟨Cy,h⟩ := h
    obtain ⟨Cz,h⟩ := h
    obtain ⟨D0,h⟩ := h
    obtain ⟨D1,h⟩ := h
    obtain ⟨D2,h⟩ := h
    obtain ⟨D3,h⟩ := h
    obtain ⟨D4,h⟩ := h
    obtain ⟨D5,h⟩ := h
    obtain ⟨D6,h⟩ := h
    obtain ⟨D7,h⟩ := h
    obtain ⟨D8,h⟩ := h
    obtain ⟨D9,h⟩ := h
    obtain ⟨Da,h⟩ := h
    obtain ⟨Db,h⟩ := h
    obtain ⟨Dc,h⟩ := h
    obtain ⟨Dd,h⟩ := h
    obtain ⟨De,h⟩ := h
    obtain ⟨Df,h⟩ := h
    obtain ⟨Dg,h⟩ := h
    obtain ⟨Dh,h⟩ := h
    obtain ⟨Di,h⟩ := h
    obtain ⟨Dj,h⟩ := h
    obtain ⟨Dk,h⟩ := h
    obtain ⟨Dl,h⟩ := h
    obtain ⟨Dm,h⟩ := h
    obtain ⟨Dn,h⟩ := h
    obtain ⟨Do,h⟩ := h
    obtain ⟨Dp,h⟩ := h
    obtain ⟨Dq,h⟩ := h
    obtain ⟨Dr,h⟩ := h
    obtain ⟨Ds,h⟩ := h
    obtain ⟨Dt,h⟩ := h
    obtain ⟨Du,h⟩ := h
    obtain ⟨Dv,h⟩ := h
    obtain ⟨Dw,h⟩ := h
    obtain ⟨Dx,h⟩ := h
    obtain ⟨Dy,h⟩ := h
    obtain ⟨Dz,h⟩ := h
    obtain ⟨E0,h⟩ := h
    obtain ⟨E1,h⟩ := h
    obtain ⟨E2,h⟩ := h
    obtain ⟨E3,h⟩ := h
    obtain ⟨E4,h⟩ := h
    obtain ⟨E5,h⟩ := h
    obtain ⟨E6,h⟩ := h
    obtain ⟨E7,h⟩ := h
    obtain ⟨E8,h⟩ := h
    obtain ⟨E9,h⟩ := h
    obtain ⟨Ea,h⟩ := h
    obtain ⟨Eb,h⟩ := h
    obtain ⟨Ec,h⟩ := h
    obtain ⟨Ed,h⟩ := h
    obtain ⟨Ee,h⟩ := h
    obtain ⟨Ef,h⟩ := h
    obtain ⟨Eg,h⟩ := h
    obtain ⟨Eh,h⟩ := h
    obtain ⟨Ei,h⟩ := h
    obtain ⟨Ej,h⟩ := h
    obtain ⟨Ek,h⟩ := h
    obtain ⟨El,h⟩ := h
    obtain ⟨Em,h⟩ := h
    obtain ⟨u141,h⟩ := h
    obtain ⟨Eo,h⟩ := h
    obtain ⟨Ep,h⟩ := h
    obtain ⟨Eq,h⟩ := h
    obtain ⟨Er,h⟩ := h
    obtain ⟨Es,h⟩ := h
    obtain ⟨Et,h⟩ := h
    obtain ⟨Eu,h⟩ := h
    obtain ⟨Ev,h⟩ := h
    obtain ⟨Ew,h⟩ := h
    obtain ⟨Ex,h⟩ := h
    obtain ⟨Ey,h⟩ := h
    obtain ⟨Ez,h⟩ := h
    obtain ⟨F0,h⟩ := h
    obtain ⟨F1,h⟩ := h
    obtain ⟨F2,h⟩ := h
    obtain ⟨F3,h⟩ := h
    obtain ⟨F4,h⟩ := h
    obtain ⟨F5,h⟩ := h
    obtain ⟨F6,h⟩ := h
    obtain ⟨F7,h⟩ := h
    obtain ⟨F8,h⟩ := h
    obtain ⟨F9,h⟩ := h
    obtain ⟨Fa,h⟩ := h
    obtain ⟨Fb,h⟩ := h
    obtain ⟨Fc,h⟩ := h
    obtain ⟨Fd,h⟩ := h
    obtain ⟨Fe,h⟩ := h
    obtain ⟨Ff,h⟩ := h
    obtain ⟨Fg,h⟩ := h
    obtain ⟨Fh,h⟩ := h
    obtain ⟨Fi,h⟩ := h
    obtain ⟨Fj,h⟩ := h
    obtain ⟨Fk,h⟩ := h
    obtain ⟨Fl,h⟩ := h
    obtain ⟨Fm,h⟩ := h
    obtain ⟨Fn,h⟩ := h
    obtain ⟨Fo,h⟩ := h
    obtain ⟨Fp,h⟩ := h
    obtain ⟨Fq,h⟩ := h
    obtain ⟨Fr,h⟩ := h
    obtain ⟨Fs,h⟩ := h
    obtain ⟨Ft,h⟩ := h
    obtain ⟨Fu,h⟩ := h
    obtain ⟨Fv,h⟩ := h
    obtain ⟨Fw,h⟩ := h
    obtain ⟨Fx,h⟩ := h
    obtain ⟨Fy,h⟩ := h
    obtain ⟨Fz,h⟩ := h
    obtain ⟨L0,h⟩ := h
    obtain ⟨L1,h⟩ := h
    obtain ⟨L2,h⟩ := h
    obtain ⟨L3,h⟩ := h
    obtain ⟨L4,h⟩ := h
    obtain ⟨L5,h⟩ := h
    obtain ⟨L6,h⟩ := h
    obtain ⟨L7,h⟩ := h
    obtain ⟨L8,h⟩ := h
    obtain ⟨L9,h⟩ := h
    obtain ⟨La,h⟩ := h
    obtain ⟨Lb,h⟩ := h
    obtain ⟨Lc,h⟩ := h
    obtain ⟨Ld,h⟩ := h
    obtain ⟨Le,h⟩ := h
    obtain ⟨Lf,h⟩ := h
    obtain ⟨Lg,h⟩ := h
    obtain ⟨Lh,h⟩ := h
    obtain ⟨Li,h⟩ := h
    obtain ⟨Lj,h⟩ := h
    obtain ⟨Lk,h⟩ := h
    obtain ⟨Ll,h⟩ := h
    obtain ⟨Lm,h⟩ := h
    obtain ⟨Ln,h⟩ := h
    obtain ⟨Lo,h⟩ := h
    obtain ⟨Lp,h⟩ := h
    obtain ⟨Lq,h⟩ := h
    obtain ⟨Lr,h⟩ := h
    obtain ⟨Ls,h⟩ := h
    obtain ⟨Lt,h⟩ := h
    obtain ⟨Lu,h⟩ := h
    obtain ⟨Lv,h⟩ := h
    obtain ⟨Lw,h⟩ := h
    obtain ⟨Lx,h⟩ := h
    obtain ⟨Ly,h⟩ := h
    obtain ⟨Lz,h⟩ := h
    obtain ⟨M0,h⟩ := h
    obtain ⟨M1,h⟩ := h
    obtain ⟨M2,h⟩ := h
    obtain ⟨M3,h⟩ := h
    obtain ⟨M4,h⟩ := h
    obtain ⟨M5,h⟩ := h
    obtain ⟨M6,h⟩ := h
    obtain ⟨M7,h⟩ := h
    obtain ⟨M8,h⟩ := h
    obtain ⟨M9,h⟩ := h
    obtain ⟨Ma,h⟩ := h
    obtain ⟨Mb,h⟩ := h
    obtain ⟨Mc,h⟩ := h
    obtain ⟨Md,h⟩ := h
    obtain ⟨Me,h⟩ := h
    obtain ⟨Mf,h⟩ := h
    obtain ⟨Mg,h⟩ := h
    obtain ⟨Mh,h⟩ := h
    obtain ⟨Mi,h⟩ := h
    obtain ⟨Mj,h⟩ := h
    obtain ⟨Mk,h⟩ := h
    obtain ⟨Ml,h⟩ := h
    obtain ⟨Mm,h⟩ := h
    obtain ⟨Mn,h⟩ := h
    obtain ⟨Mo,h⟩ := h
    obtain ⟨Mp,h⟩ := h
    obtain ⟨j,r,⟨Hn,hb⟩,hp,HEr,ha⟩ := h
    subst ha
    have HP := hidMk hp
    have HAT := hidMk (HS.out.pb hp)
    have c1 := HAT.out.job.at_ 5 (.int .i64 J.r2) rfl
    have wy : IntKind.i64.wrap (r + 1) = r + 1 := IntWalk.i64_in _ (by omega)
    have HWY := hidMk wy
    clear hp wy
    by_cases hle : r ≤ J.r2
    · have hat := nums_at (a := J.r1) (b := J.r2) (j := j) (by have := Hn.out; omega)
      rw [← Hn.out] at hat
      have hps := hidMk (pre_succ (F := (fun r => allT J l ⟨n,t,r⟩ [])) hat)
      have hpl := hidMk (pre_len (fun r => allT J l ⟨n,t,r⟩ []) (nums J.r1 J.r2) (j + 1))
      clear hat
      have hvb : J.r1 ≤ r := by have := Hn.out; omega
      have hcap2 : (e.notes J (((nums J.r1 J.r2).take j).flatMap (fun r => allT J l ⟨n,t,r⟩ []))).truths + (((allT J l ⟨n,t,r⟩ [])).length : Int) ≤ capN := by
        rw [notes_truths]
        have h3 := hpl.out
        rw [hps.out,List.length_append] at h3
        have h4 := HCAP.out
        skip
        (try simp only at h3)
        omega
      have HCAP2 := hidMk hcap2
      have HTB := hidMk (show TB l.length ⟨n,t,r⟩ by refine ⟨⟨?_,?_⟩,⟨?_,?_⟩,?_,?_⟩ <;> simp only <;> omega)
      clear hcap2
      go_wp2_with (first | (refine wpList_load_row rfl 30 _ rfl g4 rfl _ (jobC J (.slice ja jn jc)) _ _ HAT.out.job Try.underlying30 rfl szJob ?_))
      refine (all_any (sa := ja) (sn := jn) (sc := jc) HIN.out HJ.out.1 l H12.out hl6 ⟨n,t,r⟩ _ bx la ln lc none 0 0 _ HEr.out (En.Ok.notes _ HO.out) HCAP2.out HTB.out HL.out HAT.out.is HAT.out.off.2 rfl (Is.nil _ _ _) (fun h => absurd rfl h) HAT.out.rg HAT.out.off.1).mono ?_
      rintro x w' ⟨rfl,hE',hp'⟩
      dsimp only
      have HP2 := hidMk (HP.out.trans hp' HP.out.size)
      have HE2 := hidMk hE'
      clear hp' hE' c1
      intros
      have wy := HWY.out
      go_wp2_with fail
      refine ⟨⟨_,_,_,_,_,_,_,_,_,_,_,_,_,_,_,_,_,_,_,_,_,_,_,_,_,_,_,_,_,_,_,_,_,_,_,_,_,_,_,_,_,_,_,_,_,_,_,_,_,_,_,_,_,_,_,_,_,_,_,_,_,_,_,_,_,_,_,_,_,_,_,_,_,_,_,_,_,_,_,_,_,_,_,_,_,_,_,_,_,_,_,_,_,_,_,_,_,_,_,_,_,_,_,_,_,_,_,_,_,_,_,_,_,_,_,_,_,_,_,_,_,_,_,_,_,_,_,_,_,_,_,_,_,_,_,_,_,_,_,_,_,_,_,_,_,_,_,_,_,_,_,_,_,_,_,_,_,_,_,_,_,_,_,_,_,_,_,_,_,_,_,_,_,_,_,_,_,_,_,_,_,_,_,_,_,_,_,_,_,_,_,_,_,_,_,_,_,_,_,_,_,_,_,_,_,_,_,_,_,_,_,_,_,_,_,_,_,_,_,_,_,_,_,_,_,_,_,_,_,_,_,_,_,_,_,_,_,_,_,_,_,_,_,_,_,j + 1,r + 1,⟨hidMk (by rw [Hn.out]; push_cast; omega),by omega⟩,HP2.out,hidMk ?_,rfl⟩,by simp [intOf]; omega⟩
      rw [hps.out,notes_append]
      exact HE2.out
    · have hall := hidMk (pre_all (F := (fun r => allT J l ⟨n,t,r⟩ [])) (a := J.r1) (b := J.r2) (j := j) (by have := Hn.out; omega))
      have HEF : Hid (Bk wr bx 54 (enC (e.notes J ((nums J.r1 J.r2).flatMap (fun r => allT J l ⟨n,t,r⟩ []))))) := by
        have h3 := HEr.out
        rw [hall.out] at h3
        exact hidMk h3
      clear HEr
      go_wp2_with fail
      exact HK.out _ HP.out HEF.out _ _ _ _ _ _ _ _ _ _ _ _ _ _ _ _ _ _ _ _ _ _ _ _ _ _ _ _ _ _ _ _ _ _ _ _ _ _ _ _ _ _ _ _ _ _ _ _ _ _ _ _ _ _ _ _ _ _ _ _ _ _ _ _ _ _ _ _ _ _ _ _ _ _ _ _ _ _ _ _ _ _ _ _ _ _ _ _ _ _ _ _ _ _ _ _ _ _ _ _ _ _ _ _ _ _ _ _ _ _ _ _ _ _ _ _ _ _ _ _ _ _ _ _ _ _ _ _ _ _ _ _ _ _ _ _ _ _ _ _ _ _ _ _ _ _ _ _ _ _ _ _ _ _ _ _ _ _ _ _ _ _ _ _ _ _ _ _ _ _ _ _ _ _ _ _ _ _ _ _ _ _ _ _ _ _ _ _ _ _ _ _ _ _ _ _ _ _ _ _ _ _ _ _ _ _ _ _ _ _ _ _ _ _ _ _ _ _ _ _ _ _ _ _ _ _ _ _ _ _ _ _ _ _ _ _ _ _ _ _ _ _ _ _ _ _ 
set_option maxHeartbeats 9000000 in
set_option maxRecDepth 1000000 in
theorem mB {w0 w : World} {g4 bx : Nat} {J : Jb} {ja : Option Addr} {jn jc : Nat} {la : Option Addr} {ln lc : Nat} {l : List Int} {e : En} {n : Int}  {turn : Int} {Q : Exit → Act → World → Prop} {u0 u1 u2 u3 u5 A0 A1 A2 A3 A4 A5 A6 A7 A8 A9 Aa Ab Ac Ad Ae Af Ag Ah Ai Aj Ak Al Am An Ao Ap Aq Ar As At Au Av Aw Ax Ay Az C0 C1 C2 C3 C4 C5 C6 C7 C8 C9 Ca Cb Cc Cd Ce Cf Cg Ch Ci Cj Ck Cl Cm Cn Co Cp Cq Cr Cs Ct Cu Cv Cw Cx Cy Cz D0 D1 D2 D3 D4 D5 D6 D7 D8 D9 Da Db Dc Dd De Df Dg Dh Di Dj Dk Dl Dm Dn Do Dp Dq Dr Ds Dt Du Dv Dw Dx Dy Dz E0 E1 E2 E3 E4 E5 E6 E7 E8 E9 Ea Eb Ec Ed Ee Ef Eg Eh Ei Ej Ek El Em u141 Eo Ep Eq Er Es Et Eu Ev Ew Ex Ey Ez F0 F1 F2 F3 F4 F5 F6 F7 F8 F9 Fa Fb Fc Fd Fe Ff Fg Fh Fi Fj Fk Fl Fm Fn Fo Fp Fq Fr Fs Ft Fu Fv Fw Fx Fy Fz L0 L1 L2 L3 L4 L5 L6 L7 L8 L9 La Lb Lc Ld Le Lf Lg Lh Li Lj Lk Ll Lm Ln Lo Lp Lq Lr Ls Lt Lu Lv Lw Lx Ly Lz M0 M1 M2 M3 M4 M5 M6 M7 M8 M9 Ma Mb Mc Md Me Mf Mg Mh Mi Mj Mk Ml Mm Mn Mo Mp : Value} (hs : ML w0 w g4 bx J ja jn jc la l) (hE : Bk w bx 54 (enC e)) (ho : e.Ok) (hF : J.Full) (hjn : jn = J.sh.length ∧ jn ≤ 1000) (hln : ln = l.length ∧ ln ≤ lc) (h12 : ∀ s ∈ l,s = 1 ∨ s = 2) (hl6 : l.length ≤ 6) (hn : -60 ≤ n ∧ n ≤ 60) (hcap : e.truths + ((((nums J.t1 J.t2).flatMap (fun t => (nums J.r1 J.r2).flatMap fun r => allT J l ⟨n,t,r⟩ []))).length : Int) ≤ capN) (hK : ∀ (w' : World),PB bx w.heap.size w w' → Bk w' bx 54 (enC (e.notes J ((nums J.t1 J.t2).flatMap (fun t => (nums J.r1 J.r2).flatMap fun r => allT J l ⟨n,t,r⟩ [])))) → ∀ (u0 u1 u2 u3 u5 A0 A1 A2 A3 A4 A5 A6 A7 A8 A9 Aa Ab Ac Ad Ae Af Ag Ah Ai Aj Ak Al Am An Ao Ap Aq Ar As At Au Av Aw Ax Ay Az C0 C1 C2 C3 C4 C5 C6 C7 C8 C9 Ca Cb Cc Cd Ce Cf Cg Ch Ci Cj Ck Cl Cm Cn Co Cp Cq Cr Cs Ct Cu Cv Cw Cx Cy Cz D0 D1 D2 D3 D4 D5 D6 D7 D8 D9 Da Db Dc Dd De Df Dg Dh Di Dj Dk Dl Dm Dn Do Dp Dq Dr Ds Dt Du Dv Dw Dx Dy Dz E0 E1 E2 E3 E4 E5 E6 E7 E8 E9 Ea Eb Ec Ed Ee Ef Eg Eh Ei Ej Ek El Em u141 Eo Ep Eq Er Es Et Eu Ev Ew Ex Ey Ez F0 F1 F2 F3 F4 F5 F6 F7 F8 F9 Fa Fb Fc Fd Fe Ff Fg Fh Fi Fj Fk Fl Fm Fn Fo Fp Fq Fr Fs Ft Fu Fv Fw Fx Fy Fz L0 L1 L2 L3 L4 L5 L6 L7 L8 L9 La Lb Lc Ld Le Lf Lg Lh Li Lj Lk Ll Lm Ln Lo Lp Lq Lr Ls Lt Lu Lv Lw Lx Ly Lz M0 M1 M2 M3 M4 M5 M6 M7 M8 M9 Ma Mb Mc Md Me Mf Mg Mh Mi Mj Mk Ml Mm Mn Mo Mp : Value),Q .normal ⟨#[u0,u1,u2,u3,(.pointer (some ⟨g4,0,none⟩)),u5,(.slice la ln lc),(.int .i64 turn),(.pointer (some ⟨bx,0,none⟩)),(.int .i64 n),A0,A1,A2,A3,A4,A5,A6,A7,A8,A9,Aa,Ab,Ac,Ad,Ae,Af,Ag,Ah,Ai,Aj,Ak,Al,Am,An,Ao,Ap,Aq,Ar,As,At,Au,Av,Aw,Ax,Ay,Az,C0,C1,C2,C3,C4,C5,C6,C7,C8,C9,Ca,Cb,Cc,Cd,Ce,Cf,Cg,Ch,Ci,Cj,Ck,Cl,Cm,Cn,Co,Cp,Cq,Cr,Cs,Ct,Cu,Cv,Cw,Cx,Cy,Cz,D0,D1,D2,D3,D4,D5,D6,D7,D8,D9,Da,Db,Dc,Dd,De,Df,Dg,Dh,Di,Dj,Dk,Dl,Dm,Dn,Do,Dp,Dq,Dr,Ds,Dt,Du,Dv,Dw,Dx,Dy,Dz,E0,E1,E2,E3,E4,E5,E6,E7,E8,E9,Ea,Eb,Ec,Ed,Ee,Ef,Eg,Eh,Ei,Ej,Ek,El,Em,u141,Eo,Ep,Eq,Er,Es,Et,Eu,Ev,Ew,Ex,Ey,Ez,F0,F1,F2,F3,F4,F5,F6,F7,F8,F9,Fa,Fb,Fc,Fd,Fe,Ff,Fg,Fh,Fi,Fj,Fk,Fl,Fm,Fn,Fo,Fp,Fq,Fr,Fs,Ft,Fu,Fv,Fw,Fx,Fy,Fz,L0,L1,L2,L3,L4,L5,L6,L7,L8,L9,La,Lb,Lc,Ld,Le,Lf,Lg,Lh,Li,Lj,Lk,Ll,Lm,Ln,Lo,Lp,Lq,Lr,Ls,Lt,Lu,Lv,Lw,Lx,Ly,Lz,M0,M1,M2,M3,M4,M5,M6,M7,M8,M9,Ma,Mb,Mc,Md,Me,Mf,Mg,Mh,Mi,Mj,Mk,Ml,Mm,Mn,Mo,Mp],[]⟩ w') : Code.wp Try.prog nA Q ⟨#[u0,u1,u2,u3,(.pointer (some ⟨g4,0,none⟩)),u5,(.slice la ln lc),(.int .i64 turn),(.pointer (some ⟨bx,0,none⟩)),(.int .i64 n),A0,A1,A2,A3,A4,A5,A6,A7,A8,A9,Aa,Ab,Ac,Ad,Ae,Af,Ag,Ah,Ai,Aj,Ak,Al,Am,An,Ao,Ap,Aq,Ar,As,At,Au,Av,Aw,Ax,Ay,Az,C0,C1,C2,C3,C4,C5,C6,C7,C8,C9,Ca,Cb,Cc,Cd,Ce,Cf,Cg,Ch,Ci,Cj,Ck,Cl,Cm,Cn,Co,Cp,Cq,Cr,Cs,Ct,Cu,Cv,Cw,Cx,Cy,Cz,D0,D1,D2,D3,D4,D5,D6,D7,D8,D9,Da,Db,Dc,Dd,De,Df,Dg,Dh,Di,Dj,Dk,Dl,Dm,Dn,Do,Dp,Dq,Dr,Ds,Dt,Du,Dv,Dw,Dx,Dy,Dz,E0,E1,E2,E3,E4,E5,E6,E7,E8,E9,Ea,Eb,Ec,Ed,Ee,Ef,Eg,Eh,Ei,Ej,Ek,El,Em,u141,Eo,Ep,Eq,Er,Es,Et,Eu,Ev,Ew,Ex,Ey,Ez,F0,F1,F2,F3,F4,F5,F6,F7,F8,F9,Fa,Fb,Fc,Fd,Fe,Ff,Fg,Fh,Fi,Fj,Fk,Fl,Fm,Fn,Fo,Fp,Fq,Fr,Fs,Ft,Fu,Fv,Fw,Fx,Fy,Fz,L0,L1,L2,L3,L4,L5,L6,L7,L8,L9,La,Lb,Lc,Ld,Le,Lf,Lg,Lh,Li,Lj,Lk,Ll,Lm,Ln,Lo,Lp,Lq,Lr,Ls,Lt,Lu,Lv,Lw,Lx,Ly,Lz,M0,M1,M2,M3,M4,M5,M6,M7,M8,M9,Ma,Mb,Mc,Md,Me,Mf,Mg,Mh,Mi,Mj,Mk,Ml,Mm,Mn,Mo,Mp],[]⟩ w := by
  have HS := hidMk hs
  have HE := hidMk hE
  have HO := hidMk ho
  have HCAP := hidMk hcap
  have HF := hidMk hF
  have HJ := hidMk hjn
  have HL := hidMk hln
  have H12 := hidMk h12
  have HK := hidMk hK
  clear hs hE ho hcap hF hjn hln h12 hK
  rw [nA_eq]
  obtain ⟨qp,qt,qr,-,-,-,-,-,-,-,-,-⟩ := HF.out
  have HIN := hidMk ((check_ok HF.out.check).inn.mono (by decide : (100 : Int) ≤ 1000))
  have c0 := HS.out.job.at_ 2 (.int .i64 J.t1) rfl
  skip
  go_wp2_with fail
  clear c0
  refine wp_loop (fun a wr => ∃ (u0 u1 u2 u3 u5 A1 A2 A3 A4 A5 A6 A7 A8 A9 Aa Ab Ac Ad Ae Af Ag Ah Ai Aj Ak Al Am An Ao Ap Aq Ar As At Au Av Aw Ax Ay Az C0 C1 C2 C3 C4 C5 C6 C7 C8 C9 Ca Cb Cc Cd Ce Cf Cg Ch Ci Cj Ck Cl Cm Cn Co Cp Cq Cr Cs Ct Cu Cv Cw Cx Cy Cz D0 D1 D2 D3 D4 D5 D6 D7 D8 D9 Da Db Dc Dd De Df Dg Dh Di Dj Dk Dl Dm Dn Do Dp Dq Dr Ds Dt Du Dv Dw Dx Dy Dz E0 E1 E2 E3 E4 E5 E6 E7 E8 E9 Ea Eb Ec Ed Ee Ef Eg Eh Ei Ej Ek El Em u141 Eo Ep Eq Er Es Et Eu Ev Ew Ex Ey Ez F0 F1 F2 F3 F4 F5 F6 F7 F8 F9 Fa Fb Fc Fd Fe Ff Fg Fh Fi Fj Fk Fl Fm Fn Fo Fp Fq Fr Fs Ft Fu Fv Fw Fx Fy Fz L0 L1 L2 L3 L4 L5 L6 L7 L8 L9 La Lb Lc Ld Le Lf Lg Lh Li Lj Lk Ll Lm Ln Lo Lp Lq Lr Ls Lt Lu Lv Lw Lx Ly Lz M0 M1 M2 M3 M4 M5 M6 M7 M8 M9 Ma Mb Mc Md Me Mf Mg Mh Mi Mj Mk Ml Mm Mn Mo Mp : Value) (j : Nat) (t : Int),(Hid (t = J.t1 + (j : Int)) ∧ (-1 ≤ t ∧ t ≤ 101)) ∧ PB bx w.heap.size w wr ∧ Hid (Bk wr bx 54 (enC (e.notes J (((nums J.t1 J.t2).take j).flatMap (fun t => (nums J.r1 J.r2).flatMap fun r => allT J l ⟨n,t,r⟩ []))))) ∧ a = ⟨#[u0,u1,u2,u3,(.pointer (some ⟨g4,0,none⟩)),u5,(.slice la ln lc),(.int .i64 turn),(.pointer (some ⟨bx,0,none⟩)),(.int .i64 n),(.int .i64 t),A1,A2,A3,A4,A5,A6,A7,A8,A9,Aa,Ab,Ac,Ad,Ae,Af,Ag,Ah,Ai,Aj,Ak,Al,Am,An,Ao,Ap,Aq,Ar,As,At,Au,Av,Aw,Ax,Ay,Az,C0,C1,C2,C3,C4,C5,C6,C7,C8,C9,Ca,Cb,Cc,Cd,Ce,Cf,Cg,Ch,Ci,Cj,Ck,Cl,Cm,Cn,Co,Cp,Cq,Cr,Cs,Ct,Cu,Cv,Cw,Cx,Cy,Cz,D0,D1,D2,D3,D4,D5,D6,D7,D8,D9,Da,Db,Dc,Dd,De,Df,Dg,Dh,Di,Dj,Dk,Dl,Dm,Dn,Do,Dp,Dq,Dr,Ds,Dt,Du,Dv,Dw,Dx,Dy,Dz,E0,E1,E2,E3,E4,E5,E6,E7,E8,E9,Ea,Eb,Ec,Ed,Ee,Ef,Eg,Eh,Ei,Ej,Ek,El,Em,u141,Eo,Ep,Eq,Er,Es,Et,Eu,Ev,Ew,Ex,Ey,Ez,F0,F1,F2,F3,F4,F5,F6,F7,F8,F9,Fa,Fb,Fc,Fd,Fe,Ff,Fg,Fh,Fi,Fj,Fk,Fl,Fm,Fn,Fo,Fp,Fq,Fr,Fs,Ft,Fu,Fv,Fw,Fx,Fy,Fz,L0,L1,L2,L3,L4,L5,L6,L7,L8,L9,La,Lb,Lc,Ld,Le,Lf,Lg,Lh,Li,Lj,Lk,Ll,Lm,Ln,Lo,Lp,Lq,Lr,Ls,Lt,Lu,Lv,Lw,Lx,Ly,Lz,M0,M1,M2,M3,M4,M5,M6,M7,M8,M9,Ma,Mb,Mc,Md,Me,Mf,Mg,Mh,Mi,Mj,Mk,Ml,Mm,Mn,Mo,Mp],[]⟩) (fun a _ => (J.t2 + 1 - intOf (a.tmps.getD 10 undef)).toNat) ?_ ?_
  · exact ⟨_,_,_,_,_,_,_,_,_,_,_,_,_,_,_,_,_,_,_,_,_,_,_,_,_,_,_,_,_,_,_,_,_,_,_,_,_,_,_,_,_,_,_,_,_,_,_,_,_,_,_,_,_,_,_,_,_,_,_,_,_,_,_,_,_,_,_,_,_,_,_,_,_,_,_,_,_,_,_,_,_,_,_,_,_,_,_,_,_,_,_,_,_,_,_,_,_,_,_,_,_,_,_,_,_,_,_,_,_,_,_,_,_,_,_,_,_,_,_,_,_,_,_,_,_,_,_,_,_,_,_,_,_,_,_,_,_,_,_,_,_,_,_,_,_,_,_,_,_,_,_,_,_,_,_,_,_,_,_,_,_,_,_,_,_,_,_,_,_,_,_,_,_,_,_,_,_,_,_,_,_,_,_,_,_,_,_,_,_,_,_,_,_,_,_,_,_,_,_,_,_,_,_,_,_,_,_,_,_,_,_,_,_,_,_,_,_,_,_,_,_,_,_,_,_,_,_,_,_,_,_,_,_,_,_,_,_,_,_,_,_,_,_,_,_,_,0,J.t1,⟨hidMk (by simp),by omega⟩,PB.refl _ _ _,HE,rfl⟩
  · intro a wr h
    obtain ⟨u0,h⟩ := h
    obtain ⟨u1,h⟩ := h
    obtain ⟨u2,h⟩ := h
    obtain ⟨u3,h⟩ := h
    obtain ⟨u5,h⟩ := h
    obtain ⟨A1,h⟩ := h
    obtain ⟨A2,h⟩ := h
    obtain ⟨A3,h⟩ := h
    obtain ⟨A4,h⟩ := h
    obtain ⟨A5,h⟩ := h
    obtain ⟨A6,h⟩ := h
    obtain ⟨A7,h⟩ := h
    obtain ⟨A8,h⟩ := h
    obtain ⟨A9,h⟩ := h
    obtain ⟨Aa,h⟩ := h
    obtain ⟨Ab,h⟩ := h
    obtain ⟨Ac,h⟩ := h
    obtain ⟨Ad,h⟩ := h
    obtain ⟨Ae,h⟩ := h
    obtain ⟨Af,h⟩ := h
    obtain ⟨Ag,h⟩ := h
    obtain ⟨Ah,h⟩ := h
    obtain ⟨Ai,h⟩ := h
    obtain ⟨Aj,h⟩ := h
    obtain ⟨Ak,h⟩ := h
    obtain ⟨Al,h⟩ := h
    obtain ⟨Am,h⟩ := h
    obtain ⟨An,h⟩ := h
    obtain ⟨Ao,h⟩ := h
    obtain ⟨Ap,h⟩ := h
    obtain ⟨Aq,h⟩ := h
    obtain ⟨Ar,h⟩ := h
    obtain ⟨As,h⟩ := h
    obtain ⟨At,h⟩ := h
    obtain ⟨Au,h⟩ := h
    obtain ⟨Av,h⟩ := h
    obtain ⟨Aw,h⟩ := h
    obtain ⟨Ax,h⟩ := h
    obtain ⟨Ay,h⟩ := h
    obtain ⟨Az,h⟩ := h
    obtain ⟨C0,h⟩ := h
    obtain ⟨C1,h⟩ := h
    obtain ⟨C2,h⟩ := h
    obtain ⟨C3,h⟩ := h
    obtain ⟨C4,h⟩ := h
    obtain ⟨C5,h⟩ := h
    obtain ⟨C6,h⟩ := h
    obtain ⟨C7,h⟩ := h
    obtain ⟨C8,h⟩ := h
    obtain ⟨C9,h⟩ := h
    obtain ⟨Ca,h⟩ := h
    obtain ⟨Cb,h⟩ := h
    obtain ⟨Cc,h⟩ := h
    obtain ⟨Cd,h⟩ := h
    obtain ⟨Ce,h⟩ := h
    obtain ⟨Cf,h⟩ := h
    obtain ⟨Cg,h⟩ := h
    obtain ⟨Ch,h⟩ := h
    obtain ⟨Ci,h⟩ := h
    obtain ⟨Cj,h⟩ := h
    obtain ⟨Ck,h⟩ := h
    obtain ⟨Cl,h⟩ := h
    obtain ⟨Cm,h⟩ := h
    obtain ⟨Cn,h⟩ := h
    obtain ⟨Co,h⟩ := h
    obtain ⟨Cp,h⟩ := h
    obtain ⟨Cq,h⟩ := h
    obtain ⟨Cr,h⟩ := h
    obtain ⟨Cs,h⟩ := h
    obtain ⟨Ct,h⟩ := h
    obtain ⟨Cu,h⟩ := h
    obtain ⟨Cv,h⟩ := h
    obtain ⟨Cw,h⟩ := h
    obtain ⟨Cx,h⟩ := h
    obtain ⟨Cy,h⟩ := h
    obtain ⟨Cz,h⟩ := h
    obtain ⟨D0,h⟩ := h
    obtain ⟨D1,h⟩ := h
    obtain ⟨D2,h⟩ := h
    obtain ⟨D3,h⟩ := h
    obtain ⟨D4,h⟩ := h
    obtain ⟨D5,h⟩ := h
    obtain ⟨D6,h⟩ := h
    obtain ⟨D7,h⟩ := h
    obtain ⟨D8,h⟩ := h
    obtain ⟨D9,h⟩ := h
    obtain ⟨Da,h⟩ := h
    obtain ⟨Db,h⟩ := h
    obtain ⟨Dc,h⟩ := h
    obtain ⟨Dd,h⟩ := h
    obtain ⟨De,h⟩ := h
    obtain ⟨Df,h⟩ := h
    obtain ⟨Dg,h⟩ := h
    obtain ⟨Dh,h⟩ := h
    obtain ⟨Di,h⟩ := h
    obtain ⟨Dj,h⟩ := h
    obtain ⟨Dk,h⟩ := h
    obtain ⟨Dl,h⟩ := h
    obtain ⟨Dm,h⟩ := h
    obtain ⟨Dn,h⟩ := h
    obtain ⟨Do,h⟩ := h
    obtain ⟨Dp,h⟩ := h
    obtain ⟨Dq,h⟩ := h
    obtain ⟨Dr,h⟩ := h
    obtain ⟨Ds,h⟩ := h
    obtain ⟨Dt,h⟩ := h
    obtain ⟨Du,h⟩ := h
    obtain ⟨Dv,h⟩ := h
    obtain ⟨Dw,h⟩ := h
    obtain ⟨Dx,h⟩ := h
    obtain ⟨Dy,h⟩ := h
    obtain ⟨Dz,h⟩ := h
    obtain ⟨E0,h⟩ := h
    obtain ⟨E1,h⟩ := h
    obtain ⟨E2,h⟩ := h
    obtain ⟨E3,h⟩ := h
    obtain ⟨E4,h⟩ := h
    obtain ⟨E5,h⟩ := h
    obtain ⟨E6,h⟩ := h
    obtain ⟨E7,h⟩ := h
    obtain ⟨E8,h⟩ := h
    obtain ⟨E9,h⟩ := h
    obtain ⟨Ea,h⟩ := h
    obtain ⟨Eb,h⟩ := h
    obtain ⟨Ec,h⟩ := h
    obtain ⟨Ed,h⟩ := h
    obtain ⟨Ee,h⟩ := h
    obtain ⟨Ef,h⟩ := h
    obtain ⟨Eg,h⟩ := h
    obtain ⟨Eh,h⟩ := h
    obtain ⟨Ei,h⟩ := h
    obtain ⟨Ej,h⟩ := h
    obtain ⟨Ek,h⟩ := h
    obtain ⟨El,h⟩ := h
    obtain ⟨Em,h⟩ := h
    obtain ⟨u141,h⟩ := h
    obtain ⟨Eo,h⟩ := h
    obtain ⟨Ep,h⟩ := h
    obtain ⟨Eq,h⟩ := h
    obtain ⟨Er,h⟩ := h
    obtain ⟨Es,h⟩ := h
    obtain ⟨Et,h⟩ := h
    obtain ⟨Eu,h⟩ := h
    obtain ⟨Ev,h⟩ := h
    obtain ⟨Ew,h⟩ := h
    obtain ⟨Ex,h⟩ := h
    obtain ⟨Ey,h⟩ := h
    obtain ⟨Ez,h⟩ := h
    obtain ⟨F0,h⟩ := h
    obtain ⟨F1,h⟩ := h
    obtain ⟨F2,h⟩ := h
    obtain ⟨F3,h⟩ := h
    obtain ⟨F4,h⟩ := h
    obtain ⟨F5,h⟩ := h
    obtain ⟨F6,h⟩ := h
    obtain ⟨F7,h⟩ := h
    obtain ⟨F8,h⟩ := h
    obtain ⟨F9,h⟩ := h
    obtain ⟨Fa,h⟩ := h
    obtain ⟨Fb,h⟩ := h
    obtain ⟨Fc,h⟩ := h
    obtain ⟨Fd,h⟩ := h
    obtain ⟨Fe,h⟩ := h
    obtain ⟨Ff,h⟩ := h
    obtain ⟨Fg,h⟩ := h
    obtain ⟨Fh,h⟩ := h
    obtain ⟨Fi,h⟩ := h
    obtain ⟨Fj,h⟩ := h
    obtain ⟨Fk,h⟩ := h
    obtain ⟨Fl,h⟩ := h
    obtain ⟨Fm,h⟩ := h
    obtain ⟨Fn,h⟩ := h
    obtain ⟨Fo,h⟩ := h
    obtain ⟨Fp,h⟩ := h
    obtain ⟨Fq,h⟩ := h
    obtain ⟨Fr,h⟩ := h
    obtain ⟨Fs,h⟩ := h
    obtain ⟨Ft,h⟩ := h
    obtain ⟨Fu,h⟩ := h
    obtain ⟨Fv,h⟩ := h
    obtain ⟨Fw,h⟩ := h
    obtain ⟨Fx,h⟩ := h
    obtain ⟨Fy,h⟩ := h
    obtain ⟨Fz,h⟩ := h
    obtain ⟨L0,h⟩ := h
    obtain ⟨L1,h⟩ := h
    obtain ⟨L2,h⟩ := h
    obtain ⟨L3,h⟩ := h
    obtain ⟨L4,h⟩ := h
    obtain ⟨L5,h⟩ := h
    obtain ⟨L6,h⟩ := h
    obtain ⟨L7,h⟩ := h
    obtain ⟨L8,h⟩ := h
    obtain ⟨L9,h⟩ := h
    obtain ⟨La,h⟩ := h
    obtain ⟨Lb,h⟩ := h
    obtain ⟨Lc,h⟩ := h
    obtain ⟨Ld,h⟩ := h
    obtain ⟨Le,h⟩ := h
    obtain ⟨Lf,h⟩ := h
    obtain ⟨Lg,h⟩ := h
    obtain ⟨Lh,h⟩ := h
    obtain ⟨Li,h⟩ := h
    obtain ⟨Lj,h⟩ := h
    obtain ⟨Lk,h⟩ := h
    obtain ⟨Ll,h⟩ := h
    obtain ⟨Lm,h⟩ := h
    obtain ⟨Ln,h⟩ := h
    obtain ⟨Lo,h⟩ := h
    obtain ⟨Lp,h⟩ := h
    obtain ⟨Lq,h⟩ := h
    obtain ⟨Lr,h⟩ := h
    obtain ⟨Ls,h⟩ := h
    obtain ⟨Lt,h⟩ := h
    obtain ⟨Lu,h⟩ := h
    obtain ⟨Lv,h⟩ := h
    obtain ⟨Lw,h⟩ := h
    obtain ⟨Lx,h⟩ := h
    obtain ⟨Ly,h⟩ := h
    obtain ⟨Lz,h⟩ := h
    obtain ⟨M0,h⟩ := h
    obtain ⟨M1,h⟩ := h
    obtain ⟨M2,h⟩ := h
    obtain ⟨M3,h⟩ := h
    obtain ⟨M4,h⟩ := h
    obtain ⟨M5,h⟩ := h
    obtain ⟨M6,h⟩ := h
    obtain ⟨M7,h⟩ := h
    obtain ⟨M8,h⟩ := h
    obtain ⟨M9,h⟩ := h
    obtain ⟨Ma,h⟩ := h
    obtain ⟨Mb,h⟩ := h
    obtain ⟨Mc,h⟩ := h
    obtain ⟨Md,h⟩ := h
    obtain ⟨Me,h⟩ := h
    obtain ⟨Mf,h⟩ := h
    obtain ⟨Mg,h⟩ := h
    obtain ⟨Mh,h⟩ := h
    obtain ⟨Mi,h⟩ := h
    obtain ⟨Mj,h⟩ := h
    obtain ⟨Mk,h⟩ := h
    obtain ⟨Ml,h⟩ := h
    obtain ⟨Mm,h⟩ := h
    obtain ⟨Mn,h⟩ := h
    obtain ⟨Mo,h⟩ := h
    obtain ⟨Mp,h⟩ := h
    obtain ⟨j,t,⟨Hn,hb⟩,hp,HEr,ha⟩ := h
    subst ha
    have HP := hidMk hp
    have HAT := hidMk (HS.out.pb hp)
    have c1 := HAT.out.job.at_ 3 (.int .i64 J.t2) rfl
    have wy : IntKind.i64.wrap (t + 1) = t + 1 := IntWalk.i64_in _ (by omega)
    have HWY := hidMk wy
    clear hp wy
    by_cases hle : t ≤ J.t2
    · have hat := nums_at (a := J.t1) (b := J.t2) (j := j) (by have := Hn.out; omega)
      rw [← Hn.out] at hat
      have hps := hidMk (pre_succ (F := (fun t => (nums J.r1 J.r2).flatMap fun r => allT J l ⟨n,t,r⟩ [])) hat)
      have hpl := hidMk (pre_len (fun t => (nums J.r1 J.r2).flatMap fun r => allT J l ⟨n,t,r⟩ []) (nums J.t1 J.t2) (j + 1))
      clear hat
      have hvb : J.t1 ≤ t := by have := Hn.out; omega
      have hcap2 : (e.notes J (((nums J.t1 J.t2).take j).flatMap (fun t => (nums J.r1 J.r2).flatMap fun r => allT J l ⟨n,t,r⟩ []))).truths + ((((nums J.r1 J.r2).flatMap fun r => allT J l ⟨n,t,r⟩ [])).length : Int) ≤ capN := by
        rw [notes_truths]
        have h3 := hpl.out
        rw [hps.out,List.length_append] at h3
        have h4 := HCAP.out
        skip
        (try simp only at h3)
        omega
      have HCAP2 := hidMk hcap2
      have HVB := hidMk (show 0 ≤ t ∧ t ≤ 100 by omega)
      clear hcap2
      go_wp2_with fail
      refine mC HAT.out HEr.out (En.Ok.notes _ HO.out) HF.out HJ.out HL.out H12.out hl6 hn HVB.out HCAP2.out ?_
      intro w' hp' hE'
      have HP2 := hidMk (HP.out.trans hp' HP.out.size)
      have HE2 := hidMk hE'
      clear hp' hE' c1
      intros
      have wy := HWY.out
      go_wp2_with fail
      refine ⟨⟨_,_,_,_,_,_,_,_,_,_,_,_,_,_,_,_,_,_,_,_,_,_,_,_,_,_,_,_,_,_,_,_,_,_,_,_,_,_,_,_,_,_,_,_,_,_,_,_,_,_,_,_,_,_,_,_,_,_,_,_,_,_,_,_,_,_,_,_,_,_,_,_,_,_,_,_,_,_,_,_,_,_,_,_,_,_,_,_,_,_,_,_,_,_,_,_,_,_,_,_,_,_,_,_,_,_,_,_,_,_,_,_,_,_,_,_,_,_,_,_,_,_,_,_,_,_,_,_,_,_,_,_,_,_,_,_,_,_,_,_,_,_,_,_,_,_,_,_,_,_,_,_,_,_,_,_,_,_,_,_,_,_,_,_,_,_,_,_,_,_,_,_,_,_,_,_,_,_,_,_,_,_,_,_,_,_,_,_,_,_,_,_,_,_,_,_,_,_,_,_,_,_,_,_,_,_,_,_,_,_,_,_,_,_,_,_,_,_,_,_,_,_,_,_,_,_,_,_,_,_,_,_,_,_,_,_,_,_,_,_,_,_,_,_,_,_,j + 1,t + 1,⟨hidMk (by rw [Hn.out]; push_cast; omega),by omega⟩,HP2.out,hidMk ?_,rfl⟩,by simp [intOf]; omega⟩
      rw [hps.out,notes_append]
      exact HE2.out
    · have hall := hidMk (pre_all (F := (fun t => (nums J.r1 J.r2).flatMap fun r => allT J l ⟨n,t,r⟩ [])) (a := J.t1) (b := J.t2) (j := j) (by have := Hn.out; omega))
      have HEF : Hid (Bk wr bx 54 (enC (e.notes J ((nums J.t1 J.t2).flatMap (fun t => (nums J.r1 J.r2).flatMap fun r => allT J l ⟨n,t,r⟩ []))))) := by
        have h3 := HEr.out
        rw [hall.out] at h3
        exact hidMk h3
      clear HEr
      go_wp2_with fail
      exact HK.out _ HP.out HEF.out _ _ _ _ _ _ _ _ _ _ _ _ _ _ _ _ _ _ _ _ _ _ _ _ _ _ _ _ _ _ _ _ _ _ _ _ _ _ _ _ _ _ _ _ _ _ _ _ _ _ _ _ _ _ _ _ _ _ _ _ _ _ _ _ _ _ _ _ _ _ _ _ _ _ _ _ _ _ _ _ _ _ _ _ _ _ _ _ _ _ _ _ _ _ _ _ _ _ _ _ _ _ _ _ _ _ _ _ _ _ _ _ _ _ _ _ _ _ _ _ _ _ _ _ _ _ _ _ _ _ _ _ _ _ _ _ _ _ _ _ _ _ _ _ _ _ _ _ _ _ _ _ _ _ _ _ _ _ _ _ _ _ _ _ _ _ _ _ _ _ _ _ _ _ _ _ _ _ _ _ _ _ _ _ _ _ _ _ _ _ _ _ _ _ _ _ _ _ _ _ _ _ _ _ _ _ _ _ _ _ _ _ _ _ _ _ _ _ _ _ _ _ _ _ _ _ _ _ _ _ _ _ _ _ _ _ _ _ _ _ _ _ _ _ _ _ _ 
set_option maxHeartbeats 9000000 in
set_option maxRecDepth 1000000 in
theorem mA {w0 w : World} {g4 bx : Nat} {J : Jb} {ja : Option Addr} {jn jc : Nat} {la : Option Addr} {ln lc : Nat} {l : List Int} {e : En}  {turn : Int} {Q : Exit → Act → World → Prop} {u0 u1 u2 u3 u5 u9 A0 A1 A2 A3 A4 A5 A6 A7 A8 A9 Aa Ab Ac Ad Ae Af Ag Ah Ai Aj Ak Al Am An Ao Ap Aq Ar As At Au Av Aw Ax Ay Az C0 C1 C2 C3 C4 C5 C6 C7 C8 C9 Ca Cb Cc Cd Ce Cf Cg Ch Ci Cj Ck Cl Cm Cn Co Cp Cq Cr Cs Ct Cu Cv Cw Cx Cy Cz D0 D1 D2 D3 D4 D5 D6 D7 D8 D9 Da Db Dc Dd De Df Dg Dh Di Dj Dk Dl Dm Dn Do Dp Dq Dr Ds Dt Du Dv Dw Dx Dy Dz E0 E1 E2 E3 E4 E5 E6 E7 E8 E9 Ea Eb Ec Ed Ee Ef Eg Eh Ei Ej Ek El Em u141 Eo Ep Eq Er Es Et Eu Ev Ew Ex Ey Ez F0 F1 F2 F3 F4 F5 F6 F7 F8 F9 Fa Fb Fc Fd Fe Ff Fg Fh Fi Fj Fk Fl Fm Fn Fo Fp Fq Fr Fs Ft Fu Fv Fw Fx Fy Fz L0 L1 L2 L3 L4 L5 L6 L7 L8 L9 La Lb Lc Ld Le Lf Lg Lh Li Lj Lk Ll Lm Ln Lo Lp Lq Lr Ls Lt Lu Lv Lw Lx Ly Lz M0 M1 M2 M3 M4 M5 M6 M7 M8 M9 Ma Mb Mc Md Me Mf Mg Mh Mi Mj Mk Ml Mm Mn Mo Mp : Value} (hs : ML w0 w g4 bx J ja jn jc la l) (hE : Bk w bx 54 (enC e)) (ho : e.Ok) (hF : J.Full) (hjn : jn = J.sh.length ∧ jn ≤ 1000) (hln : ln = l.length ∧ ln ≤ lc) (h12 : ∀ s ∈ l,s = 1 ∨ s = 2) (hl6 : l.length ≤ 6) (hcap : e.truths + (((rootT J l)).length : Int) ≤ capN) (hK : ∀ (w' : World),PB bx w.heap.size w w' → Bk w' bx 54 (enC (e.notes J (rootT J l))) → ∀ (u0 u1 u2 u3 u5 u9 A0 A1 A2 A3 A4 A5 A6 A7 A8 A9 Aa Ab Ac Ad Ae Af Ag Ah Ai Aj Ak Al Am An Ao Ap Aq Ar As At Au Av Aw Ax Ay Az C0 C1 C2 C3 C4 C5 C6 C7 C8 C9 Ca Cb Cc Cd Ce Cf Cg Ch Ci Cj Ck Cl Cm Cn Co Cp Cq Cr Cs Ct Cu Cv Cw Cx Cy Cz D0 D1 D2 D3 D4 D5 D6 D7 D8 D9 Da Db Dc Dd De Df Dg Dh Di Dj Dk Dl Dm Dn Do Dp Dq Dr Ds Dt Du Dv Dw Dx Dy Dz E0 E1 E2 E3 E4 E5 E6 E7 E8 E9 Ea Eb Ec Ed Ee Ef Eg Eh Ei Ej Ek El Em u141 Eo Ep Eq Er Es Et Eu Ev Ew Ex Ey Ez F0 F1 F2 F3 F4 F5 F6 F7 F8 F9 Fa Fb Fc Fd Fe Ff Fg Fh Fi Fj Fk Fl Fm Fn Fo Fp Fq Fr Fs Ft Fu Fv Fw Fx Fy Fz L0 L1 L2 L3 L4 L5 L6 L7 L8 L9 La Lb Lc Ld Le Lf Lg Lh Li Lj Lk Ll Lm Ln Lo Lp Lq Lr Ls Lt Lu Lv Lw Lx Ly Lz M0 M1 M2 M3 M4 M5 M6 M7 M8 M9 Ma Mb Mc Md Me Mf Mg Mh Mi Mj Mk Ml Mm Mn Mo Mp : Value),Code.wp Try.prog tb2 Q ⟨#[u0,u1,u2,u3,(.pointer (some ⟨g4,0,none⟩)),u5,(.slice la ln lc),(.int .i64 turn),(.pointer (some ⟨bx,0,none⟩)),u9,A0,A1,A2,A3,A4,A5,A6,A7,A8,A9,Aa,Ab,Ac,Ad,Ae,Af,Ag,Ah,Ai,Aj,Ak,Al,Am,An,Ao,Ap,Aq,Ar,As,At,Au,Av,Aw,Ax,Ay,Az,C0,C1,C2,C3,C4,C5,C6,C7,C8,C9,Ca,Cb,Cc,Cd,Ce,Cf,Cg,Ch,Ci,Cj,Ck,Cl,Cm,Cn,Co,Cp,Cq,Cr,Cs,Ct,Cu,Cv,Cw,Cx,Cy,Cz,D0,D1,D2,D3,D4,D5,D6,D7,D8,D9,Da,Db,Dc,Dd,De,Df,Dg,Dh,Di,Dj,Dk,Dl,Dm,Dn,Do,Dp,Dq,Dr,Ds,Dt,Du,Dv,Dw,Dx,Dy,Dz,E0,E1,E2,E3,E4,E5,E6,E7,E8,E9,Ea,Eb,Ec,Ed,Ee,Ef,Eg,Eh,Ei,Ej,Ek,El,Em,u141,Eo,Ep,Eq,Er,Es,Et,Eu,Ev,Ew,Ex,Ey,Ez,F0,F1,F2,F3,F4,F5,F6,F7,F8,F9,Fa,Fb,Fc,Fd,Fe,Ff,Fg,Fh,Fi,Fj,Fk,Fl,Fm,Fn,Fo,Fp,Fq,Fr,Fs,Ft,Fu,Fv,Fw,Fx,Fy,Fz,L0,L1,L2,L3,L4,L5,L6,L7,L8,L9,La,Lb,Lc,Ld,Le,Lf,Lg,Lh,Li,Lj,Lk,Ll,Lm,Ln,Lo,Lp,Lq,Lr,Ls,Lt,Lu,Lv,Lw,Lx,Ly,Lz,M0,M1,M2,M3,M4,M5,M6,M7,M8,M9,Ma,Mb,Mc,Md,Me,Mf,Mg,Mh,Mi,Mj,Mk,Ml,Mm,Mn,Mo,Mp],[]⟩ w') : Code.wp Try.prog tb1 Q ⟨#[u0,u1,u2,u3,(.pointer (some ⟨g4,0,none⟩)),u5,(.slice la ln lc),(.int .i64 turn),(.pointer (some ⟨bx,0,none⟩)),u9,A0,A1,A2,A3,A4,A5,A6,A7,A8,A9,Aa,Ab,Ac,Ad,Ae,Af,Ag,Ah,Ai,Aj,Ak,Al,Am,An,Ao,Ap,Aq,Ar,As,At,Au,Av,Aw,Ax,Ay,Az,C0,C1,C2,C3,C4,C5,C6,C7,C8,C9,Ca,Cb,Cc,Cd,Ce,Cf,Cg,Ch,Ci,Cj,Ck,Cl,Cm,Cn,Co,Cp,Cq,Cr,Cs,Ct,Cu,Cv,Cw,Cx,Cy,Cz,D0,D1,D2,D3,D4,D5,D6,D7,D8,D9,Da,Db,Dc,Dd,De,Df,Dg,Dh,Di,Dj,Dk,Dl,Dm,Dn,Do,Dp,Dq,Dr,Ds,Dt,Du,Dv,Dw,Dx,Dy,Dz,E0,E1,E2,E3,E4,E5,E6,E7,E8,E9,Ea,Eb,Ec,Ed,Ee,Ef,Eg,Eh,Ei,Ej,Ek,El,Em,u141,Eo,Ep,Eq,Er,Es,Et,Eu,Ev,Ew,Ex,Ey,Ez,F0,F1,F2,F3,F4,F5,F6,F7,F8,F9,Fa,Fb,Fc,Fd,Fe,Ff,Fg,Fh,Fi,Fj,Fk,Fl,Fm,Fn,Fo,Fp,Fq,Fr,Fs,Ft,Fu,Fv,Fw,Fx,Fy,Fz,L0,L1,L2,L3,L4,L5,L6,L7,L8,L9,La,Lb,Lc,Ld,Le,Lf,Lg,Lh,Li,Lj,Lk,Ll,Lm,Ln,Lo,Lp,Lq,Lr,Ls,Lt,Lu,Lv,Lw,Lx,Ly,Lz,M0,M1,M2,M3,M4,M5,M6,M7,M8,M9,Ma,Mb,Mc,Md,Me,Mf,Mg,Mh,Mi,Mj,Mk,Ml,Mm,Mn,Mo,Mp],[]⟩ w := by
  have HS := hidMk hs
  have HE := hidMk hE
  have HO := hidMk ho
  have HCAP := hidMk hcap
  have HF := hidMk hF
  have HJ := hidMk hjn
  have HL := hidMk hln
  have H12 := hidMk h12
  have HK := hidMk hK
  clear hs hE ho hcap hF hjn hln h12 hK
  rw [tb1_cut]
  obtain ⟨qp,qt,qr,-,-,-,-,-,-,-,-,-⟩ := HF.out
  have HIN := hidMk ((check_ok HF.out.check).inn.mono (by decide : (100 : Int) ≤ 1000))
  have c0 := HS.out.job.at_ 0 (.int .i64 J.p1) rfl
  refine wp_seq_k fun KA hKA => ?_
  go_wp2_with fail
  clear c0
  refine wp_loop (fun a wr => ∃ (u0 u1 u2 u3 u5 A0 A1 A2 A3 A4 A5 A6 A7 A8 A9 Aa Ab Ac Ad Ae Af Ag Ah Ai Aj Ak Al Am An Ao Ap Aq Ar As At Au Av Aw Ax Ay Az C0 C1 C2 C3 C4 C5 C6 C7 C8 C9 Ca Cb Cc Cd Ce Cf Cg Ch Ci Cj Ck Cl Cm Cn Co Cp Cq Cr Cs Ct Cu Cv Cw Cx Cy Cz D0 D1 D2 D3 D4 D5 D6 D7 D8 D9 Da Db Dc Dd De Df Dg Dh Di Dj Dk Dl Dm Dn Do Dp Dq Dr Ds Dt Du Dv Dw Dx Dy Dz E0 E1 E2 E3 E4 E5 E6 E7 E8 E9 Ea Eb Ec Ed Ee Ef Eg Eh Ei Ej Ek El Em u141 Eo Ep Eq Er Es Et Eu Ev Ew Ex Ey Ez F0 F1 F2 F3 F4 F5 F6 F7 F8 F9 Fa Fb Fc Fd Fe Ff Fg Fh Fi Fj Fk Fl Fm Fn Fo Fp Fq Fr Fs Ft Fu Fv Fw Fx Fy Fz L0 L1 L2 L3 L4 L5 L6 L7 L8 L9 La Lb Lc Ld Le Lf Lg Lh Li Lj Lk Ll Lm Ln Lo Lp Lq Lr Ls Lt Lu Lv Lw Lx Ly Lz M0 M1 M2 M3 M4 M5 M6 M7 M8 M9 Ma Mb Mc Md Me Mf Mg Mh Mi Mj Mk Ml Mm Mn Mo Mp : Value) (j : Nat) (n : Int),(Hid (n = J.p1 + (j : Int)) ∧ (-61 ≤ n ∧ n ≤ 61)) ∧ PB bx w.heap.size w wr ∧ Hid (Bk wr bx 54 (enC (e.notes J (((nums J.p1 J.p2).take j).flatMap (fun n => (nums J.t1 J.t2).flatMap fun t => (nums J.r1 J.r2).flatMap fun r => allT J l ⟨n,t,r⟩ []))))) ∧ a = ⟨#[u0,u1,u2,u3,(.pointer (some ⟨g4,0,none⟩)),u5,(.slice la ln lc),(.int .i64 turn),(.pointer (some ⟨bx,0,none⟩)),(.int .i64 n),A0,A1,A2,A3,A4,A5,A6,A7,A8,A9,Aa,Ab,Ac,Ad,Ae,Af,Ag,Ah,Ai,Aj,Ak,Al,Am,An,Ao,Ap,Aq,Ar,As,At,Au,Av,Aw,Ax,Ay,Az,C0,C1,C2,C3,C4,C5,C6,C7,C8,C9,Ca,Cb,Cc,Cd,Ce,Cf,Cg,Ch,Ci,Cj,Ck,Cl,Cm,Cn,Co,Cp,Cq,Cr,Cs,Ct,Cu,Cv,Cw,Cx,Cy,Cz,D0,D1,D2,D3,D4,D5,D6,D7,D8,D9,Da,Db,Dc,Dd,De,Df,Dg,Dh,Di,Dj,Dk,Dl,Dm,Dn,Do,Dp,Dq,Dr,Ds,Dt,Du,Dv,Dw,Dx,Dy,Dz,E0,E1,E2,E3,E4,E5,E6,E7,E8,E9,Ea,Eb,Ec,Ed,Ee,Ef,Eg,Eh,Ei,Ej,Ek,El,Em,u141,Eo,Ep,Eq,Er,Es,Et,Eu,Ev,Ew,Ex,Ey,Ez,F0,F1,F2,F3,F4,F5,F6,F7,F8,F9,Fa,Fb,Fc,Fd,Fe,Ff,Fg,Fh,Fi,Fj,Fk,Fl,Fm,Fn,Fo,Fp,Fq,Fr,Fs,Ft,Fu,Fv,Fw,Fx,Fy,Fz,L0,L1,L2,L3,L4,L5,L6,L7,L8,L9,La,Lb,Lc,Ld,Le,Lf,Lg,Lh,Li,Lj,Lk,Ll,Lm,Ln,Lo,Lp,Lq,Lr,Ls,Lt,Lu,Lv,Lw,Lx,Ly,Lz,M0,M1,M2,M3,M4,M5,M6,M7,M8,M9,Ma,Mb,Mc,Md,Me,Mf,Mg,Mh,Mi,Mj,Mk,Ml,Mm,Mn,Mo,Mp],[]⟩) (fun a _ => (J.p2 + 1 - intOf (a.tmps.getD 9 undef)).toNat) ?_ ?_
  · exact ⟨_,_,_,_,_,_,_,_,_,_,_,_,_,_,_,_,_,_,_,_,_,_,_,_,_,_,_,_,_,_,_,_,_,_,_,_,_,_,_,_,_,_,_,_,_,_,_,_,_,_,_,_,_,_,_,_,_,_,_,_,_,_,_,_,_,_,_,_,_,_,_,_,_,_,_,_,_,_,_,_,_,_,_,_,_,_,_,_,_,_,_,_,_,_,_,_,_,_,_,_,_,_,_,_,_,_,_,_,_,_,_,_,_,_,_,_,_,_,_,_,_,_,_,_,_,_,_,_,_,_,_,_,_,_,_,_,_,_,_,_,_,_,_,_,_,_,_,_,_,_,_,_,_,_,_,_,_,_,_,_,_,_,_,_,_,_,_,_,_,_,_,_,_,_,_,_,_,_,_,_,_,_,_,_,_,_,_,_,_,_,_,_,_,_,_,_,_,_,_,_,_,_,_,_,_,_,_,_,_,_,_,_,_,_,_,_,_,_,_,_,_,_,_,_,_,_,_,_,_,_,_,_,_,_,_,_,_,_,_,_,_,_,_,_,_,_,_,0,J.p1,⟨hidMk (by simp),by omega⟩,PB.refl _ _ _,HE,rfl⟩
  · intro a wr h
    obtain ⟨u0,h⟩ := h
    obtain ⟨u1,h⟩ := h
    obtain ⟨u2,h⟩ := h
    obtain ⟨u3,h⟩ := h
    obtain ⟨u5,h⟩ := h
    obtain ⟨A0,h⟩ := h
    obtain ⟨A1,h⟩ := h
    obtain ⟨A2,h⟩ := h
    obtain ⟨A3,h⟩ := h
    obtain ⟨A4,h⟩ := h
    obtain ⟨A5,h⟩ := h
    obtain ⟨A6,h⟩ := h
    obtain ⟨A7,h⟩ := h
    obtain ⟨A8,h⟩ := h
    obtain ⟨A9,h⟩ := h
    obtain ⟨Aa,h⟩ := h
    obtain ⟨Ab,h⟩ := h
    obtain ⟨Ac,h⟩ := h
    obtain ⟨Ad,h⟩ := h
    obtain ⟨Ae,h⟩ := h
    obtain ⟨Af,h⟩ := h
    obtain ⟨Ag,h⟩ := h
    obtain ⟨Ah,h⟩ := h
    obtain ⟨Ai,h⟩ := h
    obtain ⟨Aj,h⟩ := h
    obtain ⟨Ak,h⟩ := h
    obtain ⟨Al,h⟩ := h
    obtain ⟨Am,h⟩ := h
    obtain ⟨An,h⟩ := h
    obtain ⟨Ao,h⟩ := h
    obtain ⟨Ap,h⟩ := h
    obtain ⟨Aq,h⟩ := h
    obtain ⟨Ar,h⟩ := h
    obtain ⟨As,h⟩ := h
    obtain ⟨At,h⟩ := h
    obtain ⟨Au,h⟩ := h
    obtain ⟨Av,h⟩ := h
    obtain ⟨Aw,h⟩ := h
    obtain ⟨Ax,h⟩ := h
    obtain ⟨Ay,h⟩ := h
    obtain ⟨Az,h⟩ := h
    obtain ⟨C0,h⟩ := h
    obtain ⟨C1,h⟩ := h
    obtain ⟨C2,h⟩ := h
    obtain ⟨C3,h⟩ := h
    obtain ⟨C4,h⟩ := h
    obtain ⟨C5,h⟩ := h
    obtain ⟨C6,h⟩ := h
    obtain ⟨C7,h⟩ := h
    obtain ⟨C8,h⟩ := h
    obtain ⟨C9,h⟩ := h
    obtain ⟨Ca,h⟩ := h
    obtain ⟨Cb,h⟩ := h
    obtain ⟨Cc,h⟩ := h
    obtain ⟨Cd,h⟩ := h
    obtain ⟨Ce,h⟩ := h
    obtain ⟨Cf,h⟩ := h
    obtain ⟨Cg,h⟩ := h
    obtain ⟨Ch,h⟩ := h
    obtain ⟨Ci,h⟩ := h
    obtain ⟨Cj,h⟩ := h
    obtain ⟨Ck,h⟩ := h
    obtain ⟨Cl,h⟩ := h
    obtain ⟨Cm,h⟩ := h
    obtain ⟨Cn,h⟩ := h
    obtain ⟨Co,h⟩ := h
    obtain ⟨Cp,h⟩ := h
    obtain ⟨Cq,h⟩ := h
    obtain ⟨Cr,h⟩ := h
    obtain ⟨Cs,h⟩ := h
    obtain ⟨Ct,h⟩ := h
    obtain ⟨Cu,h⟩ := h
    obtain ⟨Cv,h⟩ := h
    obtain ⟨Cw,h⟩ := h
    obtain ⟨Cx,h⟩ := h
    obtain ⟨Cy,h⟩ := h
    obtain ⟨Cz,h⟩ := h
    obtain ⟨D0,h⟩ := h
    obtain ⟨D1,h⟩ := h
    obtain ⟨D2,h⟩ := h
    obtain ⟨D3,h⟩ := h
    obtain ⟨D4,h⟩ := h
    obtain ⟨D5,h⟩ := h
    obtain ⟨D6,h⟩ := h
    obtain ⟨D7,h⟩ := h
    obtain ⟨D8,h⟩ := h
    obtain ⟨D9,h⟩ := h
    obtain ⟨Da,h⟩ := h
    obtain ⟨Db,h⟩ := h
    obtain ⟨Dc,h⟩ := h
    obtain ⟨Dd,h⟩ := h
    obtain ⟨De,h⟩ := h
    obtain ⟨Df,h⟩ := h
    obtain ⟨Dg,h⟩ := h
    obtain ⟨Dh,h⟩ := h
    obtain ⟨Di,h⟩ := h
    obtain ⟨Dj,h⟩ := h
    obtain ⟨Dk,h⟩ := h
    obtain ⟨Dl,h⟩ := h
    obtain ⟨Dm,h⟩ := h
    obtain ⟨Dn,h⟩ := h
    obtain ⟨Do,h⟩ := h
    obtain ⟨Dp,h⟩ := h
    obtain ⟨Dq,h⟩ := h
    obtain ⟨Dr,h⟩ := h
    obtain ⟨Ds,h⟩ := h
    obtain ⟨Dt,h⟩ := h
    obtain ⟨Du,h⟩ := h
    obtain ⟨Dv,h⟩ := h
    obtain ⟨Dw,h⟩ := h
    obtain ⟨Dx,h⟩ := h
    obtain ⟨Dy,h⟩ := h
    obtain ⟨Dz,h⟩ := h
    obtain ⟨E0,h⟩ := h
    obtain ⟨E1,h⟩ := h
    obtain ⟨E2,h⟩ := h
    obtain ⟨E3,h⟩ := h
    obtain ⟨E4,h⟩ := h
    obtain ⟨E5,h⟩ := h
    obtain ⟨E6,h⟩ := h
    obtain ⟨E7,h⟩ := h
    obtain ⟨E8,h⟩ := h
    obtain ⟨E9,h⟩ := h
    obtain ⟨Ea,h⟩ := h
    obtain ⟨Eb,h⟩ := h
    obtain ⟨Ec,h⟩ := h
    obtain ⟨Ed,h⟩ := h
    obtain ⟨Ee,h⟩ := h
    obtain ⟨Ef,h⟩ := h
    obtain ⟨Eg,h⟩ := h
    obtain ⟨Eh,h⟩ := h
    obtain ⟨Ei,h⟩ := h
    obtain ⟨Ej,h⟩ := h
    obtain ⟨Ek,h⟩ := h
    obtain ⟨El,h⟩ := h
    obtain ⟨Em,h⟩ := h
    obtain ⟨u141,h⟩ := h
    obtain ⟨Eo,h⟩ := h
    obtain ⟨Ep,h⟩ := h
    obtain ⟨Eq,h⟩ := h
    obtain ⟨Er,h⟩ := h
    obtain ⟨Es,h⟩ := h
    obtain ⟨Et,h⟩ := h
    obtain ⟨Eu,h⟩ := h
    obtain ⟨Ev,h⟩ := h
    obtain ⟨Ew,h⟩ := h
    obtain ⟨Ex,h⟩ := h
    obtain ⟨Ey,h⟩ := h
    obtain ⟨Ez,h⟩ := h
    obtain ⟨F0,h⟩ := h
    obtain ⟨F1,h⟩ := h
    obtain ⟨F2,h⟩ := h
    obtain ⟨F3,h⟩ := h
    obtain ⟨F4,h⟩ := h
    obtain ⟨F5,h⟩ := h
    obtain ⟨F6,h⟩ := h
    obtain ⟨F7,h⟩ := h
    obtain ⟨F8,h⟩ := h
    obtain ⟨F9,h⟩ := h
    obtain ⟨Fa,h⟩ := h
    obtain ⟨Fb,h⟩ := h
    obtain ⟨Fc,h⟩ := h
    obtain ⟨Fd,h⟩ := h
    obtain ⟨Fe,h⟩ := h
    obtain ⟨Ff,h⟩ := h
    obtain ⟨Fg,h⟩ := h
    obtain ⟨Fh,h⟩ := h
    obtain ⟨Fi,h⟩ := h
    obtain ⟨Fj,h⟩ := h
    obtain ⟨Fk,h⟩ := h
    obtain ⟨Fl,h⟩ := h
    obtain ⟨Fm,h⟩ := h
    obtain ⟨Fn,h⟩ := h
    obtain ⟨Fo,h⟩ := h
    obtain ⟨Fp,h⟩ := h
    obtain ⟨Fq,h⟩ := h
    obtain ⟨Fr,h⟩ := h
    obtain ⟨Fs,h⟩ := h
    obtain ⟨Ft,h⟩ := h
    obtain ⟨Fu,h⟩ := h
    obtain ⟨Fv,h⟩ := h
    obtain ⟨Fw,h⟩ := h
    obtain ⟨Fx,h⟩ := h
    obtain ⟨Fy,h⟩ := h
    obtain ⟨Fz,h⟩ := h
    obtain ⟨L0,h⟩ := h
    obtain ⟨L1,h⟩ := h
    obtain ⟨L2,h⟩ := h
    obtain ⟨L3,h⟩ := h
    obtain ⟨L4,h⟩ := h
    obtain ⟨L5,h⟩ := h
    obtain ⟨L6,h⟩ := h
    obtain ⟨L7,h⟩ := h
    obtain ⟨L8,h⟩ := h
    obtain ⟨L9,h⟩ := h
    obtain ⟨La,h⟩ := h
    obtain ⟨Lb,h⟩ := h
    obtain ⟨Lc,h⟩ := h
    obtain ⟨Ld,h⟩ := h
    obtain ⟨Le,h⟩ := h
    obtain ⟨Lf,h⟩ := h
    obtain ⟨Lg,h⟩ := h
    obtain ⟨Lh,h⟩ := h
    obtain ⟨Li,h⟩ := h
    obtain ⟨Lj,h⟩ := h
    obtain ⟨Lk,h⟩ := h
    obtain ⟨Ll,h⟩ := h
    obtain ⟨Lm,h⟩ := h
    obtain ⟨Ln,h⟩ := h
    obtain ⟨Lo,h⟩ := h
    obtain ⟨Lp,h⟩ := h
    obtain ⟨Lq,h⟩ := h
    obtain ⟨Lr,h⟩ := h
    obtain ⟨Ls,h⟩ := h
    obtain ⟨Lt,h⟩ := h
    obtain ⟨Lu,h⟩ := h
    obtain ⟨Lv,h⟩ := h
    obtain ⟨Lw,h⟩ := h
    obtain ⟨Lx,h⟩ := h
    obtain ⟨Ly,h⟩ := h
    obtain ⟨Lz,h⟩ := h
    obtain ⟨M0,h⟩ := h
    obtain ⟨M1,h⟩ := h
    obtain ⟨M2,h⟩ := h
    obtain ⟨M3,h⟩ := h
    obtain ⟨M4,h⟩ := h
    obtain ⟨M5,h⟩ := h
    obtain ⟨M6,h⟩ := h
    obtain ⟨M7,h⟩ := h
    obtain ⟨M8,h⟩ := h
    obtain ⟨M9,h⟩ := h
    obtain ⟨Ma,h⟩ := h
    obtain ⟨Mb,h⟩ := h
    obtain ⟨Mc,h⟩ := h
    obtain ⟨Md,h⟩ := h
    obtain ⟨Me,h⟩ := h
    obtain ⟨Mf,h⟩ := h
    obtain ⟨Mg,h⟩ := h
    obtain ⟨Mh,h⟩ := h
    obtain ⟨Mi,h⟩ := h
    obtain ⟨Mj,h⟩ := h
    obtain ⟨Mk,h⟩ := h
    obtain ⟨Ml,h⟩ := h
    obtain ⟨Mm,h⟩ := h
    obtain ⟨Mn,h⟩ := h
    obtain ⟨Mo,h⟩ := h
    obtain ⟨Mp,h⟩ := h
    obtain ⟨j,n,⟨Hn,hb⟩,hp,HEr,ha⟩ := h
    subst ha
    have HP := hidMk hp
    have HAT := hidMk (HS.out.pb hp)
    have c1 := HAT.out.job.at_ 1 (.int .i64 J.p2) rfl
    have wy : IntKind.i64.wrap (n + 1) = n + 1 := IntWalk.i64_in _ (by omega)
    have HWY := hidMk wy
    clear hp wy
    by_cases hle : n ≤ J.p2
    · have hat := nums_at (a := J.p1) (b := J.p2) (j := j) (by have := Hn.out; omega)
      rw [← Hn.out] at hat
      have hps := hidMk (pre_succ (F := (fun n => (nums J.t1 J.t2).flatMap fun t => (nums J.r1 J.r2).flatMap fun r => allT J l ⟨n,t,r⟩ [])) hat)
      have hpl := hidMk (pre_len (fun n => (nums J.t1 J.t2).flatMap fun t => (nums J.r1 J.r2).flatMap fun r => allT J l ⟨n,t,r⟩ []) (nums J.p1 J.p2) (j + 1))
      clear hat
      have hvb : J.p1 ≤ n := by have := Hn.out; omega
      have hcap2 : (e.notes J (((nums J.p1 J.p2).take j).flatMap (fun n => (nums J.t1 J.t2).flatMap fun t => (nums J.r1 J.r2).flatMap fun r => allT J l ⟨n,t,r⟩ []))).truths + ((((nums J.t1 J.t2).flatMap fun t => (nums J.r1 J.r2).flatMap fun r => allT J l ⟨n,t,r⟩ [])).length : Int) ≤ capN := by
        rw [notes_truths]
        have h3 := hpl.out
        rw [hps.out,List.length_append] at h3
        have h4 := HCAP.out
        unfold rootT at h4
        (try simp only at h3)
        omega
      have HCAP2 := hidMk hcap2
      have HVB := hidMk (show -60 ≤ n ∧ n ≤ 60 by omega)
      clear hcap2
      go_wp2_with fail
      refine mB HAT.out HEr.out (En.Ok.notes _ HO.out) HF.out HJ.out HL.out H12.out hl6 HVB.out HCAP2.out ?_
      intro w' hp' hE'
      have HP2 := hidMk (HP.out.trans hp' HP.out.size)
      have HE2 := hidMk hE'
      clear hp' hE' c1
      intros
      have wy := HWY.out
      go_wp2_with fail
      refine ⟨⟨_,_,_,_,_,_,_,_,_,_,_,_,_,_,_,_,_,_,_,_,_,_,_,_,_,_,_,_,_,_,_,_,_,_,_,_,_,_,_,_,_,_,_,_,_,_,_,_,_,_,_,_,_,_,_,_,_,_,_,_,_,_,_,_,_,_,_,_,_,_,_,_,_,_,_,_,_,_,_,_,_,_,_,_,_,_,_,_,_,_,_,_,_,_,_,_,_,_,_,_,_,_,_,_,_,_,_,_,_,_,_,_,_,_,_,_,_,_,_,_,_,_,_,_,_,_,_,_,_,_,_,_,_,_,_,_,_,_,_,_,_,_,_,_,_,_,_,_,_,_,_,_,_,_,_,_,_,_,_,_,_,_,_,_,_,_,_,_,_,_,_,_,_,_,_,_,_,_,_,_,_,_,_,_,_,_,_,_,_,_,_,_,_,_,_,_,_,_,_,_,_,_,_,_,_,_,_,_,_,_,_,_,_,_,_,_,_,_,_,_,_,_,_,_,_,_,_,_,_,_,_,_,_,_,_,_,_,_,_,_,_,_,_,_,_,_,_,j + 1,n + 1,⟨hidMk (by rw [Hn.out]; push_cast; omega),by omega⟩,HP2.out,hidMk ?_,rfl⟩,by simp [intOf]; omega⟩
      rw [hps.out,notes_append]
      exact HE2.out
    · have hall := hidMk (pre_all (F := (fun n => (nums J.t1 J.t2).flatMap fun t => (nums J.r1 J.r2).flatMap fun r => allT J l ⟨n,t,r⟩ [])) (a := J.p1) (b := J.p2) (j := j) (by have := Hn.out; omega))
      have HEF : Hid (Bk wr bx 54 (enC (e.notes J (rootT J l)))) := by
        have h3 := HEr.out
        rw [hall.out] at h3
        exact hidMk h3
      clear HEr
      go_wp2_with fail
      exact HK.out _ HP.out HEF.out _ _ _ _ _ _ _ _ _ _ _ _ _ _ _ _ _ _ _ _ _ _ _ _ _ _ _ _ _ _ _ _ _ _ _ _ _ _ _ _ _ _ _ _ _ _ _ _ _ _ _ _ _ _ _ _ _ _ _ _ _ _ _ _ _ _ _ _ _ _ _ _ _ _ _ _ _ _ _ _ _ _ _ _ _ _ _ _ _ _ _ _ _ _ _ _ _ _ _ _ _ _ _ _ _ _ _ _ _ _ _ _ _ _ _ _ _ _ _ _ _ _ _ _ _ _ _ _ _ _ _ _ _ _ _ _ _ _ _ _ _ _ _ _ _ _ _ _ _ _ _ _ _ _ _ _ _ _ _ _ _ _ _ _ _ _ _ _ _ _ _ _ _ _ _ _ _ _ _ _ _ _ _ _ _ _ _ _ _ _ _ _ _ _ _ _ _ _ _ _ _ _ _ _ _ _ _ _ _ _ _ _ _ _ _ _ _ _ _ _ _ _ _ _ _ _ _ _ _ _ _ _ _ _ _ _ _ _ _ _ _ _ _ _ _ _ _ _ 
end Go.Proofs.Ytolabejbhaeddaa
