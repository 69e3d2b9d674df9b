/- Part 13 of the proof: AlS, AlT. -/
import Derived.Great.Walk
import Derived.Deep.WholeRow
import Derived.Deep.MidRow
import Derived.Test.YtolabejbhaeddaaW08
/- The law ReedAll: the great comparison. -/
namespace Go.Proofs.Ytolabejbhaeddaa
set_option linter.all false
open Go.RowKit Go.Great
set_option maxRecDepth 1000000 in
def rao : Array Oper := #[⟨some 181,.move (.tmp 13),39,"outright.go:240",#[],none⟩,⟨some 182,.binOp .neq 39 (.tmp 181) (.const (.int .i64 0)) 39,4,"outright.go:240",#[⟨0,.data⟩],none⟩,⟨some 183,.move (.tmp 182),4,"outright.go:240",#[⟨1,.data⟩],none⟩,⟨some 184,.move (.tmp 15),39,"outright.go:240",#[⟨2,.guard⟩],some (2,false)⟩,⟨some 185,.binOp .neq 39 (.tmp 184) (.const (.int .i64 0)) 39,4,"outright.go:240",#[⟨3,.data⟩,⟨2,.guard⟩],some (2,false)⟩,⟨some 186,.pick (.tmp 183) (.const (.bool true)) (.tmp 185),4,"outright.go:240",#[⟨2,.data⟩,⟨4,.data⟩],none⟩,⟨some 187,.move (.tmp 186),4,"outright.go:240",#[⟨5,.data⟩,⟨2,.chain⟩],none⟩,⟨some 188,.move (.tmp 17),39,"outright.go:240",#[⟨6,.guard⟩],some (6,false)⟩,⟨some 189,.binOp .neq 39 (.tmp 188) (.const (.int .i64 0)) 39,4,"outright.go:240",#[⟨7,.data⟩,⟨6,.guard⟩],some (6,false)⟩,⟨some 190,.pick (.tmp 187) (.const (.bool true)) (.tmp 189),4,"outright.go:240",#[⟨6,.data⟩,⟨8,.data⟩],none⟩,⟨some 191,.move (.tmp 190),4,"outright.go:240",#[⟨9,.data⟩,⟨6,.chain⟩],none⟩,⟨some 192,.move (.tmp 19),39,"outright.go:240",#[⟨10,.guard⟩],some (10,false)⟩,⟨some 193,.binOp .neq 39 (.tmp 192) (.const (.int .i64 0)) 39,4,"outright.go:240",#[⟨11,.data⟩,⟨10,.guard⟩],some (10,false)⟩,⟨some 194,.pick (.tmp 191) (.const (.bool true)) (.tmp 193),4,"outright.go:240",#[⟨10,.data⟩,⟨12,.data⟩],none⟩,⟨some 195,.move (.tmp 194),4,"outright.go:240",#[⟨13,.data⟩,⟨10,.chain⟩],none⟩,⟨some 196,.load 25 (.tmp 12),25,"outright.go:240",#[⟨14,.guard⟩],some (14,false)⟩,⟨some 197,.fieldAddr 54 (.tmp 8) 0,0,"outright.go:240",#[⟨14,.guard⟩],some (14,false)⟩,⟨some 198,.load 23 (.tmp 197),23,"outright.go:240",#[⟨16,.data⟩,⟨14,.guard⟩],some (14,false)⟩,⟨some 199,.fieldAddr 54 (.tmp 8) 1,0,"outright.go:240",#[⟨14,.guard⟩],some (14,false)⟩,⟨some 200,.load 23 (.tmp 199),23,"outright.go:240",#[⟨18,.data⟩,⟨14,.guard⟩],some (14,false)⟩,⟨some 201,.fieldAddr 54 (.tmp 8) 2,0,"outright.go:240",#[⟨14,.guard⟩],some (14,false)⟩,⟨some 202,.load 23 (.tmp 201),23,"outright.go:240",#[⟨20,.data⟩,⟨14,.guard⟩],some (14,false)⟩,⟨some 203,.build 25 #[(0,.tmp 198),(1,.tmp 200),(2,.tmp 202)],25,"outright.go:240",#[⟨17,.data⟩,⟨19,.data⟩,⟨21,.data⟩,⟨14,.guard⟩],some (14,false)⟩,⟨some 204,.binOp .neq 25 (.tmp 196) (.tmp 203) 25,4,"outright.go:240",#[⟨15,.data⟩,⟨22,.data⟩,⟨14,.guard⟩],some (14,false)⟩,⟨some 205,.pick (.tmp 195) (.const (.bool true)) (.tmp 204),4,"outright.go:240",#[⟨14,.data⟩,⟨23,.data⟩],none⟩,⟨some 206,.move (.tmp 205),4,"outright.go:240",#[⟨24,.data⟩,⟨14,.chain⟩],none⟩,⟨some 207,.move (.tmp 14),3,"outright.go:240",#[⟨25,.guard⟩],some (25,false)⟩,⟨some 208,.fieldAddr 54 (.tmp 8) 3,0,"outright.go:240",#[⟨25,.guard⟩],some (25,false)⟩,⟨some 209,.load 3 (.tmp 208),3,"outright.go:240",#[⟨27,.data⟩,⟨25,.guard⟩],some (25,false)⟩,⟨some 210,.binOp .neq 3 (.tmp 207) (.tmp 209) 3,4,"outright.go:240",#[⟨26,.data⟩,⟨28,.data⟩,⟨25,.guard⟩],some (25,false)⟩,⟨some 211,.pick (.tmp 206) (.const (.bool true)) (.tmp 210),4,"outright.go:240",#[⟨25,.data⟩,⟨29,.data⟩],none⟩,⟨some 212,.move (.tmp 211),4,"outright.go:240",#[⟨30,.data⟩,⟨25,.chain⟩],none⟩,⟨some 213,.move (.tmp 16),3,"outright.go:240",#[⟨31,.guard⟩],some (31,false)⟩,⟨some 214,.fieldAddr 54 (.tmp 8) 5,0,"outright.go:240",#[⟨31,.guard⟩],some (31,false)⟩,⟨some 215,.load 3 (.tmp 214),3,"outright.go:240",#[⟨33,.data⟩,⟨31,.guard⟩],some (31,false)⟩,⟨some 216,.fieldAddr 54 (.tmp 8) 7,0,"outright.go:240",#[⟨31,.guard⟩],some (31,false)⟩,⟨some 217,.load 3 (.tmp 216),3,"outright.go:240",#[⟨35,.data⟩,⟨31,.guard⟩],some (31,false)⟩,⟨some 218,.call { callee := .value (.func 29),args := #[.tmp 215,.tmp 217],argTypes := #[3,3] },3,"outright.go:240",#[⟨34,.data⟩,⟨36,.data⟩,⟨31,.chain⟩,⟨31,.guard⟩],some (31,false)⟩,⟨some 219,.binOp .neq 3 (.tmp 213) (.tmp 218) 3,4,"outright.go:240",#[⟨32,.data⟩,⟨37,.data⟩,⟨31,.guard⟩],some (31,false)⟩,⟨some 220,.pick (.tmp 212) (.const (.bool true)) (.tmp 219),4,"outright.go:240",#[⟨31,.data⟩,⟨38,.data⟩],none⟩,⟨some 221,.move (.tmp 220),4,"outright.go:240",#[⟨39,.data⟩,⟨37,.chain⟩],none⟩,⟨some 222,.move (.tmp 18),3,"outright.go:240",#[⟨40,.guard⟩],some (40,false)⟩,⟨some 223,.fieldAddr 54 (.tmp 8) 6,0,"outright.go:240",#[⟨40,.guard⟩],some (40,false)⟩,⟨some 224,.load 3 (.tmp 223),3,"outright.go:240",#[⟨42,.data⟩,⟨40,.guard⟩],some (40,false)⟩,⟨some 225,.fieldAddr 54 (.tmp 8) 7,0,"outright.go:240",#[⟨40,.guard⟩],some (40,false)⟩,⟨some 226,.load 3 (.tmp 225),3,"outright.go:240",#[⟨44,.data⟩,⟨40,.guard⟩],some (40,false)⟩,⟨some 227,.call { callee := .value (.func 29),args := #[.tmp 224,.tmp 226],argTypes := #[3,3] },3,"outright.go:240",#[⟨43,.data⟩,⟨45,.data⟩,⟨40,.chain⟩,⟨40,.guard⟩],some (40,false)⟩,⟨some 228,.binOp .neq 3 (.tmp 222) (.tmp 227) 3,4,"outright.go:240",#[⟨41,.data⟩,⟨46,.data⟩,⟨40,.guard⟩],some (40,false)⟩,⟨some 229,.pick (.tmp 221) (.const (.bool true)) (.tmp 228),4,"outright.go:240",#[⟨40,.data⟩,⟨47,.data⟩],none⟩]
set_option maxRecDepth 1000000 in
theorem tb6_cut : tb6 = .seq (.seq (Code.region 29 rao false) (.cond (.tmp 229) (.seq (Code.region 30 #[⟨some 2,.assign (.const (.bool false)),4,"outright.go:241",#[],none⟩] false) .ret) .skip)) tb7 := by kernel_rfl
set_option maxHeartbeats 9000000 in
set_option maxRecDepth 1000000 in
theorem ra29a {w0 w : World} {g4 bx : Nat} {J : Jb} {ja : Option Addr} {jn jc : Nat} {la : Option Addr} {ln lc : Nat} {l : List Int} {T : Tg} {g12 : Nat} {wv sv uv ps tn fn tr : Int} {turn : Int} {Q : Exit → Act → World → Prop} {u0 u1 u2 u3 u5 u9 A0 A1 Aa Ab Ac Ad Ae Af Ag Ah Ai Aj Ak Al Am An Ao Ap Aq Ar As At Au Av Aw Ax Ay Az C0 C1 C2 C3 C4 C5 C6 C7 C8 C9 Ca Cb Cc Cd Ce Cf Cg Ch Ci Cj Ck Cl Cm Cn Co Cp Cq Cr Cs Ct Cu Cv Cw Cx Cy Cz D0 D1 D2 D3 D4 D5 D6 D7 D8 D9 Da Db Dc Dd De Df Dg Dh Di Dj Dk Dl Dm Dn Do Dp Dq Dr Ds Dt Du Dv Dw Dx Dy Dz E0 E1 E2 E3 E4 E5 E6 E7 E8 E9 Ea Eb Ec Ed Ee Ef Eg Eh Ei Ej Ek El Em u141 Eo Ep Eq Er Es Et Eu Ev Ew Ex Ey Ez F0 F1 F2 F3 F4 F5 F6 F7 F8 F9 Fa Fb Fc Fd Fe Ff Fg Fh Fi Fj Fk Fl Fm Fn Fo Fp Fq Fr Fs Ft Fu Fv Fw Fx Fy Fz L0 L1 L2 L3 L4 L5 L6 L7 L8 L9 La Lb Lc Ld Le Lf Lg Lh Li Lj Lk Ll Lm Ln Lo Lp Lq Lr Ls Lt Lu Lv Lw Lx Ly Lz M0 M1 M2 M3 M4 M5 M6 M7 M8 M9 Ma Mb Mc Md Me Mf Mg Mh Mi Mj Mk Ml Mm Mn Mo Mp : Value} (hs : TL w0 w g4 bx J ja jn jc la l (⟨T.p1,T.p2,T.t1,T.t2,T.r1,T.r2,wv,ps,tn,fn,tr⟩ : En)) (h12 : Bk w g12 25 (tonC T)) (hK : ∀ (X3 X4 X5 X6 X7 X8 X9 Xa Xb Xc Xd Xe Xf Xg : Value),Hid (wpOps Try.prog rao Q [15,16,17,18,19,20,21,22,23,24,25,26,27,28,29,30,31,32,33,34,35,36,37,38,39,40,41,42,43,44,45,46,47,48] ⟨#[u0,u1,u2,u3,(.pointer (some ⟨g4,0,none⟩)),u5,(.slice la ln lc),(.int .i64 turn),(.pointer (some ⟨bx,0,none⟩)),u9,A0,A1,(.pointer (some ⟨g12,0,none⟩)),(.int .i64 0),(.int .i64 wv),(.int .i64 0),(.int .i64 sv),(.int .i64 0),(.int .i64 uv),(.int .i64 0),Aa,Ab,Ac,Ad,Ae,Af,Ag,Ah,Ai,Aj,Ak,Al,Am,An,Ao,Ap,Aq,Ar,As,At,Au,Av,Aw,Ax,Ay,Az,C0,C1,C2,C3,C4,C5,C6,C7,C8,C9,Ca,Cb,Cc,Cd,Ce,Cf,Cg,Ch,Ci,Cj,Ck,Cl,Cm,Cn,Co,Cp,Cq,Cr,Cs,Ct,Cu,Cv,Cw,Cx,Cy,Cz,D0,D1,D2,D3,D4,D5,D6,D7,D8,D9,Da,Db,Dc,Dd,De,Df,Dg,Dh,Di,Dj,Dk,Dl,Dm,Dn,Do,Dp,Dq,Dr,Ds,Dt,Du,Dv,Dw,Dx,Dy,Dz,E0,E1,E2,E3,E4,E5,E6,E7,E8,E9,Ea,Eb,Ec,Ed,Ee,Ef,Eg,Eh,Ei,Ej,Ek,El,Em,u141,Eo,Ep,Eq,Er,Es,Et,Eu,Ev,Ew,Ex,Ey,Ez,F0,F1,F2,F3,F4,F5,F6,F7,F8,F9,Fa,Fb,Fc,Fd,Fe,Ff,Fg,Fh,Fi,Fj,Fk,Fl,Fm,Fn,Fo,Fp,Fq,X3,X4,X5,X6,X7,X8,X9,Xa,Xb,Xc,Xd,Xe,Xf,Xg,(.bool false),L6,L7,L8,L9,La,Lb,Lc,Ld,Le,Lf,Lg,Lh,Li,Lj,Lk,Ll,Lm,Ln,Lo,Lp,Lq,Lr,Ls,Lt,Lu,Lv,Lw,Lx,Ly,Lz,M0,M1,M2,M3,M4,M5,M6,M7,M8,M9,Ma,Mb,Mc,Md,Me,Mf,Mg,Mh,Mi,Mj,Mk,Ml,Mm,Mn,Mo,Mp],[]⟩ w)) : Hid (wpOps Try.prog rao Q [0,1,2,3,4,5,6,7,8,9,10,11,12,13,14,15,16,17,18,19,20,21,22,23,24,25,26,27,28,29,30,31,32,33,34,35,36,37,38,39,40,41,42,43,44,45,46,47,48] ⟨#[u0,u1,u2,u3,(.pointer (some ⟨g4,0,none⟩)),u5,(.slice la ln lc),(.int .i64 turn),(.pointer (some ⟨bx,0,none⟩)),u9,A0,A1,(.pointer (some ⟨g12,0,none⟩)),(.int .i64 0),(.int .i64 wv),(.int .i64 0),(.int .i64 sv),(.int .i64 0),(.int .i64 uv),(.int .i64 0),Aa,Ab,Ac,Ad,Ae,Af,Ag,Ah,Ai,Aj,Ak,Al,Am,An,Ao,Ap,Aq,Ar,As,At,Au,Av,Aw,Ax,Ay,Az,C0,C1,C2,C3,C4,C5,C6,C7,C8,C9,Ca,Cb,Cc,Cd,Ce,Cf,Cg,Ch,Ci,Cj,Ck,Cl,Cm,Cn,Co,Cp,Cq,Cr,Cs,Ct,Cu,Cv,Cw,Cx,Cy,Cz,D0,D1,D2,D3,D4,D5,D6,D7,D8,D9,Da,Db,Dc,Dd,De,Df,Dg,Dh,Di,Dj,Dk,Dl,Dm,Dn,Do,Dp,Dq,Dr,Ds,Dt,Du,Dv,Dw,Dx,Dy,Dz,E0,E1,E2,E3,E4,E5,E6,E7,E8,E9,Ea,Eb,Ec,Ed,Ee,Ef,Eg,Eh,Ei,Ej,Ek,El,Em,u141,Eo,Ep,Eq,Er,Es,Et,Eu,Ev,Ew,Ex,Ey,Ez,F0,F1,F2,F3,F4,F5,F6,F7,F8,F9,Fa,Fb,Fc,Fd,Fe,Ff,Fg,Fh,Fi,Fj,Fk,Fl,Fm,Fn,Fo,Fp,Fq,Fr,Fs,Ft,Fu,Fv,Fw,Fx,Fy,Fz,L0,L1,L2,L3,L4,L5,L6,L7,L8,L9,La,Lb,Lc,Ld,Le,Lf,Lg,Lh,Li,Lj,Lk,Ll,Lm,Ln,Lo,Lp,Lq,Lr,Ls,Lt,Lu,Lv,Lw,Lx,Ly,Lz,M0,M1,M2,M3,M4,M5,M6,M7,M8,M9,Ma,Mb,Mc,Md,Me,Mf,Mg,Mh,Mi,Mj,Mk,Ml,Mm,Mn,Mo,Mp],[]⟩ w) := by
  have HS := hidMk hs
  have H12 := hidMk h12
  clear hs h12
  refine hL_take (o := ⟨some 181,.move (.tmp 13),39,"outright.go:240",#[],none⟩) (v := ?_) (by kernel_rfl) (by kernel_rfl) ?_ ?_
  rotate_left
  · (skip; go_simp <;> with_reducible rfl)
  (try simp only [Act.put,aT,aZ,aS])
  refine hL_take (o := ⟨some 182,.binOp .neq 39 (.tmp 181) (.const (.int .i64 0)) 39,4,"outright.go:240",#[⟨0,.data⟩],none⟩) (v := .bool false) (by kernel_rfl) (by kernel_rfl) ?_ ?_
  · (go_simp <;> with_reducible rfl)
  (try simp only [Act.put,aT,aZ,aS])
  refine hL_take (o := ⟨some 183,.move (.tmp 182),4,"outright.go:240",#[⟨1,.data⟩],none⟩) (v := .bool false) (by kernel_rfl) (by kernel_rfl) ?_ ?_
  · (go_simp <;> with_reducible rfl)
  (try simp only [Act.put,aT,aZ,aS])
  refine hL_take (o := ⟨some 184,.move (.tmp 15),39,"outright.go:240",#[⟨2,.guard⟩],some (2,false)⟩) (v := ?_) (by kernel_rfl) (by kernel_rfl) ?_ ?_
  rotate_left
  · (skip; go_simp <;> with_reducible rfl)
  (try simp only [Act.put,aT,aZ,aS])
  refine hL_take (o := ⟨some 185,.binOp .neq 39 (.tmp 184) (.const (.int .i64 0)) 39,4,"outright.go:240",#[⟨3,.data⟩,⟨2,.guard⟩],some (2,false)⟩) (v := .bool false) (by kernel_rfl) (by kernel_rfl) ?_ ?_
  · (go_simp <;> with_reducible rfl)
  (try simp only [Act.put,aT,aZ,aS])
  refine hL_take (o := ⟨some 186,.pick (.tmp 183) (.const (.bool true)) (.tmp 185),4,"outright.go:240",#[⟨2,.data⟩,⟨4,.data⟩],none⟩) (v := .bool false) (by kernel_rfl) (by kernel_rfl) ?_ ?_
  · (go_simp <;> with_reducible rfl)
  (try simp only [Act.put,aT,aZ,aS])
  refine hL_take (o := ⟨some 187,.move (.tmp 186),4,"outright.go:240",#[⟨5,.data⟩,⟨2,.chain⟩],none⟩) (v := .bool false) (by kernel_rfl) (by kernel_rfl) ?_ ?_
  · (go_simp <;> with_reducible rfl)
  (try simp only [Act.put,aT,aZ,aS])
  refine hL_take (o := ⟨some 188,.move (.tmp 17),39,"outright.go:240",#[⟨6,.guard⟩],some (6,false)⟩) (v := ?_) (by kernel_rfl) (by kernel_rfl) ?_ ?_
  rotate_left
  · (skip; go_simp <;> with_reducible rfl)
  (try simp only [Act.put,aT,aZ,aS])
  refine hL_take (o := ⟨some 189,.binOp .neq 39 (.tmp 188) (.const (.int .i64 0)) 39,4,"outright.go:240",#[⟨7,.data⟩,⟨6,.guard⟩],some (6,false)⟩) (v := .bool false) (by kernel_rfl) (by kernel_rfl) ?_ ?_
  · (go_simp <;> with_reducible rfl)
  (try simp only [Act.put,aT,aZ,aS])
  refine hL_take (o := ⟨some 190,.pick (.tmp 187) (.const (.bool true)) (.tmp 189),4,"outright.go:240",#[⟨6,.data⟩,⟨8,.data⟩],none⟩) (v := .bool false) (by kernel_rfl) (by kernel_rfl) ?_ ?_
  · (go_simp <;> with_reducible rfl)
  (try simp only [Act.put,aT,aZ,aS])
  refine hL_take (o := ⟨some 191,.move (.tmp 190),4,"outright.go:240",#[⟨9,.data⟩,⟨6,.chain⟩],none⟩) (v := .bool false) (by kernel_rfl) (by kernel_rfl) ?_ ?_
  · (go_simp <;> with_reducible rfl)
  (try simp only [Act.put,aT,aZ,aS])
  refine hL_take (o := ⟨some 192,.move (.tmp 19),39,"outright.go:240",#[⟨10,.guard⟩],some (10,false)⟩) (v := ?_) (by kernel_rfl) (by kernel_rfl) ?_ ?_
  rotate_left
  · (skip; go_simp <;> with_reducible rfl)
  (try simp only [Act.put,aT,aZ,aS])
  refine hL_take (o := ⟨some 193,.binOp .neq 39 (.tmp 192) (.const (.int .i64 0)) 39,4,"outright.go:240",#[⟨11,.data⟩,⟨10,.guard⟩],some (10,false)⟩) (v := .bool false) (by kernel_rfl) (by kernel_rfl) ?_ ?_
  · (go_simp <;> with_reducible rfl)
  (try simp only [Act.put,aT,aZ,aS])
  refine hL_take (o := ⟨some 194,.pick (.tmp 191) (.const (.bool true)) (.tmp 193),4,"outright.go:240",#[⟨10,.data⟩,⟨12,.data⟩],none⟩) (v := .bool false) (by kernel_rfl) (by kernel_rfl) ?_ ?_
  · (go_simp <;> with_reducible rfl)
  (try simp only [Act.put,aT,aZ,aS])
  refine hL_take (o := ⟨some 195,.move (.tmp 194),4,"outright.go:240",#[⟨13,.data⟩,⟨10,.chain⟩],none⟩) (v := .bool false) (by kernel_rfl) (by kernel_rfl) ?_ ?_
  · (go_simp <;> with_reducible rfl)
  (try simp only [Act.put,aT,aZ,aS])
  exact hK _ _ _ _ _ _ _ _ _ _ _ _ _ _ 
set_option maxHeartbeats 9000000 in
set_option maxRecDepth 1000000 in
theorem ra29b {w0 w : World} {g4 bx : Nat} {J : Jb} {ja : Option Addr} {jn jc : Nat} {la : Option Addr} {ln lc : Nat} {l : List Int} {T : Tg} {g12 : Nat} {wv sv uv ps tn fn tr : Int} {turn : Int} {Q : Exit → Act → World → Prop} {u0 u1 u2 u3 u5 u9 A0 A1 Aa Ab Ac Ad Ae Af Ag Ah Ai Aj Ak Al Am An Ao Ap Aq Ar As At Au Av Aw Ax Ay Az C0 C1 C2 C3 C4 C5 C6 C7 C8 C9 Ca Cb Cc Cd Ce Cf Cg Ch Ci Cj Ck Cl Cm Cn Co Cp Cq Cr Cs Ct Cu Cv Cw Cx Cy Cz D0 D1 D2 D3 D4 D5 D6 D7 D8 D9 Da Db Dc Dd De Df Dg Dh Di Dj Dk Dl Dm Dn Do Dp Dq Dr Ds Dt Du Dv Dw Dx Dy Dz E0 E1 E2 E3 E4 E5 E6 E7 E8 E9 Ea Eb Ec Ed Ee Ef Eg Eh Ei Ej Ek El Em u141 Eo Ep Eq Er Es Et Eu Ev Ew Ex Ey Ez F0 F1 F2 F3 F4 F5 F6 F7 F8 F9 Fa Fb Fc Fd Fe Ff Fg Fh Fi Fj Fk Fl Fm Fn Fo Fp Fq Fr Fs Ft Fu Fv Fw Fx Fy Fz L0 L1 L2 L3 L4 L6 L7 L8 L9 La Lb Lc Ld Le Lf Lg Lh Li Lj Lk Ll Lm Ln Lo Lp Lq Lr Ls Lt Lu Lv Lw Lx Ly Lz M0 M1 M2 M3 M4 M5 M6 M7 M8 M9 Ma Mb Mc Md Me Mf Mg Mh Mi Mj Mk Ml Mm Mn Mo Mp : Value} (hs : TL w0 w g4 bx J ja jn jc la l (⟨T.p1,T.p2,T.t1,T.t2,T.r1,T.r2,wv,ps,tn,fn,tr⟩ : En)) (h12 : Bk w g12 25 (tonC T)) (hK : ∀ (Xi Xj Xk Xl Xm Xn Xo Xp Xq Xr : Value),Hid (wpOps Try.prog rao Q [26,27,28,29,30,31,32,33,34,35,36,37,38,39,40,41,42,43,44,45,46,47,48] ⟨#[u0,u1,u2,u3,(.pointer (some ⟨g4,0,none⟩)),u5,(.slice la ln lc),(.int .i64 turn),(.pointer (some ⟨bx,0,none⟩)),u9,A0,A1,(.pointer (some ⟨g12,0,none⟩)),(.int .i64 0),(.int .i64 wv),(.int .i64 0),(.int .i64 sv),(.int .i64 0),(.int .i64 uv),(.int .i64 0),Aa,Ab,Ac,Ad,Ae,Af,Ag,Ah,Ai,Aj,Ak,Al,Am,An,Ao,Ap,Aq,Ar,As,At,Au,Av,Aw,Ax,Ay,Az,C0,C1,C2,C3,C4,C5,C6,C7,C8,C9,Ca,Cb,Cc,Cd,Ce,Cf,Cg,Ch,Ci,Cj,Ck,Cl,Cm,Cn,Co,Cp,Cq,Cr,Cs,Ct,Cu,Cv,Cw,Cx,Cy,Cz,D0,D1,D2,D3,D4,D5,D6,D7,D8,D9,Da,Db,Dc,Dd,De,Df,Dg,Dh,Di,Dj,Dk,Dl,Dm,Dn,Do,Dp,Dq,Dr,Ds,Dt,Du,Dv,Dw,Dx,Dy,Dz,E0,E1,E2,E3,E4,E5,E6,E7,E8,E9,Ea,Eb,Ec,Ed,Ee,Ef,Eg,Eh,Ei,Ej,Ek,El,Em,u141,Eo,Ep,Eq,Er,Es,Et,Eu,Ev,Ew,Ex,Ey,Ez,F0,F1,F2,F3,F4,F5,F6,F7,F8,F9,Fa,Fb,Fc,Fd,Fe,Ff,Fg,Fh,Fi,Fj,Fk,Fl,Fm,Fn,Fo,Fp,Fq,Fr,Fs,Ft,Fu,Fv,Fw,Fx,Fy,Fz,L0,L1,L2,L3,L4,(.bool false),Xi,Xj,Xk,Xl,Xm,Xn,Xo,Xp,Xq,Xr,(.bool false),Lh,Li,Lj,Lk,Ll,Lm,Ln,Lo,Lp,Lq,Lr,Ls,Lt,Lu,Lv,Lw,Lx,Ly,Lz,M0,M1,M2,M3,M4,M5,M6,M7,M8,M9,Ma,Mb,Mc,Md,Me,Mf,Mg,Mh,Mi,Mj,Mk,Ml,Mm,Mn,Mo,Mp],[]⟩ w)) : Hid (wpOps Try.prog rao Q [15,16,17,18,19,20,21,22,23,24,25,26,27,28,29,30,31,32,33,34,35,36,37,38,39,40,41,42,43,44,45,46,47,48] ⟨#[u0,u1,u2,u3,(.pointer (some ⟨g4,0,none⟩)),u5,(.slice la ln lc),(.int .i64 turn),(.pointer (some ⟨bx,0,none⟩)),u9,A0,A1,(.pointer (some ⟨g12,0,none⟩)),(.int .i64 0),(.int .i64 wv),(.int .i64 0),(.int .i64 sv),(.int .i64 0),(.int .i64 uv),(.int .i64 0),Aa,Ab,Ac,Ad,Ae,Af,Ag,Ah,Ai,Aj,Ak,Al,Am,An,Ao,Ap,Aq,Ar,As,At,Au,Av,Aw,Ax,Ay,Az,C0,C1,C2,C3,C4,C5,C6,C7,C8,C9,Ca,Cb,Cc,Cd,Ce,Cf,Cg,Ch,Ci,Cj,Ck,Cl,Cm,Cn,Co,Cp,Cq,Cr,Cs,Ct,Cu,Cv,Cw,Cx,Cy,Cz,D0,D1,D2,D3,D4,D5,D6,D7,D8,D9,Da,Db,Dc,Dd,De,Df,Dg,Dh,Di,Dj,Dk,Dl,Dm,Dn,Do,Dp,Dq,Dr,Ds,Dt,Du,Dv,Dw,Dx,Dy,Dz,E0,E1,E2,E3,E4,E5,E6,E7,E8,E9,Ea,Eb,Ec,Ed,Ee,Ef,Eg,Eh,Ei,Ej,Ek,El,Em,u141,Eo,Ep,Eq,Er,Es,Et,Eu,Ev,Ew,Ex,Ey,Ez,F0,F1,F2,F3,F4,F5,F6,F7,F8,F9,Fa,Fb,Fc,Fd,Fe,Ff,Fg,Fh,Fi,Fj,Fk,Fl,Fm,Fn,Fo,Fp,Fq,Fr,Fs,Ft,Fu,Fv,Fw,Fx,Fy,Fz,L0,L1,L2,L3,L4,(.bool false),L6,L7,L8,L9,La,Lb,Lc,Ld,Le,Lf,Lg,Lh,Li,Lj,Lk,Ll,Lm,Ln,Lo,Lp,Lq,Lr,Ls,Lt,Lu,Lv,Lw,Lx,Ly,Lz,M0,M1,M2,M3,M4,M5,M6,M7,M8,M9,Ma,Mb,Mc,Md,Me,Mf,Mg,Mh,Mi,Mj,Mk,Ml,Mm,Mn,Mo,Mp],[]⟩ w) := by
  have HS := hidMk hs
  have H12 := hidMk h12
  clear hs h12
  refine hL_take (o := ⟨some 196,.load 25 (.tmp 12),25,"outright.go:240",#[⟨14,.guard⟩],some (14,false)⟩) (v := ?_) (by kernel_rfl) (by kernel_rfl) ?_ ?_
  rotate_left
  · ((have q0 := H12.out.at_ 0 (.int .i64 T.p1) rfl; have q1 := H12.out.at_ 1 (.int .i64 T.p2) rfl; have q2 := H12.out.at_ 2 (.int .i64 T.t1) rfl; have q3 := H12.out.at_ 3 (.int .i64 T.t2) rfl; have q4 := H12.out.at_ 4 (.int .i64 T.r1) rfl; have q5 := H12.out.at_ 5 (.int .i64 T.r2) rfl); go_simp <;> with_reducible rfl)
  (try simp only [Act.put,aT,aZ,aS])
  refine hL_take (o := ⟨some 197,.fieldAddr 54 (.tmp 8) 0,0,"outright.go:240",#[⟨14,.guard⟩],some (14,false)⟩) (v := ?_) (by kernel_rfl) (by kernel_rfl) ?_ ?_
  rotate_left
  · (skip; go_simp <;> with_reducible rfl)
  (try simp only [Act.put,aT,aZ,aS])
  refine hL_take (o := ⟨some 198,.load 23 (.tmp 197),23,"outright.go:240",#[⟨16,.data⟩,⟨14,.guard⟩],some (14,false)⟩) (v := ?_) (by kernel_rfl) (by kernel_rfl) ?_ ?_
  rotate_left
  · ((have q0 := HS.out.en.at_ 0 (.int .i64 T.p1) rfl; have q1 := HS.out.en.at_ 1 (.int .i64 T.p2) rfl; have q2 := HS.out.en.at_ 2 (.int .i64 T.t1) rfl; have q3 := HS.out.en.at_ 3 (.int .i64 T.t2) rfl; have q4 := HS.out.en.at_ 4 (.int .i64 T.r1) rfl; have q5 := HS.out.en.at_ 5 (.int .i64 T.r2) rfl; have q6 := HS.out.en.at_ 6 (.int .i64 wv) rfl; have q8 := HS.out.en.at_ 8 (.int .i64 tn) rfl; have q9 := HS.out.en.at_ 9 (.int .i64 fn) rfl; have qa := HS.out.en.at_ 10 (.int .i64 tr) rfl); go_simp <;> with_reducible rfl)
  (try simp only [Act.put,aT,aZ,aS])
  refine hL_take (o := ⟨some 199,.fieldAddr 54 (.tmp 8) 1,0,"outright.go:240",#[⟨14,.guard⟩],some (14,false)⟩) (v := ?_) (by kernel_rfl) (by kernel_rfl) ?_ ?_
  rotate_left
  · (skip; go_simp <;> with_reducible rfl)
  (try simp only [Act.put,aT,aZ,aS])
  refine hL_take (o := ⟨some 200,.load 23 (.tmp 199),23,"outright.go:240",#[⟨18,.data⟩,⟨14,.guard⟩],some (14,false)⟩) (v := ?_) (by kernel_rfl) (by kernel_rfl) ?_ ?_
  rotate_left
  · ((have q0 := HS.out.en.at_ 0 (.int .i64 T.p1) rfl; have q1 := HS.out.en.at_ 1 (.int .i64 T.p2) rfl; have q2 := HS.out.en.at_ 2 (.int .i64 T.t1) rfl; have q3 := HS.out.en.at_ 3 (.int .i64 T.t2) rfl; have q4 := HS.out.en.at_ 4 (.int .i64 T.r1) rfl; have q5 := HS.out.en.at_ 5 (.int .i64 T.r2) rfl; have q6 := HS.out.en.at_ 6 (.int .i64 wv) rfl; have q8 := HS.out.en.at_ 8 (.int .i64 tn) rfl; have q9 := HS.out.en.at_ 9 (.int .i64 fn) rfl; have qa := HS.out.en.at_ 10 (.int .i64 tr) rfl); go_simp <;> with_reducible rfl)
  (try simp only [Act.put,aT,aZ,aS])
  refine hL_take (o := ⟨some 201,.fieldAddr 54 (.tmp 8) 2,0,"outright.go:240",#[⟨14,.guard⟩],some (14,false)⟩) (v := ?_) (by kernel_rfl) (by kernel_rfl) ?_ ?_
  rotate_left
  · (skip; go_simp <;> with_reducible rfl)
  (try simp only [Act.put,aT,aZ,aS])
  refine hL_take (o := ⟨some 202,.load 23 (.tmp 201),23,"outright.go:240",#[⟨20,.data⟩,⟨14,.guard⟩],some (14,false)⟩) (v := ?_) (by kernel_rfl) (by kernel_rfl) ?_ ?_
  rotate_left
  · ((have q0 := HS.out.en.at_ 0 (.int .i64 T.p1) rfl; have q1 := HS.out.en.at_ 1 (.int .i64 T.p2) rfl; have q2 := HS.out.en.at_ 2 (.int .i64 T.t1) rfl; have q3 := HS.out.en.at_ 3 (.int .i64 T.t2) rfl; have q4 := HS.out.en.at_ 4 (.int .i64 T.r1) rfl; have q5 := HS.out.en.at_ 5 (.int .i64 T.r2) rfl; have q6 := HS.out.en.at_ 6 (.int .i64 wv) rfl; have q8 := HS.out.en.at_ 8 (.int .i64 tn) rfl; have q9 := HS.out.en.at_ 9 (.int .i64 fn) rfl; have qa := HS.out.en.at_ 10 (.int .i64 tr) rfl); go_simp <;> with_reducible rfl)
  (try simp only [Act.put,aT,aZ,aS])
  refine hL_take (o := ⟨some 203,.build 25 #[(0,.tmp 198),(1,.tmp 200),(2,.tmp 202)],25,"outright.go:240",#[⟨17,.data⟩,⟨19,.data⟩,⟨21,.data⟩,⟨14,.guard⟩],some (14,false)⟩) (v := ?_) (by kernel_rfl) (by kernel_rfl) ?_ ?_
  rotate_left
  · (skip; go_simp <;> with_reducible rfl)
  (try simp only [Act.put,aT,aZ,aS])
  refine hL_take (o := ⟨some 204,.binOp .neq 25 (.tmp 196) (.tmp 203) 25,4,"outright.go:240",#[⟨15,.data⟩,⟨22,.data⟩,⟨14,.guard⟩],some (14,false)⟩) (v := .bool false) (by kernel_rfl) (by kernel_rfl) ?_ ?_
  · (go_simp <;> with_reducible rfl)
  (try simp only [Act.put,aT,aZ,aS])
  refine hL_take (o := ⟨some 205,.pick (.tmp 195) (.const (.bool true)) (.tmp 204),4,"outright.go:240",#[⟨14,.data⟩,⟨23,.data⟩],none⟩) (v := .bool false) (by kernel_rfl) (by kernel_rfl) ?_ ?_
  · (go_simp <;> with_reducible rfl)
  (try simp only [Act.put,aT,aZ,aS])
  refine hL_take (o := ⟨some 206,.move (.tmp 205),4,"outright.go:240",#[⟨24,.data⟩,⟨14,.chain⟩],none⟩) (v := .bool false) (by kernel_rfl) (by kernel_rfl) ?_ ?_
  · (go_simp <;> with_reducible rfl)
  (try simp only [Act.put,aT,aZ,aS])
  exact hK _ _ _ _ _ _ _ _ _ _ 
set_option maxHeartbeats 9000000 in
set_option maxRecDepth 1000000 in
theorem ra29c {w0 w : World} {g4 bx : Nat} {J : Jb} {ja : Option Addr} {jn jc : Nat} {la : Option Addr} {ln lc : Nat} {l : List Int} {T : Tg} {g12 : Nat} {wv sv uv ps tn fn tr : Int} {turn : Int} {Q : Exit → Act → World → Prop} {u0 u1 u2 u3 u5 u9 A0 A1 Aa Ab Ac Ad Ae Af Ag Ah Ai Aj Ak Al Am An Ao Ap Aq Ar As At Au Av Aw Ax Ay Az C0 C1 C2 C3 C4 C5 C6 C7 C8 C9 Ca Cb Cc Cd Ce Cf Cg Ch Ci Cj Ck Cl Cm Cn Co Cp Cq Cr Cs Ct Cu Cv Cw Cx Cy Cz D0 D1 D2 D3 D4 D5 D6 D7 D8 D9 Da Db Dc Dd De Df Dg Dh Di Dj Dk Dl Dm Dn Do Dp Dq Dr Ds Dt Du Dv Dw Dx Dy Dz E0 E1 E2 E3 E4 E5 E6 E7 E8 E9 Ea Eb Ec Ed Ee Ef Eg Eh Ei Ej Ek El Em u141 Eo Ep Eq Er Es Et Eu Ev Ew Ex Ey Ez F0 F1 F2 F3 F4 F5 F6 F7 F8 F9 Fa Fb Fc Fd Fe Ff Fg Fh Fi Fj Fk Fl Fm Fn Fo Fp Fq Fr Fs Ft Fu Fv Fw Fx Fy Fz L0 L1 L2 L3 L4 L5 L6 L7 L8 L9 La Lb Lc Ld Le Lf Lh Li Lj Lk Ll Lm Ln Lo Lp Lq Lr Ls Lt Lu Lv Lw Lx Ly Lz M0 M1 M2 M3 M4 M5 M6 M7 M8 M9 Ma Mb Mc Md Me Mf Mg Mh Mi Mj Mk Ml Mm Mn Mo Mp : Value} (hs : TL w0 w g4 bx J ja jn jc la l (⟨T.p1,T.p2,T.t1,T.t2,T.r1,T.r2,wv,ps,tn,fn,tr⟩ : En)) (h12 : Bk w g12 25 (tonC T)) (hsv : toldI tn tr = sv) (huv : toldI fn tr = uv) (hK : ∀ w' : World,TL w0 w' g4 bx J ja jn jc la l (⟨T.p1,T.p2,T.t1,T.t2,T.r1,T.r2,wv,ps,tn,fn,tr⟩ : En) → ∀ (Xt Xu Xv Xw Xx Xy Xz Y0 Y1 Y2 Y3 Y4 Y5 Y6 Y7 Y8 Y9 Ya Yb Yc Yd Ye : Value),Q .normal ⟨#[u0,u1,u2,u3,(.pointer (some ⟨g4,0,none⟩)),u5,(.slice la ln lc),(.int .i64 turn),(.pointer (some ⟨bx,0,none⟩)),u9,A0,A1,(.pointer (some ⟨g12,0,none⟩)),(.int .i64 0),(.int .i64 wv),(.int .i64 0),(.int .i64 sv),(.int .i64 0),(.int .i64 uv),(.int .i64 0),Aa,Ab,Ac,Ad,Ae,Af,Ag,Ah,Ai,Aj,Ak,Al,Am,An,Ao,Ap,Aq,Ar,As,At,Au,Av,Aw,Ax,Ay,Az,C0,C1,C2,C3,C4,C5,C6,C7,C8,C9,Ca,Cb,Cc,Cd,Ce,Cf,Cg,Ch,Ci,Cj,Ck,Cl,Cm,Cn,Co,Cp,Cq,Cr,Cs,Ct,Cu,Cv,Cw,Cx,Cy,Cz,D0,D1,D2,D3,D4,D5,D6,D7,D8,D9,Da,Db,Dc,Dd,De,Df,Dg,Dh,Di,Dj,Dk,Dl,Dm,Dn,Do,Dp,Dq,Dr,Ds,Dt,Du,Dv,Dw,Dx,Dy,Dz,E0,E1,E2,E3,E4,E5,E6,E7,E8,E9,Ea,Eb,Ec,Ed,Ee,Ef,Eg,Eh,Ei,Ej,Ek,El,Em,u141,Eo,Ep,Eq,Er,Es,Et,Eu,Ev,Ew,Ex,Ey,Ez,F0,F1,F2,F3,F4,F5,F6,F7,F8,F9,Fa,Fb,Fc,Fd,Fe,Ff,Fg,Fh,Fi,Fj,Fk,Fl,Fm,Fn,Fo,Fp,Fq,Fr,Fs,Ft,Fu,Fv,Fw,Fx,Fy,Fz,L0,L1,L2,L3,L4,L5,L6,L7,L8,L9,La,Lb,Lc,Ld,Le,Lf,(.bool false),Xt,Xu,Xv,Xw,Xx,Xy,Xz,Y0,Y1,Y2,Y3,Y4,Y5,Y6,Y7,Y8,Y9,Ya,Yb,Yc,Yd,Ye,(.bool false),M4,M5,M6,M7,M8,M9,Ma,Mb,Mc,Md,Me,Mf,Mg,Mh,Mi,Mj,Mk,Ml,Mm,Mn,Mo,Mp],[]⟩ w') : Hid (wpOps Try.prog rao Q [26,27,28,29,30,31,32,33,34,35,36,37,38,39,40,41,42,43,44,45,46,47,48] ⟨#[u0,u1,u2,u3,(.pointer (some ⟨g4,0,none⟩)),u5,(.slice la ln lc),(.int .i64 turn),(.pointer (some ⟨bx,0,none⟩)),u9,A0,A1,(.pointer (some ⟨g12,0,none⟩)),(.int .i64 0),(.int .i64 wv),(.int .i64 0),(.int .i64 sv),(.int .i64 0),(.int .i64 uv),(.int .i64 0),Aa,Ab,Ac,Ad,Ae,Af,Ag,Ah,Ai,Aj,Ak,Al,Am,An,Ao,Ap,Aq,Ar,As,At,Au,Av,Aw,Ax,Ay,Az,C0,C1,C2,C3,C4,C5,C6,C7,C8,C9,Ca,Cb,Cc,Cd,Ce,Cf,Cg,Ch,Ci,Cj,Ck,Cl,Cm,Cn,Co,Cp,Cq,Cr,Cs,Ct,Cu,Cv,Cw,Cx,Cy,Cz,D0,D1,D2,D3,D4,D5,D6,D7,D8,D9,Da,Db,Dc,Dd,De,Df,Dg,Dh,Di,Dj,Dk,Dl,Dm,Dn,Do,Dp,Dq,Dr,Ds,Dt,Du,Dv,Dw,Dx,Dy,Dz,E0,E1,E2,E3,E4,E5,E6,E7,E8,E9,Ea,Eb,Ec,Ed,Ee,Ef,Eg,Eh,Ei,Ej,Ek,El,Em,u141,Eo,Ep,Eq,Er,Es,Et,Eu,Ev,Ew,Ex,Ey,Ez,F0,F1,F2,F3,F4,F5,F6,F7,F8,F9,Fa,Fb,Fc,Fd,Fe,Ff,Fg,Fh,Fi,Fj,Fk,Fl,Fm,Fn,Fo,Fp,Fq,Fr,Fs,Ft,Fu,Fv,Fw,Fx,Fy,Fz,L0,L1,L2,L3,L4,L5,L6,L7,L8,L9,La,Lb,Lc,Ld,Le,Lf,(.bool false),Lh,Li,Lj,Lk,Ll,Lm,Ln,Lo,Lp,Lq,Lr,Ls,Lt,Lu,Lv,Lw,Lx,Ly,Lz,M0,M1,M2,M3,M4,M5,M6,M7,M8,M9,Ma,Mb,Mc,Md,Me,Mf,Mg,Mh,Mi,Mj,Mk,Ml,Mm,Mn,Mo,Mp],[]⟩ w) := by
  have HS := hidMk hs
  have H12 := hidMk h12
  have HSV := hidMk hsv
  have HUV := hidMk huv
  clear hsv huv
  clear hs h12
  refine hL_take (o := ⟨some 207,.move (.tmp 14),3,"outright.go:240",#[⟨25,.guard⟩],some (25,false)⟩) (v := ?_) (by kernel_rfl) (by kernel_rfl) ?_ ?_
  rotate_left
  · (skip; go_simp <;> with_reducible rfl)
  (try simp only [Act.put,aT,aZ,aS])
  refine hL_take (o := ⟨some 208,.fieldAddr 54 (.tmp 8) 3,0,"outright.go:240",#[⟨25,.guard⟩],some (25,false)⟩) (v := ?_) (by kernel_rfl) (by kernel_rfl) ?_ ?_
  rotate_left
  · (skip; go_simp <;> with_reducible rfl)
  (try simp only [Act.put,aT,aZ,aS])
  refine hL_take (o := ⟨some 209,.load 3 (.tmp 208),3,"outright.go:240",#[⟨27,.data⟩,⟨25,.guard⟩],some (25,false)⟩) (v := ?_) (by kernel_rfl) (by kernel_rfl) ?_ ?_
  rotate_left
  · ((have q0 := HS.out.en.at_ 0 (.int .i64 T.p1) rfl; have q1 := HS.out.en.at_ 1 (.int .i64 T.p2) rfl; have q2 := HS.out.en.at_ 2 (.int .i64 T.t1) rfl; have q3 := HS.out.en.at_ 3 (.int .i64 T.t2) rfl; have q4 := HS.out.en.at_ 4 (.int .i64 T.r1) rfl; have q5 := HS.out.en.at_ 5 (.int .i64 T.r2) rfl; have q6 := HS.out.en.at_ 6 (.int .i64 wv) rfl; have q8 := HS.out.en.at_ 8 (.int .i64 tn) rfl; have q9 := HS.out.en.at_ 9 (.int .i64 fn) rfl; have qa := HS.out.en.at_ 10 (.int .i64 tr) rfl); go_simp <;> with_reducible rfl)
  (try simp only [Act.put,aT,aZ,aS])
  refine hL_take (o := ⟨some 210,.binOp .neq 3 (.tmp 207) (.tmp 209) 3,4,"outright.go:240",#[⟨26,.data⟩,⟨28,.data⟩,⟨25,.guard⟩],some (25,false)⟩) (v := .bool false) (by kernel_rfl) (by kernel_rfl) ?_ ?_
  · (go_simp <;> with_reducible rfl)
  (try simp only [Act.put,aT,aZ,aS])
  refine hL_take (o := ⟨some 211,.pick (.tmp 206) (.const (.bool true)) (.tmp 210),4,"outright.go:240",#[⟨25,.data⟩,⟨29,.data⟩],none⟩) (v := .bool false) (by kernel_rfl) (by kernel_rfl) ?_ ?_
  · (go_simp <;> with_reducible rfl)
  (try simp only [Act.put,aT,aZ,aS])
  refine hL_take (o := ⟨some 212,.move (.tmp 211),4,"outright.go:240",#[⟨30,.data⟩,⟨25,.chain⟩],none⟩) (v := .bool false) (by kernel_rfl) (by kernel_rfl) ?_ ?_
  · (go_simp <;> with_reducible rfl)
  (try simp only [Act.put,aT,aZ,aS])
  refine hL_take (o := ⟨some 213,.move (.tmp 16),3,"outright.go:240",#[⟨31,.guard⟩],some (31,false)⟩) (v := ?_) (by kernel_rfl) (by kernel_rfl) ?_ ?_
  rotate_left
  · (skip; go_simp <;> with_reducible rfl)
  (try simp only [Act.put,aT,aZ,aS])
  refine hL_take (o := ⟨some 214,.fieldAddr 54 (.tmp 8) 5,0,"outright.go:240",#[⟨31,.guard⟩],some (31,false)⟩) (v := ?_) (by kernel_rfl) (by kernel_rfl) ?_ ?_
  rotate_left
  · (skip; go_simp <;> with_reducible rfl)
  (try simp only [Act.put,aT,aZ,aS])
  refine hL_take (o := ⟨some 215,.load 3 (.tmp 214),3,"outright.go:240",#[⟨33,.data⟩,⟨31,.guard⟩],some (31,false)⟩) (v := ?_) (by kernel_rfl) (by kernel_rfl) ?_ ?_
  rotate_left
  · ((have q0 := HS.out.en.at_ 0 (.int .i64 T.p1) rfl; have q1 := HS.out.en.at_ 1 (.int .i64 T.p2) rfl; have q2 := HS.out.en.at_ 2 (.int .i64 T.t1) rfl; have q3 := HS.out.en.at_ 3 (.int .i64 T.t2) rfl; have q4 := HS.out.en.at_ 4 (.int .i64 T.r1) rfl; have q5 := HS.out.en.at_ 5 (.int .i64 T.r2) rfl; have q6 := HS.out.en.at_ 6 (.int .i64 wv) rfl; have q8 := HS.out.en.at_ 8 (.int .i64 tn) rfl; have q9 := HS.out.en.at_ 9 (.int .i64 fn) rfl; have qa := HS.out.en.at_ 10 (.int .i64 tr) rfl); go_simp <;> with_reducible rfl)
  (try simp only [Act.put,aT,aZ,aS])
  refine hL_take (o := ⟨some 216,.fieldAddr 54 (.tmp 8) 7,0,"outright.go:240",#[⟨31,.guard⟩],some (31,false)⟩) (v := ?_) (by kernel_rfl) (by kernel_rfl) ?_ ?_
  rotate_left
  · (skip; go_simp <;> with_reducible rfl)
  (try simp only [Act.put,aT,aZ,aS])
  refine hL_take (o := ⟨some 217,.load 3 (.tmp 216),3,"outright.go:240",#[⟨35,.data⟩,⟨31,.guard⟩],some (31,false)⟩) (v := ?_) (by kernel_rfl) (by kernel_rfl) ?_ ?_
  rotate_left
  · ((have q0 := HS.out.en.at_ 0 (.int .i64 T.p1) rfl; have q1 := HS.out.en.at_ 1 (.int .i64 T.p2) rfl; have q2 := HS.out.en.at_ 2 (.int .i64 T.t1) rfl; have q3 := HS.out.en.at_ 3 (.int .i64 T.t2) rfl; have q4 := HS.out.en.at_ 4 (.int .i64 T.r1) rfl; have q5 := HS.out.en.at_ 5 (.int .i64 T.r2) rfl; have q6 := HS.out.en.at_ 6 (.int .i64 wv) rfl; have q8 := HS.out.en.at_ 8 (.int .i64 tn) rfl; have q9 := HS.out.en.at_ 9 (.int .i64 fn) rfl; have qa := HS.out.en.at_ 10 (.int .i64 tr) rfl); go_simp <;> with_reducible rfl)
  (try simp only [Act.put,aT,aZ,aS])
  refine hL_step (o := ⟨some 218,.call { callee := .value (.func 29),args := #[.tmp 215,.tmp 217],argTypes := #[3,3] },3,"outright.go:240",#[⟨34,.data⟩,⟨36,.data⟩,⟨31,.chain⟩,⟨31,.guard⟩],some (31,false)⟩) (by kernel_rfl) (by kernel_rfl) (fun K hK' => ?_)
  go_simp
  go_at_call 29
  refine (told_any _ _ _).mono ?_
  rintro e w2 ⟨rfl,hb2⟩
  rw [HSV.out]
  dsimp only
  have HS2 := hidMk (HS.out.next hb2)
  clear hb2 HS
  have HS := HS2
  clear HS2
  go_wp2_with fail
  refine hK'.out _ _ ?_
  clear hK' K
  (try simp only [Act.put,aT,aZ,aS])
  refine hL_take (o := ⟨some 219,.binOp .neq 3 (.tmp 213) (.tmp 218) 3,4,"outright.go:240",#[⟨32,.data⟩,⟨37,.data⟩,⟨31,.guard⟩],some (31,false)⟩) (v := .bool false) (by kernel_rfl) (by kernel_rfl) ?_ ?_
  · (go_simp <;> with_reducible rfl)
  (try simp only [Act.put,aT,aZ,aS])
  refine hL_take (o := ⟨some 220,.pick (.tmp 212) (.const (.bool true)) (.tmp 219),4,"outright.go:240",#[⟨31,.data⟩,⟨38,.data⟩],none⟩) (v := .bool false) (by kernel_rfl) (by kernel_rfl) ?_ ?_
  · (go_simp <;> with_reducible rfl)
  (try simp only [Act.put,aT,aZ,aS])
  refine hL_take (o := ⟨some 221,.move (.tmp 220),4,"outright.go:240",#[⟨39,.data⟩,⟨37,.chain⟩],none⟩) (v := .bool false) (by kernel_rfl) (by kernel_rfl) ?_ ?_
  · (go_simp <;> with_reducible rfl)
  (try simp only [Act.put,aT,aZ,aS])
  refine hL_take (o := ⟨some 222,.move (.tmp 18),3,"outright.go:240",#[⟨40,.guard⟩],some (40,false)⟩) (v := ?_) (by kernel_rfl) (by kernel_rfl) ?_ ?_
  rotate_left
  · (skip; go_simp <;> with_reducible rfl)
  (try simp only [Act.put,aT,aZ,aS])
  refine hL_take (o := ⟨some 223,.fieldAddr 54 (.tmp 8) 6,0,"outright.go:240",#[⟨40,.guard⟩],some (40,false)⟩) (v := ?_) (by kernel_rfl) (by kernel_rfl) ?_ ?_
  rotate_left
  · (skip; go_simp <;> with_reducible rfl)
  (try simp only [Act.put,aT,aZ,aS])
  refine hL_take (o := ⟨some 224,.load 3 (.tmp 223),3,"outright.go:240",#[⟨42,.data⟩,⟨40,.guard⟩],some (40,false)⟩) (v := ?_) (by kernel_rfl) (by kernel_rfl) ?_ ?_
  rotate_left
  · ((have q0 := HS.out.en.at_ 0 (.int .i64 T.p1) rfl; have q1 := HS.out.en.at_ 1 (.int .i64 T.p2) rfl; have q2 := HS.out.en.at_ 2 (.int .i64 T.t1) rfl; have q3 := HS.out.en.at_ 3 (.int .i64 T.t2) rfl; have q4 := HS.out.en.at_ 4 (.int .i64 T.r1) rfl; have q5 := HS.out.en.at_ 5 (.int .i64 T.r2) rfl; have q6 := HS.out.en.at_ 6 (.int .i64 wv) rfl; have q8 := HS.out.en.at_ 8 (.int .i64 tn) rfl; have q9 := HS.out.en.at_ 9 (.int .i64 fn) rfl; have qa := HS.out.en.at_ 10 (.int .i64 tr) rfl); go_simp <;> with_reducible rfl)
  (try simp only [Act.put,aT,aZ,aS])
  refine hL_take (o := ⟨some 225,.fieldAddr 54 (.tmp 8) 7,0,"outright.go:240",#[⟨40,.guard⟩],some (40,false)⟩) (v := ?_) (by kernel_rfl) (by kernel_rfl) ?_ ?_
  rotate_left
  · (skip; go_simp <;> with_reducible rfl)
  (try simp only [Act.put,aT,aZ,aS])
  refine hL_take (o := ⟨some 226,.load 3 (.tmp 225),3,"outright.go:240",#[⟨44,.data⟩,⟨40,.guard⟩],some (40,false)⟩) (v := ?_) (by kernel_rfl) (by kernel_rfl) ?_ ?_
  rotate_left
  · ((have q0 := HS.out.en.at_ 0 (.int .i64 T.p1) rfl; have q1 := HS.out.en.at_ 1 (.int .i64 T.p2) rfl; have q2 := HS.out.en.at_ 2 (.int .i64 T.t1) rfl; have q3 := HS.out.en.at_ 3 (.int .i64 T.t2) rfl; have q4 := HS.out.en.at_ 4 (.int .i64 T.r1) rfl; have q5 := HS.out.en.at_ 5 (.int .i64 T.r2) rfl; have q6 := HS.out.en.at_ 6 (.int .i64 wv) rfl; have q8 := HS.out.en.at_ 8 (.int .i64 tn) rfl; have q9 := HS.out.en.at_ 9 (.int .i64 fn) rfl; have qa := HS.out.en.at_ 10 (.int .i64 tr) rfl); go_simp <;> with_reducible rfl)
  (try simp only [Act.put,aT,aZ,aS])
  refine hL_step (o := ⟨some 227,.call { callee := .value (.func 29),args := #[.tmp 224,.tmp 226],argTypes := #[3,3] },3,"outright.go:240",#[⟨43,.data⟩,⟨45,.data⟩,⟨40,.chain⟩,⟨40,.guard⟩],some (40,false)⟩) (by kernel_rfl) (by kernel_rfl) (fun K hK' => ?_)
  go_simp
  go_at_call 29
  refine (told_any _ _ _).mono ?_
  rintro e w2 ⟨rfl,hb2⟩
  rw [HUV.out]
  dsimp only
  have HS2 := hidMk (HS.out.next hb2)
  clear hb2 HS
  have HS := HS2
  clear HS2
  go_wp2_with fail
  refine hK'.out _ _ ?_
  clear hK' K
  (try simp only [Act.put,aT,aZ,aS])
  refine hL_take (o := ⟨some 228,.binOp .neq 3 (.tmp 222) (.tmp 227) 3,4,"outright.go:240",#[⟨41,.data⟩,⟨46,.data⟩,⟨40,.guard⟩],some (40,false)⟩) (v := .bool false) (by kernel_rfl) (by kernel_rfl) ?_ ?_
  · (go_simp <;> with_reducible rfl)
  (try simp only [Act.put,aT,aZ,aS])
  refine hL_take (o := ⟨some 229,.pick (.tmp 221) (.const (.bool true)) (.tmp 228),4,"outright.go:240",#[⟨40,.data⟩,⟨47,.data⟩],none⟩) (v := .bool false) (by kernel_rfl) (by kernel_rfl) ?_ ?_
  · (go_simp <;> with_reducible rfl)
  (try simp only [Act.put,aT,aZ,aS])
  exact hidMk (hK _ HS.out _ _ _ _ _ _ _ _ _ _ _ _ _ _ _ _ _ _ _ _ _ _ )
end Go.Proofs.Ytolabejbhaeddaa
/- The law ReedAll: the answers at the end of a turn. -/
namespace Go.Proofs.Ytolabejbhaeddaa
set_option linter.all false
open Go.RowKit Go.Great
set_option maxHeartbeats 9000000 in
set_option maxRecDepth 1000000 in
theorem tbp6 {w0 w : World} {g4 bx : Nat} {J : Jb} {ja : Option Addr} {jn jc : Nat} {la : Option Addr} {ln lc : Nat} {l : List Int} {T : Tg} {g12 : Nat} {wv sv uv ps tn fn tr : Int} {turn : Int} {Q : Exit → Act → World → Prop} {u0 u1 u2 u3 u5 u9 A0 A1 Aa Ab Ac Ad Ae Af Ag Ah Ai Aj Ak Al Am An Ao Ap Aq Ar As At Au Av Aw Ax Ay Az C0 C1 C2 C3 C4 C5 C6 C7 C8 C9 Ca Cb Cc Cd Ce Cf Cg Ch Ci Cj Ck Cl Cm Cn Co Cp Cq Cr Cs Ct Cu Cv Cw Cx Cy Cz D0 D1 D2 D3 D4 D5 D6 D7 D8 D9 Da Db Dc Dd De Df Dg Dh Di Dj Dk Dl Dm Dn Do Dp Dq Dr Ds Dt Du Dv Dw Dx Dy Dz E0 E1 E2 E3 E4 E5 E6 E7 E8 E9 Ea Eb Ec Ed Ee Ef Eg Eh Ei Ej Ek El Em u141 Eo Ep Eq Er Es Et Eu Ev Ew Ex Ey Ez F0 F1 F2 F3 F4 F5 F6 F7 F8 F9 Fa Fb Fc Fd Fe Ff Fg Fh Fi Fj Fk Fl Fm Fn Fo Fp Fq Fr Fs Ft Fu Fv Fw Fx Fy Fz L0 L1 L2 L3 L4 L5 L6 L7 L8 L9 La Lb Lc Ld Le Lf Lg Lh Li Lj Lk Ll Lm Ln Lo Lp Lq Lr Ls Lt Lu Lv Lw Lx Ly Lz M0 M1 M2 M3 M4 M5 M6 M7 M8 M9 Ma Mb Mc Md Me Mf Mg Mh Mi Mj Mk Ml Mm Mn Mo Mp : Value} (hs : TL w0 w g4 bx J ja jn jc la l (⟨T.p1,T.p2,T.t1,T.t2,T.r1,T.r2,wv,ps,tn,fn,tr⟩ : En)) (h12 : Bk w g12 25 (tonC T)) (hc : filedE J l = 0) (hjn : jn = J.sh.length ∧ jn ≤ 1000) (hln : ln = l.length ∧ ln ≤ 1000) (hsv : toldI tn tr = sv) (huv : toldI fn tr = uv) (hps : l = [] → toldI ps tr = passI J.wi J.sh J.p1 J.p2) (hK : ∀ w' : World,Below w0.heap.size w0 w' → ∀ (u0 u1 u2 u3 u5 u8 u9 A0 A1 A2 A3 A4 A5 A6 A7 A8 A9 Aa Ab Ac Ad Ae Af Ag Ah Ai Aj Ak Al Am An Ao Ap Aq Ar As At Au Av Aw Ax Ay Az C0 C1 C2 C3 C4 C5 C6 C7 C8 C9 Ca Cb Cc Cd Ce Cf Cg Ch Ci Cj Ck Cl Cm Cn Co Cp Cq Cr Cs Ct Cu Cv Cw Cx Cy Cz D0 D1 D2 D3 D4 D5 D6 D7 D8 D9 Da Db Dc Dd De Df Dg Dh Di Dj Dk Dl Dm Dn Do Dp Dq Dr Ds Dt Du Dv Dw Dx Dy Dz E0 E1 E2 E3 E4 E5 E6 E7 E8 E9 Ea Eb Ec Ed Ee Ef Eg Eh Ei Ej Ek El Em u141 Eo Ep Eq Er Es Et Eu Ev Ew Ex Ey Ez F0 F1 F2 F3 F4 F5 F6 F7 F8 F9 Fa Fb Fc Fd Fe Ff Fg Fh Fi Fj Fk Fl Fm Fn Fo Fp Fq Fr Fs Ft Fu Fv Fw Fx Fy Fz L0 L1 L2 L3 L4 L5 L6 L7 L8 L9 La Lb Lc Ld Le Lf Lg Lh Li Lj Lk Ll Lm Ln Lo Lp Lq Lr Ls Lt Lu Lv Lw Lx Ly Lz M0 M1 M2 M3 M4 M5 M6 M7 M8 M9 Ma Mb Mc Md Me Mf Mg Mh Mi Mj Mk Ml Mm Mn Mo Mp : Value),Q .normal ⟨#[u0,u1,u2,u3,(.pointer (some ⟨g4,0,none⟩)),u5,(.slice none 0 0),(.int .i64 turn),u8,u9,A0,A1,A2,A3,A4,A5,A6,A7,A8,A9,Aa,Ab,Ac,Ad,Ae,Af,Ag,Ah,Ai,Aj,Ak,Al,Am,An,Ao,Ap,Aq,Ar,As,At,Au,Av,Aw,Ax,Ay,Az,C0,C1,C2,C3,C4,C5,C6,C7,C8,C9,Ca,Cb,Cc,Cd,Ce,Cf,Cg,Ch,Ci,Cj,Ck,Cl,Cm,Cn,Co,Cp,Cq,Cr,Cs,Ct,Cu,Cv,Cw,Cx,Cy,Cz,D0,D1,D2,D3,D4,D5,D6,D7,D8,D9,Da,Db,Dc,Dd,De,Df,Dg,Dh,Di,Dj,Dk,Dl,Dm,Dn,Do,Dp,Dq,Dr,Ds,Dt,Du,Dv,Dw,Dx,Dy,Dz,E0,E1,E2,E3,E4,E5,E6,E7,E8,E9,Ea,Eb,Ec,Ed,Ee,Ef,Eg,Eh,Ei,Ej,Ek,El,Em,u141,Eo,Ep,Eq,Er,Es,Et,Eu,Ev,Ew,Ex,Ey,Ez,F0,F1,F2,F3,F4,F5,F6,F7,F8,F9,Fa,Fb,Fc,Fd,Fe,Ff,Fg,Fh,Fi,Fj,Fk,Fl,Fm,Fn,Fo,Fp,Fq,Fr,Fs,Ft,Fu,Fv,Fw,Fx,Fy,Fz,L0,L1,L2,L3,L4,L5,L6,L7,L8,L9,La,Lb,Lc,Ld,Le,Lf,Lg,Lh,Li,Lj,Lk,Ll,Lm,Ln,Lo,Lp,Lq,Lr,Ls,Lt,Lu,Lv,Lw,Lx,Ly,Lz,M0,M1,M2,M3,M4,M5,M6,M7,M8,M9,Ma,Mb,Mc,Md,Me,Mf,Mg,Mh,Mi,Mj,Mk,Ml,Mm,Mn,Mo,Mp],[]⟩ w') : Code.wp Try.prog tb6 Q ⟨#[u0,u1,u2,u3,(.pointer (some ⟨g4,0,none⟩)),u5,(.slice la ln lc),(.int .i64 turn),(.pointer (some ⟨bx,0,none⟩)),u9,A0,A1,(.pointer (some ⟨g12,0,none⟩)),(.int .i64 0),(.int .i64 wv),(.int .i64 0),(.int .i64 sv),(.int .i64 0),(.int .i64 uv),(.int .i64 0),Aa,Ab,Ac,Ad,Ae,Af,Ag,Ah,Ai,Aj,Ak,Al,Am,An,Ao,Ap,Aq,Ar,As,At,Au,Av,Aw,Ax,Ay,Az,C0,C1,C2,C3,C4,C5,C6,C7,C8,C9,Ca,Cb,Cc,Cd,Ce,Cf,Cg,Ch,Ci,Cj,Ck,Cl,Cm,Cn,Co,Cp,Cq,Cr,Cs,Ct,Cu,Cv,Cw,Cx,Cy,Cz,D0,D1,D2,D3,D4,D5,D6,D7,D8,D9,Da,Db,Dc,Dd,De,Df,Dg,Dh,Di,Dj,Dk,Dl,Dm,Dn,Do,Dp,Dq,Dr,Ds,Dt,Du,Dv,Dw,Dx,Dy,Dz,E0,E1,E2,E3,E4,E5,E6,E7,E8,E9,Ea,Eb,Ec,Ed,Ee,Ef,Eg,Eh,Ei,Ej,Ek,El,Em,u141,Eo,Ep,Eq,Er,Es,Et,Eu,Ev,Ew,Ex,Ey,Ez,F0,F1,F2,F3,F4,F5,F6,F7,F8,F9,Fa,Fb,Fc,Fd,Fe,Ff,Fg,Fh,Fi,Fj,Fk,Fl,Fm,Fn,Fo,Fp,Fq,Fr,Fs,Ft,Fu,Fv,Fw,Fx,Fy,Fz,L0,L1,L2,L3,L4,L5,L6,L7,L8,L9,La,Lb,Lc,Ld,Le,Lf,Lg,Lh,Li,Lj,Lk,Ll,Lm,Ln,Lo,Lp,Lq,Lr,Ls,Lt,Lu,Lv,Lw,Lx,Ly,Lz,M0,M1,M2,M3,M4,M5,M6,M7,M8,M9,Ma,Mb,Mc,Md,Me,Mf,Mg,Mh,Mi,Mj,Mk,Ml,Mm,Mn,Mo,Mp],[]⟩ w := by
  rw [tb6_cut]
  have HS := hidMk hs
  have H12 := hidMk h12
  have HC := hidMk hc
  have HJ := hidMk hjn
  have HL := hidMk hln
  have HK := hidMk hK
  have HPS := hidMk hps
  clear hs h12 hc hjn hln hK hps
  have HSV := hidMk hsv
  have HUV := hidMk huv
  clear hsv huv
  refine wp_seq_k fun K0 hK0 => ?_
  refine wp_seq_k fun K1 hK1 => ?_
  refine wp_region_l [0,1,2,3,4,5,6,7,8,9,10,11,12,13,14,15,16,17,18,19,20,21,22,23,24,25,26,27,28,29,30,31,32,33,34,35,36,37,38,39,40,41,42,43,44,45,46,47,48] (by kernel_rfl) ?_
  refine Hid.out ?_
  refine ra29a HS.out H12.out ?_
  intros
  refine ra29b HS.out H12.out ?_
  intros
  refine ra29c HS.out H12.out HSV.out HUV.out ?_
  intro w' hs'
  have HS' := hidMk hs'
  clear hs'
  intros
  refine hK1 _ _ ?_
  clear hK1 K1
  go_wp2_with fail
  exact tbp7 HS'.out HC.out HJ.out HL.out HPS.out HK.out
set_option maxHeartbeats 9000000 in
set_option maxRecDepth 1000000 in
theorem tbp5 {w0 w : World} {g4 bx : Nat} {J : Jb} {ja : Option Addr} {jn jc : Nat} {la : Option Addr} {ln lc : Nat} {l : List Int} {T : Tg} {g12 : Nat} {wv sv ps tn fn tr : Int} {turn : Int} {Q : Exit → Act → World → Prop} {u0 u1 u2 u3 u5 u9 A0 A1 A8 A9 Aa Ab Ac Ad Ae Af Ag Ah Ai Aj Ak Al Am An Ao Ap Aq Ar As At Au Av Aw Ax Ay Az C0 C1 C2 C3 C4 C5 C6 C7 C8 C9 Ca Cb Cc Cd Ce Cf Cg Ch Ci Cj Ck Cl Cm Cn Co Cp Cq Cr Cs Ct Cu Cv Cw Cx Cy Cz D0 D1 D2 D3 D4 D5 D6 D7 D8 D9 Da Db Dc Dd De Df Dg Dh Di Dj Dk Dl Dm Dn Do Dp Dq Dr Ds Dt Du Dv Dw Dx Dy Dz E0 E1 E2 E3 E4 E5 E6 E7 E8 E9 Ea Eb Ec Ed Ee Ef Eg Eh Ei Ej Ek El Em u141 Eo Ep Eq Er Es Et Eu Ev Ew Ex Ey Ez F0 F1 F2 F3 F4 F5 F6 F7 F8 F9 Fa Fb Fc Fd Fe Ff Fg Fh Fi Fj Fk Fl Fm Fn Fo Fp Fq Fr Fs Ft Fu Fv Fw Fx Fy Fz L0 L1 L2 L3 L4 L5 L6 L7 L8 L9 La Lb Lc Ld Le Lf Lg Lh Li Lj Lk Ll Lm Ln Lo Lp Lq Lr Ls Lt Lu Lv Lw Lx Ly Lz M0 M1 M2 M3 M4 M5 M6 M7 M8 M9 Ma Mb Mc Md Me Mf Mg Mh Mi Mj Mk Ml Mm Mn Mo Mp : Value} (hs : TL w0 w g4 bx J ja jn jc la l (⟨T.p1,T.p2,T.t1,T.t2,T.r1,T.r2,wv,ps,tn,fn,tr⟩ : En)) (h12 : Bk w g12 25 (tonC T)) (hc : filedE J l = 0) (hjn : jn = J.sh.length ∧ jn ≤ 1000) (hln : ln = l.length ∧ ln ≤ 1000) (hsv : toldI tn tr = sv) (hf : toldI fn tr = fineI J (afterS J J.tg l)) (hps : l = [] → toldI ps tr = passI J.wi J.sh J.p1 J.p2) (hK : ∀ w' : World,Below w0.heap.size w0 w' → ∀ (u0 u1 u2 u3 u5 u8 u9 A0 A1 A2 A3 A4 A5 A6 A7 A8 A9 Aa Ab Ac Ad Ae Af Ag Ah Ai Aj Ak Al Am An Ao Ap Aq Ar As At Au Av Aw Ax Ay Az C0 C1 C2 C3 C4 C5 C6 C7 C8 C9 Ca Cb Cc Cd Ce Cf Cg Ch Ci Cj Ck Cl Cm Cn Co Cp Cq Cr Cs Ct Cu Cv Cw Cx Cy Cz D0 D1 D2 D3 D4 D5 D6 D7 D8 D9 Da Db Dc Dd De Df Dg Dh Di Dj Dk Dl Dm Dn Do Dp Dq Dr Ds Dt Du Dv Dw Dx Dy Dz E0 E1 E2 E3 E4 E5 E6 E7 E8 E9 Ea Eb Ec Ed Ee Ef Eg Eh Ei Ej Ek El Em u141 Eo Ep Eq Er Es Et Eu Ev Ew Ex Ey Ez F0 F1 F2 F3 F4 F5 F6 F7 F8 F9 Fa Fb Fc Fd Fe Ff Fg Fh Fi Fj Fk Fl Fm Fn Fo Fp Fq Fr Fs Ft Fu Fv Fw Fx Fy Fz L0 L1 L2 L3 L4 L5 L6 L7 L8 L9 La Lb Lc Ld Le Lf Lg Lh Li Lj Lk Ll Lm Ln Lo Lp Lq Lr Ls Lt Lu Lv Lw Lx Ly Lz M0 M1 M2 M3 M4 M5 M6 M7 M8 M9 Ma Mb Mc Md Me Mf Mg Mh Mi Mj Mk Ml Mm Mn Mo Mp : Value),Q .normal ⟨#[u0,u1,u2,u3,(.pointer (some ⟨g4,0,none⟩)),u5,(.slice none 0 0),(.int .i64 turn),u8,u9,A0,A1,A2,A3,A4,A5,A6,A7,A8,A9,Aa,Ab,Ac,Ad,Ae,Af,Ag,Ah,Ai,Aj,Ak,Al,Am,An,Ao,Ap,Aq,Ar,As,At,Au,Av,Aw,Ax,Ay,Az,C0,C1,C2,C3,C4,C5,C6,C7,C8,C9,Ca,Cb,Cc,Cd,Ce,Cf,Cg,Ch,Ci,Cj,Ck,Cl,Cm,Cn,Co,Cp,Cq,Cr,Cs,Ct,Cu,Cv,Cw,Cx,Cy,Cz,D0,D1,D2,D3,D4,D5,D6,D7,D8,D9,Da,Db,Dc,Dd,De,Df,Dg,Dh,Di,Dj,Dk,Dl,Dm,Dn,Do,Dp,Dq,Dr,Ds,Dt,Du,Dv,Dw,Dx,Dy,Dz,E0,E1,E2,E3,E4,E5,E6,E7,E8,E9,Ea,Eb,Ec,Ed,Ee,Ef,Eg,Eh,Ei,Ej,Ek,El,Em,u141,Eo,Ep,Eq,Er,Es,Et,Eu,Ev,Ew,Ex,Ey,Ez,F0,F1,F2,F3,F4,F5,F6,F7,F8,F9,Fa,Fb,Fc,Fd,Fe,Ff,Fg,Fh,Fi,Fj,Fk,Fl,Fm,Fn,Fo,Fp,Fq,Fr,Fs,Ft,Fu,Fv,Fw,Fx,Fy,Fz,L0,L1,L2,L3,L4,L5,L6,L7,L8,L9,La,Lb,Lc,Ld,Le,Lf,Lg,Lh,Li,Lj,Lk,Ll,Lm,Ln,Lo,Lp,Lq,Lr,Ls,Lt,Lu,Lv,Lw,Lx,Ly,Lz,M0,M1,M2,M3,M4,M5,M6,M7,M8,M9,Ma,Mb,Mc,Md,Me,Mf,Mg,Mh,Mi,Mj,Mk,Ml,Mm,Mn,Mo,Mp],[]⟩ w') : Code.wp Try.prog tb5 Q ⟨#[u0,u1,u2,u3,(.pointer (some ⟨g4,0,none⟩)),u5,(.slice la ln lc),(.int .i64 turn),(.pointer (some ⟨bx,0,none⟩)),u9,A0,A1,(.pointer (some ⟨g12,0,none⟩)),(.int .i64 0),(.int .i64 wv),(.int .i64 0),(.int .i64 sv),(.int .i64 0),A8,A9,Aa,Ab,Ac,Ad,Ae,Af,Ag,Ah,Ai,Aj,Ak,Al,Am,An,Ao,Ap,Aq,Ar,As,At,Au,Av,Aw,Ax,Ay,Az,C0,C1,C2,C3,C4,C5,C6,C7,C8,C9,Ca,Cb,Cc,Cd,Ce,Cf,Cg,Ch,Ci,Cj,Ck,Cl,Cm,Cn,Co,Cp,Cq,Cr,Cs,Ct,Cu,Cv,Cw,Cx,Cy,Cz,D0,D1,D2,D3,D4,D5,D6,D7,D8,D9,Da,Db,Dc,Dd,De,Df,Dg,Dh,Di,Dj,Dk,Dl,Dm,Dn,Do,Dp,Dq,Dr,Ds,Dt,Du,Dv,Dw,Dx,Dy,Dz,E0,E1,E2,E3,E4,E5,E6,E7,E8,E9,Ea,Eb,Ec,Ed,Ee,Ef,Eg,Eh,Ei,Ej,Ek,El,Em,u141,Eo,Ep,Eq,Er,Es,Et,Eu,Ev,Ew,Ex,Ey,Ez,F0,F1,F2,F3,F4,F5,F6,F7,F8,F9,Fa,Fb,Fc,Fd,Fe,Ff,Fg,Fh,Fi,Fj,Fk,Fl,Fm,Fn,Fo,Fp,Fq,Fr,Fs,Ft,Fu,Fv,Fw,Fx,Fy,Fz,L0,L1,L2,L3,L4,L5,L6,L7,L8,L9,La,Lb,Lc,Ld,Le,Lf,Lg,Lh,Li,Lj,Lk,Ll,Lm,Ln,Lo,Lp,Lq,Lr,Ls,Lt,Lu,Lv,Lw,Lx,Ly,Lz,M0,M1,M2,M3,M4,M5,M6,M7,M8,M9,Ma,Mb,Mc,Md,Me,Mf,Mg,Mh,Mi,Mj,Mk,Ml,Mm,Mn,Mo,Mp],[]⟩ w := by
  rw [tb5_eq]
  have HS := hidMk hs
  have H12 := hidMk h12
  have HC := hidMk hc
  have HJ := hidMk hjn
  have HL := hidMk hln
  have HK := hidMk hK
  have HPS := hidMk hps
  clear hs h12 hc hjn hln hK hps
  have HSV := hidMk hsv
  have HF := hidMk hf
  clear hsv hf
  go_wp2_with (first | (refine wpList_load_row rfl 30 _ rfl g4 rfl _ (jobC J (.slice ja jn jc)) _ _ HS.out.job Try.underlying30 rfl szJob ?_))
  refine (fineL_ok fine_hand J l HC.out ja jn jc la ln lc _ HJ.out.1 (by have := HJ.out.2; omega) HS.out.rg HL.out.1 (by have := HL.out.2; omega) HS.out.is).mono ?_
  rintro e w2 ⟨rfl,hb2⟩
  have HS2 := hidMk (HS.out.next hb2)
  have H12b := hidMk (H12.out.below hb2 H12.out.lt)
  clear hb2 HS H12
  have HS := HS2
  have H12 := H12b
  clear HS2 H12b
  obtain ⟨uv,huv⟩ : ∃ v,v = fineI (J.setTg (afterS J J.tg l)) (afterS J J.tg l) := ⟨_,rfl⟩
  rw [← huv]
  dsimp only
  have HU := hidMk (show toldI fn tr = uv from HF.out.trans huv.symm)
  clear huv HF
  go_wp2_with fail
  exact tbp6 HS.out H12.out HC.out HJ.out HL.out HSV.out HU.out HPS.out HK.out
set_option maxHeartbeats 9000000 in
set_option maxRecDepth 1000000 in
theorem tbp4 {w0 w : World} {g4 bx : Nat} {J : Jb} {ja : Option Addr} {jn jc : Nat} {la : Option Addr} {ln lc : Nat} {l : List Int} {T : Tg} {g12 : Nat} {wv ps tn fn tr : Int} {turn : Int} {Q : Exit → Act → World → Prop} {u0 u1 u2 u3 u5 u9 A0 A1 A6 A7 A8 A9 Aa Ab Ac Ad Ae Af Ag Ah Ai Aj Ak Al Am An Ao Ap Aq Ar As At Au Av Aw Ax Ay Az C0 C1 C2 C3 C4 C5 C6 C7 C8 C9 Ca Cb Cc Cd Ce Cf Cg Ch Ci Cj Ck Cl Cm Cn Co Cp Cq Cr Cs Ct Cu Cv Cw Cx Cy Cz D0 D1 D2 D3 D4 D5 D6 D7 D8 D9 Da Db Dc Dd De Df Dg Dh Di Dj Dk Dl Dm Dn Do Dp Dq Dr Ds Dt Du Dv Dw Dx Dy Dz E0 E1 E2 E3 E4 E5 E6 E7 E8 E9 Ea Eb Ec Ed Ee Ef Eg Eh Ei Ej Ek El Em u141 Eo Ep Eq Er Es Et Eu Ev Ew Ex Ey Ez F0 F1 F2 F3 F4 F5 F6 F7 F8 F9 Fa Fb Fc Fd Fe Ff Fg Fh Fi Fj Fk Fl Fm Fn Fo Fp Fq Fr Fs Ft Fu Fv Fw Fx Fy Fz L0 L1 L2 L3 L4 L5 L6 L7 L8 L9 La Lb Lc Ld Le Lf Lg Lh Li Lj Lk Ll Lm Ln Lo Lp Lq Lr Ls Lt Lu Lv Lw Lx Ly Lz M0 M1 M2 M3 M4 M5 M6 M7 M8 M9 Ma Mb Mc Md Me Mf Mg Mh Mi Mj Mk Ml Mm Mn Mo Mp : Value} (hs : TL w0 w g4 bx J ja jn jc la l (⟨T.p1,T.p2,T.t1,T.t2,T.r1,T.r2,wv,ps,tn,fn,tr⟩ : En)) (h12 : Bk w g12 25 (tonC T)) (hc : filedE J l = 0) (hjn : jn = J.sh.length ∧ jn ≤ 1000) (hln : ln = l.length ∧ ln ≤ 1000) (hsn : toldI tn tr = spoilI J.le (afterS J J.tg l)) (hf : toldI fn tr = fineI J (afterS J J.tg l)) (hps : l = [] → toldI ps tr = passI J.wi J.sh J.p1 J.p2) (hK : ∀ w' : World,Below w0.heap.size w0 w' → ∀ (u0 u1 u2 u3 u5 u8 u9 A0 A1 A2 A3 A4 A5 A6 A7 A8 A9 Aa Ab Ac Ad Ae Af Ag Ah Ai Aj Ak Al Am An Ao Ap Aq Ar As At Au Av Aw Ax Ay Az C0 C1 C2 C3 C4 C5 C6 C7 C8 C9 Ca Cb Cc Cd Ce Cf Cg Ch Ci Cj Ck Cl Cm Cn Co Cp Cq Cr Cs Ct Cu Cv Cw Cx Cy Cz D0 D1 D2 D3 D4 D5 D6 D7 D8 D9 Da Db Dc Dd De Df Dg Dh Di Dj Dk Dl Dm Dn Do Dp Dq Dr Ds Dt Du Dv Dw Dx Dy Dz E0 E1 E2 E3 E4 E5 E6 E7 E8 E9 Ea Eb Ec Ed Ee Ef Eg Eh Ei Ej Ek El Em u141 Eo Ep Eq Er Es Et Eu Ev Ew Ex Ey Ez F0 F1 F2 F3 F4 F5 F6 F7 F8 F9 Fa Fb Fc Fd Fe Ff Fg Fh Fi Fj Fk Fl Fm Fn Fo Fp Fq Fr Fs Ft Fu Fv Fw Fx Fy Fz L0 L1 L2 L3 L4 L5 L6 L7 L8 L9 La Lb Lc Ld Le Lf Lg Lh Li Lj Lk Ll Lm Ln Lo Lp Lq Lr Ls Lt Lu Lv Lw Lx Ly Lz M0 M1 M2 M3 M4 M5 M6 M7 M8 M9 Ma Mb Mc Md Me Mf Mg Mh Mi Mj Mk Ml Mm Mn Mo Mp : Value),Q .normal ⟨#[u0,u1,u2,u3,(.pointer (some ⟨g4,0,none⟩)),u5,(.slice none 0 0),(.int .i64 turn),u8,u9,A0,A1,A2,A3,A4,A5,A6,A7,A8,A9,Aa,Ab,Ac,Ad,Ae,Af,Ag,Ah,Ai,Aj,Ak,Al,Am,An,Ao,Ap,Aq,Ar,As,At,Au,Av,Aw,Ax,Ay,Az,C0,C1,C2,C3,C4,C5,C6,C7,C8,C9,Ca,Cb,Cc,Cd,Ce,Cf,Cg,Ch,Ci,Cj,Ck,Cl,Cm,Cn,Co,Cp,Cq,Cr,Cs,Ct,Cu,Cv,Cw,Cx,Cy,Cz,D0,D1,D2,D3,D4,D5,D6,D7,D8,D9,Da,Db,Dc,Dd,De,Df,Dg,Dh,Di,Dj,Dk,Dl,Dm,Dn,Do,Dp,Dq,Dr,Ds,Dt,Du,Dv,Dw,Dx,Dy,Dz,E0,E1,E2,E3,E4,E5,E6,E7,E8,E9,Ea,Eb,Ec,Ed,Ee,Ef,Eg,Eh,Ei,Ej,Ek,El,Em,u141,Eo,Ep,Eq,Er,Es,Et,Eu,Ev,Ew,Ex,Ey,Ez,F0,F1,F2,F3,F4,F5,F6,F7,F8,F9,Fa,Fb,Fc,Fd,Fe,Ff,Fg,Fh,Fi,Fj,Fk,Fl,Fm,Fn,Fo,Fp,Fq,Fr,Fs,Ft,Fu,Fv,Fw,Fx,Fy,Fz,L0,L1,L2,L3,L4,L5,L6,L7,L8,L9,La,Lb,Lc,Ld,Le,Lf,Lg,Lh,Li,Lj,Lk,Ll,Lm,Ln,Lo,Lp,Lq,Lr,Ls,Lt,Lu,Lv,Lw,Lx,Ly,Lz,M0,M1,M2,M3,M4,M5,M6,M7,M8,M9,Ma,Mb,Mc,Md,Me,Mf,Mg,Mh,Mi,Mj,Mk,Ml,Mm,Mn,Mo,Mp],[]⟩ w') : Code.wp Try.prog tb4 Q ⟨#[u0,u1,u2,u3,(.pointer (some ⟨g4,0,none⟩)),u5,(.slice la ln lc),(.int .i64 turn),(.pointer (some ⟨bx,0,none⟩)),u9,A0,A1,(.pointer (some ⟨g12,0,none⟩)),(.int .i64 0),(.int .i64 wv),(.int .i64 0),A6,A7,A8,A9,Aa,Ab,Ac,Ad,Ae,Af,Ag,Ah,Ai,Aj,Ak,Al,Am,An,Ao,Ap,Aq,Ar,As,At,Au,Av,Aw,Ax,Ay,Az,C0,C1,C2,C3,C4,C5,C6,C7,C8,C9,Ca,Cb,Cc,Cd,Ce,Cf,Cg,Ch,Ci,Cj,Ck,Cl,Cm,Cn,Co,Cp,Cq,Cr,Cs,Ct,Cu,Cv,Cw,Cx,Cy,Cz,D0,D1,D2,D3,D4,D5,D6,D7,D8,D9,Da,Db,Dc,Dd,De,Df,Dg,Dh,Di,Dj,Dk,Dl,Dm,Dn,Do,Dp,Dq,Dr,Ds,Dt,Du,Dv,Dw,Dx,Dy,Dz,E0,E1,E2,E3,E4,E5,E6,E7,E8,E9,Ea,Eb,Ec,Ed,Ee,Ef,Eg,Eh,Ei,Ej,Ek,El,Em,u141,Eo,Ep,Eq,Er,Es,Et,Eu,Ev,Ew,Ex,Ey,Ez,F0,F1,F2,F3,F4,F5,F6,F7,F8,F9,Fa,Fb,Fc,Fd,Fe,Ff,Fg,Fh,Fi,Fj,Fk,Fl,Fm,Fn,Fo,Fp,Fq,Fr,Fs,Ft,Fu,Fv,Fw,Fx,Fy,Fz,L0,L1,L2,L3,L4,L5,L6,L7,L8,L9,La,Lb,Lc,Ld,Le,Lf,Lg,Lh,Li,Lj,Lk,Ll,Lm,Ln,Lo,Lp,Lq,Lr,Ls,Lt,Lu,Lv,Lw,Lx,Ly,Lz,M0,M1,M2,M3,M4,M5,M6,M7,M8,M9,Ma,Mb,Mc,Md,Me,Mf,Mg,Mh,Mi,Mj,Mk,Ml,Mm,Mn,Mo,Mp],[]⟩ w := by
  rw [tb4_eq]
  have HS := hidMk hs
  have H12 := hidMk h12
  have HC := hidMk hc
  have HJ := hidMk hjn
  have HL := hidMk hln
  have HK := hidMk hK
  have HPS := hidMk hps
  clear hs h12 hc hjn hln hK hps
  have HSV := hidMk hsn
  have HF := hidMk hf
  clear hsn hf
  go_wp2_with (first | (refine wpList_load_row rfl 30 _ rfl g4 rfl _ (jobC J (.slice ja jn jc)) _ _ HS.out.job Try.underlying30 rfl szJob ?_))
  refine (spoiledL_ok J l HC.out ja jn jc la ln lc _ HJ.out.1 (by have := HJ.out.2; omega) HS.out.rg HL.out.1 (by have := HL.out.2; omega) HS.out.is).mono ?_
  rintro e w2 ⟨rfl,hb2⟩
  have HS2 := hidMk (HS.out.next hb2)
  have H12b := hidMk (H12.out.below hb2 H12.out.lt)
  clear hb2 HS H12
  have HS := HS2
  have H12 := H12b
  clear HS2 H12b
  obtain ⟨sv,hsv⟩ : ∃ v,v = spoilI J.le (afterS J J.tg l) := ⟨_,rfl⟩
  rw [← hsv]
  dsimp only
  have HU := hidMk (show toldI tn tr = sv from HSV.out.trans hsv.symm)
  clear hsv HSV
  go_wp2_with fail
  exact tbp5 HS.out H12.out HC.out HJ.out HL.out HU.out HF.out HPS.out HK.out
set_option maxHeartbeats 9000000 in
set_option maxRecDepth 1000000 in
theorem tbp3 {w0 w : World} {g4 bx : Nat} {J : Jb} {ja : Option Addr} {jn jc : Nat} {la : Option Addr} {ln lc : Nat} {l : List Int} {T : Tg} {g12 : Nat} {wv ps tn fn tr : Int} {turn : Int} {Q : Exit → Act → World → Prop} {u0 u1 u2 u3 u5 u9 A0 A1 A4 A5 A6 A7 A8 A9 Aa Ab Ac Ad Ae Af Ag Ah Ai Aj Ak Al Am An Ao Ap Aq Ar As At Au Av Aw Ax Ay Az C0 C1 C2 C3 C4 C5 C6 C7 C8 C9 Ca Cb Cc Cd Ce Cf Cg Ch Ci Cj Ck Cl Cm Cn Co Cp Cq Cr Cs Ct Cu Cv Cw Cx Cy Cz D0 D1 D2 D3 D4 D5 D6 D7 D8 D9 Da Db Dc Dd De Df Dg Dh Di Dj Dk Dl Dm Dn Do Dp Dq Dr Ds Dt Du Dv Dw Dx Dy Dz E0 E1 E2 E3 E4 E5 E6 E7 E8 E9 Ea Eb Ec Ed Ee Ef Eg Eh Ei Ej Ek El Em u141 Eo Ep Eq Er Es Et Eu Ev Ew Ex Ey Ez F0 F1 F2 F3 F4 F5 F6 F7 F8 F9 Fa Fb Fc Fd Fe Ff Fg Fh Fi Fj Fk Fl Fm Fn Fo Fp Fq Fr Fs Ft Fu Fv Fw Fx Fy Fz L0 L1 L2 L3 L4 L5 L6 L7 L8 L9 La Lb Lc Ld Le Lf Lg Lh Li Lj Lk Ll Lm Ln Lo Lp Lq Lr Ls Lt Lu Lv Lw Lx Ly Lz M0 M1 M2 M3 M4 M5 M6 M7 M8 M9 Ma Mb Mc Md Me Mf Mg Mh Mi Mj Mk Ml Mm Mn Mo Mp : Value} (hs : TL w0 w g4 bx J ja jn jc la l (⟨T.p1,T.p2,T.t1,T.t2,T.r1,T.r2,wv,ps,tn,fn,tr⟩ : En)) (h12 : Bk w g12 25 (tonC T)) (hc : filedE J l = 0) (hjn : jn = J.sh.length ∧ jn ≤ 1000) (hln : ln = l.length ∧ ln ≤ 1000) (hwo : wv = worstI J (afterS J J.tg l)) (hsn : toldI tn tr = spoilI J.le (afterS J J.tg l)) (hf : toldI fn tr = fineI J (afterS J J.tg l)) (hps : l = [] → toldI ps tr = passI J.wi J.sh J.p1 J.p2) (hK : ∀ w' : World,Below w0.heap.size w0 w' → ∀ (u0 u1 u2 u3 u5 u8 u9 A0 A1 A2 A3 A4 A5 A6 A7 A8 A9 Aa Ab Ac Ad Ae Af Ag Ah Ai Aj Ak Al Am An Ao Ap Aq Ar As At Au Av Aw Ax Ay Az C0 C1 C2 C3 C4 C5 C6 C7 C8 C9 Ca Cb Cc Cd Ce Cf Cg Ch Ci Cj Ck Cl Cm Cn Co Cp Cq Cr Cs Ct Cu Cv Cw Cx Cy Cz D0 D1 D2 D3 D4 D5 D6 D7 D8 D9 Da Db Dc Dd De Df Dg Dh Di Dj Dk Dl Dm Dn Do Dp Dq Dr Ds Dt Du Dv Dw Dx Dy Dz E0 E1 E2 E3 E4 E5 E6 E7 E8 E9 Ea Eb Ec Ed Ee Ef Eg Eh Ei Ej Ek El Em u141 Eo Ep Eq Er Es Et Eu Ev Ew Ex Ey Ez F0 F1 F2 F3 F4 F5 F6 F7 F8 F9 Fa Fb Fc Fd Fe Ff Fg Fh Fi Fj Fk Fl Fm Fn Fo Fp Fq Fr Fs Ft Fu Fv Fw Fx Fy Fz L0 L1 L2 L3 L4 L5 L6 L7 L8 L9 La Lb Lc Ld Le Lf Lg Lh Li Lj Lk Ll Lm Ln Lo Lp Lq Lr Ls Lt Lu Lv Lw Lx Ly Lz M0 M1 M2 M3 M4 M5 M6 M7 M8 M9 Ma Mb Mc Md Me Mf Mg Mh Mi Mj Mk Ml Mm Mn Mo Mp : Value),Q .normal ⟨#[u0,u1,u2,u3,(.pointer (some ⟨g4,0,none⟩)),u5,(.slice none 0 0),(.int .i64 turn),u8,u9,A0,A1,A2,A3,A4,A5,A6,A7,A8,A9,Aa,Ab,Ac,Ad,Ae,Af,Ag,Ah,Ai,Aj,Ak,Al,Am,An,Ao,Ap,Aq,Ar,As,At,Au,Av,Aw,Ax,Ay,Az,C0,C1,C2,C3,C4,C5,C6,C7,C8,C9,Ca,Cb,Cc,Cd,Ce,Cf,Cg,Ch,Ci,Cj,Ck,Cl,Cm,Cn,Co,Cp,Cq,Cr,Cs,Ct,Cu,Cv,Cw,Cx,Cy,Cz,D0,D1,D2,D3,D4,D5,D6,D7,D8,D9,Da,Db,Dc,Dd,De,Df,Dg,Dh,Di,Dj,Dk,Dl,Dm,Dn,Do,Dp,Dq,Dr,Ds,Dt,Du,Dv,Dw,Dx,Dy,Dz,E0,E1,E2,E3,E4,E5,E6,E7,E8,E9,Ea,Eb,Ec,Ed,Ee,Ef,Eg,Eh,Ei,Ej,Ek,El,Em,u141,Eo,Ep,Eq,Er,Es,Et,Eu,Ev,Ew,Ex,Ey,Ez,F0,F1,F2,F3,F4,F5,F6,F7,F8,F9,Fa,Fb,Fc,Fd,Fe,Ff,Fg,Fh,Fi,Fj,Fk,Fl,Fm,Fn,Fo,Fp,Fq,Fr,Fs,Ft,Fu,Fv,Fw,Fx,Fy,Fz,L0,L1,L2,L3,L4,L5,L6,L7,L8,L9,La,Lb,Lc,Ld,Le,Lf,Lg,Lh,Li,Lj,Lk,Ll,Lm,Ln,Lo,Lp,Lq,Lr,Ls,Lt,Lu,Lv,Lw,Lx,Ly,Lz,M0,M1,M2,M3,M4,M5,M6,M7,M8,M9,Ma,Mb,Mc,Md,Me,Mf,Mg,Mh,Mi,Mj,Mk,Ml,Mm,Mn,Mo,Mp],[]⟩ w') : Code.wp Try.prog tb3 Q ⟨#[u0,u1,u2,u3,(.pointer (some ⟨g4,0,none⟩)),u5,(.slice la ln lc),(.int .i64 turn),(.pointer (some ⟨bx,0,none⟩)),u9,A0,A1,(.pointer (some ⟨g12,0,none⟩)),(.int .i64 0),A4,A5,A6,A7,A8,A9,Aa,Ab,Ac,Ad,Ae,Af,Ag,Ah,Ai,Aj,Ak,Al,Am,An,Ao,Ap,Aq,Ar,As,At,Au,Av,Aw,Ax,Ay,Az,C0,C1,C2,C3,C4,C5,C6,C7,C8,C9,Ca,Cb,Cc,Cd,Ce,Cf,Cg,Ch,Ci,Cj,Ck,Cl,Cm,Cn,Co,Cp,Cq,Cr,Cs,Ct,Cu,Cv,Cw,Cx,Cy,Cz,D0,D1,D2,D3,D4,D5,D6,D7,D8,D9,Da,Db,Dc,Dd,De,Df,Dg,Dh,Di,Dj,Dk,Dl,Dm,Dn,Do,Dp,Dq,Dr,Ds,Dt,Du,Dv,Dw,Dx,Dy,Dz,E0,E1,E2,E3,E4,E5,E6,E7,E8,E9,Ea,Eb,Ec,Ed,Ee,Ef,Eg,Eh,Ei,Ej,Ek,El,Em,u141,Eo,Ep,Eq,Er,Es,Et,Eu,Ev,Ew,Ex,Ey,Ez,F0,F1,F2,F3,F4,F5,F6,F7,F8,F9,Fa,Fb,Fc,Fd,Fe,Ff,Fg,Fh,Fi,Fj,Fk,Fl,Fm,Fn,Fo,Fp,Fq,Fr,Fs,Ft,Fu,Fv,Fw,Fx,Fy,Fz,L0,L1,L2,L3,L4,L5,L6,L7,L8,L9,La,Lb,Lc,Ld,Le,Lf,Lg,Lh,Li,Lj,Lk,Ll,Lm,Ln,Lo,Lp,Lq,Lr,Ls,Lt,Lu,Lv,Lw,Lx,Ly,Lz,M0,M1,M2,M3,M4,M5,M6,M7,M8,M9,Ma,Mb,Mc,Md,Me,Mf,Mg,Mh,Mi,Mj,Mk,Ml,Mm,Mn,Mo,Mp],[]⟩ w := by
  rw [tb3_eq]
  have HS := hidMk hs
  have H12 := hidMk h12
  have HC := hidMk hc
  have HJ := hidMk hjn
  have HL := hidMk hln
  have HK := hidMk hK
  have HPS := hidMk hps
  clear hs h12 hc hjn hln hK hps
  have HSV := hidMk hsn
  have HF := hidMk hf
  have HW := hidMk hwo
  clear hsn hf hwo
  go_wp2_with (first | (refine wpList_load_row rfl 30 _ rfl g4 rfl _ (jobC J (.slice ja jn jc)) _ _ HS.out.job Try.underlying30 rfl szJob ?_))
  refine (worstL_ok J l HC.out ja jn jc la ln lc _ HJ.out.1 (by have := HJ.out.2; omega) HS.out.rg HL.out.1 (by have := HL.out.2; omega) HS.out.is).mono ?_
  rintro e w2 ⟨rfl,hb2⟩
  have HS2 := hidMk (HS.out.next hb2)
  have H12b := hidMk (H12.out.below hb2 H12.out.lt)
  clear hb2 HS H12
  have HS := HS2
  have H12 := H12b
  clear HS2 H12b
  rw [show worstI (J.setTg (afterS J J.tg l)) (afterS J J.tg l) = wv from HW.out.symm]
  dsimp only
  go_wp2_with fail
  exact tbp4 HS.out H12.out HC.out HJ.out HL.out HSV.out HF.out HPS.out HK.out
set_option maxHeartbeats 9000000 in
set_option maxRecDepth 1000000 in
theorem tbp2 {w0 w : World} {g4 bx : Nat} {J : Jb} {ja : Option Addr} {jn jc : Nat} {la : Option Addr} {ln lc : Nat} {l : List Int} {E : En} {turn : Int} {Q : Exit → Act → World → Prop} {u0 u1 u2 u3 u5 u9 A0 A1 A2 A3 A4 A5 A6 A7 A8 A9 Aa Ab Ac Ad Ae Af Ag Ah Ai Aj Ak Al Am An Ao Ap Aq Ar As At Au Av Aw Ax Ay Az C0 C1 C2 C3 C4 C5 C6 C7 C8 C9 Ca Cb Cc Cd Ce Cf Cg Ch Ci Cj Ck Cl Cm Cn Co Cp Cq Cr Cs Ct Cu Cv Cw Cx Cy Cz D0 D1 D2 D3 D4 D5 D6 D7 D8 D9 Da Db Dc Dd De Df Dg Dh Di Dj Dk Dl Dm Dn Do Dp Dq Dr Ds Dt Du Dv Dw Dx Dy Dz E0 E1 E2 E3 E4 E5 E6 E7 E8 E9 Ea Eb Ec Ed Ee Ef Eg Eh Ei Ej Ek El Em u141 Eo Ep Eq Er Es Et Eu Ev Ew Ex Ey Ez F0 F1 F2 F3 F4 F5 F6 F7 F8 F9 Fa Fb Fc Fd Fe Ff Fg Fh Fi Fj Fk Fl Fm Fn Fo Fp Fq Fr Fs Ft Fu Fv Fw Fx Fy Fz L0 L1 L2 L3 L4 L5 L6 L7 L8 L9 La Lb Lc Ld Le Lf Lg Lh Li Lj Lk Ll Lm Ln Lo Lp Lq Lr Ls Lt Lu Lv Lw Lx Ly Lz M0 M1 M2 M3 M4 M5 M6 M7 M8 M9 Ma Mb Mc Md Me Mf Mg Mh Mi Mj Mk Ml Mm Mn Mo Mp : Value} (hs : TL w0 w g4 bx J ja jn jc la l E) (hc : filedE J l = 0) (hjn : jn = J.sh.length ∧ jn ≤ 1000) (hln : ln = l.length ∧ ln ≤ 1000) (hq : (E.pl = (afterS J J.tg l).p1 ∧ E.ph = (afterS J J.tg l).p2 ∧ E.tl = (afterS J J.tg l).t1 ∧ E.th = (afterS J J.tg l).t2 ∧ E.rl = (afterS J J.tg l).r1 ∧ E.rh = (afterS J J.tg l).r2) ∧ E.worst = worstI J (afterS J J.tg l) ∧ toldI E.thin E.truths = spoilI J.le (afterS J J.tg l) ∧ toldI E.fine E.truths = fineI J (afterS J J.tg l) ∧ toldI E.passes E.truths = passI J.wi J.sh (afterS J J.tg l).p1 (afterS J J.tg l).p2) (hK : ∀ w' : World,Below w0.heap.size w0 w' → ∀ (u0 u1 u2 u3 u5 u8 u9 A0 A1 A2 A3 A4 A5 A6 A7 A8 A9 Aa Ab Ac Ad Ae Af Ag Ah Ai Aj Ak Al Am An Ao Ap Aq Ar As At Au Av Aw Ax Ay Az C0 C1 C2 C3 C4 C5 C6 C7 C8 C9 Ca Cb Cc Cd Ce Cf Cg Ch Ci Cj Ck Cl Cm Cn Co Cp Cq Cr Cs Ct Cu Cv Cw Cx Cy Cz D0 D1 D2 D3 D4 D5 D6 D7 D8 D9 Da Db Dc Dd De Df Dg Dh Di Dj Dk Dl Dm Dn Do Dp Dq Dr Ds Dt Du Dv Dw Dx Dy Dz E0 E1 E2 E3 E4 E5 E6 E7 E8 E9 Ea Eb Ec Ed Ee Ef Eg Eh Ei Ej Ek El Em u141 Eo Ep Eq Er Es Et Eu Ev Ew Ex Ey Ez F0 F1 F2 F3 F4 F5 F6 F7 F8 F9 Fa Fb Fc Fd Fe Ff Fg Fh Fi Fj Fk Fl Fm Fn Fo Fp Fq Fr Fs Ft Fu Fv Fw Fx Fy Fz L0 L1 L2 L3 L4 L5 L6 L7 L8 L9 La Lb Lc Ld Le Lf Lg Lh Li Lj Lk Ll Lm Ln Lo Lp Lq Lr Ls Lt Lu Lv Lw Lx Ly Lz M0 M1 M2 M3 M4 M5 M6 M7 M8 M9 Ma Mb Mc Md Me Mf Mg Mh Mi Mj Mk Ml Mm Mn Mo Mp : Value),Q .normal ⟨#[u0,u1,u2,u3,(.pointer (some ⟨g4,0,none⟩)),u5,(.slice none 0 0),(.int .i64 turn),u8,u9,A0,A1,A2,A3,A4,A5,A6,A7,A8,A9,Aa,Ab,Ac,Ad,Ae,Af,Ag,Ah,Ai,Aj,Ak,Al,Am,An,Ao,Ap,Aq,Ar,As,At,Au,Av,Aw,Ax,Ay,Az,C0,C1,C2,C3,C4,C5,C6,C7,C8,C9,Ca,Cb,Cc,Cd,Ce,Cf,Cg,Ch,Ci,Cj,Ck,Cl,Cm,Cn,Co,Cp,Cq,Cr,Cs,Ct,Cu,Cv,Cw,Cx,Cy,Cz,D0,D1,D2,D3,D4,D5,D6,D7,D8,D9,Da,Db,Dc,Dd,De,Df,Dg,Dh,Di,Dj,Dk,Dl,Dm,Dn,Do,Dp,Dq,Dr,Ds,Dt,Du,Dv,Dw,Dx,Dy,Dz,E0,E1,E2,E3,E4,E5,E6,E7,E8,E9,Ea,Eb,Ec,Ed,Ee,Ef,Eg,Eh,Ei,Ej,Ek,El,Em,u141,Eo,Ep,Eq,Er,Es,Et,Eu,Ev,Ew,Ex,Ey,Ez,F0,F1,F2,F3,F4,F5,F6,F7,F8,F9,Fa,Fb,Fc,Fd,Fe,Ff,Fg,Fh,Fi,Fj,Fk,Fl,Fm,Fn,Fo,Fp,Fq,Fr,Fs,Ft,Fu,Fv,Fw,Fx,Fy,Fz,L0,L1,L2,L3,L4,L5,L6,L7,L8,L9,La,Lb,Lc,Ld,Le,Lf,Lg,Lh,Li,Lj,Lk,Ll,Lm,Ln,Lo,Lp,Lq,Lr,Ls,Lt,Lu,Lv,Lw,Lx,Ly,Lz,M0,M1,M2,M3,M4,M5,M6,M7,M8,M9,Ma,Mb,Mc,Md,Me,Mf,Mg,Mh,Mi,Mj,Mk,Ml,Mm,Mn,Mo,Mp],[]⟩ w') : Code.wp Try.prog tb2 Q ⟨#[u0,u1,u2,u3,(.pointer (some ⟨g4,0,none⟩)),u5,(.slice la ln lc),(.int .i64 turn),(.pointer (some ⟨bx,0,none⟩)),u9,A0,A1,A2,A3,A4,A5,A6,A7,A8,A9,Aa,Ab,Ac,Ad,Ae,Af,Ag,Ah,Ai,Aj,Ak,Al,Am,An,Ao,Ap,Aq,Ar,As,At,Au,Av,Aw,Ax,Ay,Az,C0,C1,C2,C3,C4,C5,C6,C7,C8,C9,Ca,Cb,Cc,Cd,Ce,Cf,Cg,Ch,Ci,Cj,Ck,Cl,Cm,Cn,Co,Cp,Cq,Cr,Cs,Ct,Cu,Cv,Cw,Cx,Cy,Cz,D0,D1,D2,D3,D4,D5,D6,D7,D8,D9,Da,Db,Dc,Dd,De,Df,Dg,Dh,Di,Dj,Dk,Dl,Dm,Dn,Do,Dp,Dq,Dr,Ds,Dt,Du,Dv,Dw,Dx,Dy,Dz,E0,E1,E2,E3,E4,E5,E6,E7,E8,E9,Ea,Eb,Ec,Ed,Ee,Ef,Eg,Eh,Ei,Ej,Ek,El,Em,u141,Eo,Ep,Eq,Er,Es,Et,Eu,Ev,Ew,Ex,Ey,Ez,F0,F1,F2,F3,F4,F5,F6,F7,F8,F9,Fa,Fb,Fc,Fd,Fe,Ff,Fg,Fh,Fi,Fj,Fk,Fl,Fm,Fn,Fo,Fp,Fq,Fr,Fs,Ft,Fu,Fv,Fw,Fx,Fy,Fz,L0,L1,L2,L3,L4,L5,L6,L7,L8,L9,La,Lb,Lc,Ld,Le,Lf,Lg,Lh,Li,Lj,Lk,Ll,Lm,Ln,Lo,Lp,Lq,Lr,Ls,Lt,Lu,Lv,Lw,Lx,Ly,Lz,M0,M1,M2,M3,M4,M5,M6,M7,M8,M9,Ma,Mb,Mc,Md,Me,Mf,Mg,Mh,Mi,Mj,Mk,Ml,Mm,Mn,Mo,Mp],[]⟩ w := by
  rw [tb2_eq]
  obtain ⟨⟨q1,q2,q3,q4,q5,q6⟩,q7,q8,q9,q10⟩ := hq
  obtain ⟨pl,ph,tl,th,rl,rh,wo,ps,tn,fn,tr⟩ := E
  simp only at q1 q2 q3 q4 q5 q6 q7 q8 q9 q10
  subst q1 q2 q3 q4 q5 q6
  have HQ7 := hidMk q7
  have HQ8 := hidMk q8
  have HQ9 := hidMk q9
  have hps : l = [] → toldI ps tr = passI J.wi J.sh J.p1 J.p2 := fun h => by
    subst h
    exact q10
  have HPS := hidMk hps
  have HS := hidMk hs
  have HC := hidMk hc
  have HJ := hidMk hjn
  have HL := hidMk hln
  have HK := hidMk hK
  clear hs hc hjn hln hK
  clear q7 q8 q9 q10 hps
  go_wp2_with (first | (refine wpList_load_row rfl 30 _ rfl g4 rfl _ (jobC J (.slice ja jn jc)) _ _ HS.out.job Try.underlying30 rfl szJob ?_))
  refine (afterF_any J ja jn jc la ln lc l _ HJ.out.1 (by have := HJ.out.2; omega) HS.out.rg HL.out.1 (by have := HL.out.2; omega) HS.out.is).mono ?_
  rintro e w2 ⟨he,hb2⟩
  rw [if_pos HC.out] at he
  subst he
  have HS2 := hidMk (HS.out.next hb2)
  clear hb2 HS
  have HS := HS2
  clear HS2
  obtain ⟨T,hT⟩ : ∃ T,T = (afterS J J.tg l) := ⟨_,rfl⟩
  have HT := hidMk hT
  rw [← hT] at HS ⊢
  clear hT
  dsimp only
  go_wp2_with fail
  have al : Below w2.heap.size w2 (w2.alloc (.cells (tonC T) 25)) := (Below.refl _ _).alloc (Nat.le_refl _) _
  exact tbp3 (T := T) (HS.out.next al) (Bk.new _ _ _) HC.out HJ.out HL.out HQ7.out HQ8.out HQ9.out HPS.out HK.out
end Go.Proofs.Ytolabejbhaeddaa
