/- Part 16 of the proof: AlX. -/
import Derived.Great.Walk
import Derived.Deep.WholeRow
import Derived.Deep.MidRow
import Derived.Test.YtolabejbhaeddaaW15
import Derived.Test.YtolabejbhaeddaaW06
/- The law ReedAll: its head, second part. -/
namespace Go.Proofs.Ytolabejbhaeddaa
set_option linter.all false
open Go.RowKit Go.Great

/-- What lies about before the turns. -/
structure H9 (w0 w : World) (b g4 : Nat) (J : Jb) (ja : Option Addr) (jn jc : Nat) : Prop where
  b0 : Below w0.heap.size w0 w
  hb : w0.heap.size ≤ b
  pt : Pt w b
  job : Bk w g4 30 (jobC J (.slice ja jn jc))
  ne : g4 ≠ b ∧ w0.heap.size ≤ g4
section
variable {w0 w : World} {b g4 : Nat} {J : Jb} {ja : Option Addr} {jn jc : Nat} {w' : World}
theorem H9.pot (h : H9 w0 w b g4 J ja jn jc) (hk : PB b w.heap.size w w') (hp : Pt w' b) : H9 w0 w' b g4 J ja jn jc :=
  ⟨h.b0.trans ((hk.mono h.b0.size).toBelow h.hb),h.hb,hp,h.job.pb hk h.job.lt h.ne.1,h.ne⟩
theorem H9.next (h : H9 w0 w b g4 J ja jn jc) (hb : Below w.heap.size w w') : H9 w0 w' b g4 J ja jn jc := h.pot (PB.of hb) (h.pt.below hb h.pt.lt)
/-- A cell of the job is set. -/
theorem H9.put {J' : Jb} {ja' : Option Addr} {jn' jc' : Nat} (h : H9 w0 w b g4 J ja jn jc) (i : Nat) (v : Value) (hc : (jobC J (.slice ja jn jc)).setIfInBounds i v = (jobC J' (.slice ja' jn' jc'))) : H9 w0 (w.setCell ⟨g4,i,none⟩ v) b g4 J' ja' jn' jc' := by
  refine ⟨h.b0.setCell (p := ⟨g4,i,none⟩) h.ne.2 v,h.hb,h.pt.other (p := ⟨g4,i,none⟩) (fun e => h.ne.1 e.symm) v,?_,h.ne⟩
  rw [← hc]
  exact h.job.put i v
end
/-- The shifts lie in a block of their own; those before place i are clipped. -/
def Clip (r : R2) : R2 := (r.1,mn r.2 (r.1 + 2))
def SH (w0 w : World) (b g4 : Nat) (ja : Option Addr) (L : List R2) (i : Nat) : Prop := L ≠ [] → ∃ g o cur,ja = some ⟨g,o,none⟩ ∧ (w0.heap.size ≤ g ∧ g ≠ b ∧ g ≠ g4) ∧ Bk w g 23 cur ∧ ∀ (k : Nat) (r : R2),L[k]? = some r → cur[o + k * 2]? = some (.int .i64 r.1) ∧ cur[o + k * 2 + 1]? = some (.int .i64 (if k < i then (Clip r).2 else r.2))
theorem SH.pot {w0 w w' : World} {b g4 i : Nat} {ja : Option Addr} {L : List R2} (h : SH w0 w b g4 ja L i) (hk : PB b w.heap.size w w') : SH w0 w' b g4 ja L i := fun hl => by
  obtain ⟨g,o,cur,h1,h2,h3,h4⟩ := h hl
  exact ⟨g,o,cur,h1,h2,h3.pb hk h3.lt h2.2.1,h4⟩
theorem SH.put4 {w0 w : World} {b g4 i : Nat} {ja : Option Addr} {L : List R2} (h : SH w0 w b g4 ja L i) (j : Nat) (v : Value) : SH w0 (w.setCell ⟨g4,j,none⟩ v) b g4 ja L i := fun hl => by
  obtain ⟨g,o,cur,h1,h2,h3,h4⟩ := h hl
  exact ⟨g,o,cur,h1,h2,h3.other (p := ⟨g4,j,none⟩) h2.2.2 v,h4⟩
theorem SH.rg {w0 w : World} {b g4 : Nat} {ja : Option Addr} {L : List R2} (h : SH w0 w b g4 ja L L.length) : Rg w w.heap.size ja (L.map Clip) := fun k r hr => by
  rw [List.getElem?_map] at hr
  obtain ⟨s,hs,rfl⟩ := Option.map_eq_some_iff.1 hr
  have hk := (List.getElem?_eq_some_iff.1 hs).1
  obtain ⟨g,o,cur,h1,h2,h3,h4⟩ := h (fun e => by rw [e] at hs; simp at hs)
  obtain ⟨q1,q2⟩ := h4 k s hs
  rw [if_pos hk] at q2
  exact ⟨g,o,h1,h3.lt,h3.at_ _ _ q1,h3.at_ _ _ q2⟩
theorem clip_full {J : Jb} (h : J.Full) (k : Nat) : ({ J with sh := (J.sh.take k).map Clip } : Jb).Full := by
  obtain ⟨p,t,r,u,d,x,y,le,wi,me,len,sh⟩ := h
  refine ⟨p,t,r,u,d,x,y,le,wi,me,?_,?_⟩
  · show ((J.sh.take k).map Clip).length ≤ 4
    rw [List.length_map,List.length_take]
    omega
  · intro s hs
    obtain ⟨q,hq,rfl⟩ := List.mem_map.1 (show s ∈ (J.sh.take k).map Clip from hs)
    have := sh q (List.mem_of_mem_take hq)
    unfold Clip mn
    simp only
    split <;> omega
set_option maxHeartbeats 4000000 in
set_option maxRecDepth 1000000 in
theorem rapart7 {w0 w : World} {b g4 : Nat} {J : Jb} {ja : Option Addr} {jn jc : Nat} {u0 u1 u2 u5 u6 u7 u8 u9 A0 A1 A2 A3 A4 A5 A6 A7 A8 A9 Aa Ab Ac Ad Ae Af Ag Ah Ai Aj Ak Al Am An Ao Ap Aq Ar As At Au Av Aw Ax Ay Az C0 C1 C2 C3 C4 C5 C6 C7 C8 C9 Ca Cb Cc Cd Ce Cf Cg Ch Ci Cj Ck Cl Cm Cn Co Cp Cq Cr Cs Ct Cu Cv Cw Cx Cy Cz D0 D1 D2 D3 D4 D5 D6 D7 D8 D9 Da Db Dc Dd De Df Dg Dh Di Dj Dk Dl Dm Dn Do Dp Dq Dr Ds Dt Du Dv Dw Dx Dy Dz E0 E1 E2 E3 E4 E5 E6 E7 E8 E9 Ea Eb Ec Ed Ee Ef Eg Eh Ei Ej Ek El Em En Eo Ep Eq Er Es Et Eu Ev Ew Ex Ey Ez F0 F1 F2 F3 F4 F5 F6 F7 F8 F9 Fa Fb Fc Fd Fe Ff Fg Fh Fi Fj Fk Fl Fm Fn Fo Fp Fq Fr Fs Ft Fu Fv Fw Fx Fy Fz L0 L1 L2 L3 L4 L5 L6 L7 L8 L9 La Lb Lc Ld Le Lf Lg Lh Li Lj Lk Ll Lm Ln Lo Lp Lq Lr Ls Lt Lu Lv Lw Lx Ly Lz M0 M1 M2 M3 M4 M5 M6 M7 M8 M9 Ma Mb Mc Md Me Mf Mg Mh Mi Mj Mk Ml Mm Mn Mo Mp : Value} (htun : TunOK) (hF : J.Full) (hs : H9 w0 w b g4 J ja jn jc) (hjn : jn = J.sh.length ∧ jn ≤ 2) (hrg : Rg w w.heap.size ja J.sh) : Code.wp Try.prog rarest7 (QRA w0) ⟨#[u0,u1,u2,(.pointer (some ⟨b,0,none⟩)),(.pointer (some ⟨g4,0,none⟩)),u5,u6,u7,u8,u9,A0,A1,A2,A3,A4,A5,A6,A7,A8,A9,Aa,Ab,Ac,Ad,Ae,Af,Ag,Ah,Ai,Aj,Ak,Al,Am,An,Ao,Ap,Aq,Ar,As,At,Au,Av,Aw,Ax,Ay,Az,C0,C1,C2,C3,C4,C5,C6,C7,C8,C9,Ca,Cb,Cc,Cd,Ce,Cf,Cg,Ch,Ci,Cj,Ck,Cl,Cm,Cn,Co,Cp,Cq,Cr,Cs,Ct,Cu,Cv,Cw,Cx,Cy,Cz,D0,D1,D2,D3,D4,D5,D6,D7,D8,D9,Da,Db,Dc,Dd,De,Df,Dg,Dh,Di,Dj,Dk,Dl,Dm,Dn,Do,Dp,Dq,Dr,Ds,Dt,Du,Dv,Dw,Dx,Dy,Dz,E0,E1,E2,E3,E4,E5,E6,E7,E8,E9,Ea,Eb,Ec,Ed,Ee,Ef,Eg,Eh,Ei,Ej,Ek,El,Em,En,Eo,Ep,Eq,Er,Es,Et,Eu,Ev,Ew,Ex,Ey,Ez,F0,F1,F2,F3,F4,F5,F6,F7,F8,F9,Fa,Fb,Fc,Fd,Fe,Ff,Fg,Fh,Fi,Fj,Fk,Fl,Fm,Fn,Fo,Fp,Fq,Fr,Fs,Ft,Fu,Fv,Fw,Fx,Fy,Fz,L0,L1,L2,L3,L4,L5,L6,L7,L8,L9,La,Lb,Lc,Ld,Le,Lf,Lg,Lh,Li,Lj,Lk,Ll,Lm,Ln,Lo,Lp,Lq,Lr,Ls,Lt,Lu,Lv,Lw,Lx,Ly,Lz,M0,M1,M2,M3,M4,M5,M6,M7,M8,M9,Ma,Mb,Mc,Md,Me,Mf,Mg,Mh,Mi,Mj,Mk,Ml,Mm,Mn,Mo,Mp],[]⟩ w := by
  rw [rarest7_eq]
  have HT := hidMk htun
  have HF := hidMk hF
  have HS := hidMk hs
  clear htun hF hs
  have HJ := hidMk hjn
  have HR := hidMk hrg
  clear hjn hrg
  go_wp2_with fail
  refine (strokesC_any 2 (by decide) b _ HS.out.pt).mono ?_
  rintro e w2 ⟨la,ln,lc,l,rfl,hln,hl2,h12,his,hlc,hk,hp2⟩
  have hh := HS.out.pot hk hp2
  have hr := HR.out.pb HS.out.pt hk
  have HW := hidMk (show HW w0 w2 g4 J ja jn jc la l from ⟨hh.b0,hh.job,hr,his⟩)
  have HL := hidMk (And.intro hln hlc)
  have H12 := hidMk h12
  have hl3 : l.length ≤ 2 := by omega
  clear hk hp2 his hh hr hln hlc h12 HS HR hl2
  dsimp only
  go_wp2_with fail
  exact rapart8 HT.out HW.out HF.out HJ.out HL.out H12.out hl3
set_option maxHeartbeats 4000000 in
set_option maxRecDepth 1000000 in
theorem rapart6 {w0 w : World} {b g4 : Nat} {J : Jb} {ja : Option Addr} {jn jc : Nat} {u0 u1 u2 u5 u6 u7 u8 u9 A0 A1 A2 A3 A4 A5 A6 A7 A8 A9 Aa Ab Ac Ad Ae Af Ag Ah Ai Aj Ak Al Am An Ao Ap Aq Ar As At Au Av Aw Ax Ay Az C0 C1 C2 C3 C4 C5 C6 C7 C8 C9 Ca Cb Cc Cd Ce Cf Cg Ch Ci Cj Ck Cl Cm Cn Co Cp Cq Cr Cs Ct Cu Cv Cw Cx Cy Cz D0 D1 D2 D3 D4 D5 D6 D7 D8 D9 Da Db Dc Dd De Df Dg Dh Di Dj Dk Dl Dm Dn Do Dp Dq Dr Ds Dt Du Dv Dw Dx Dy Dz E0 E1 E2 E3 E4 E5 E6 E7 E8 E9 Ea Eb Ec Ed Ee Ef Eg Eh Ei Ej Ek El Em En Eo Ep Eq Er Es Et Eu Ev Ew Ex Ey Ez F0 F1 F2 F3 F4 F5 F6 F7 F8 F9 Fa Fb Fc Fd Fe Ff Fg Fh Fi Fj Fk Fl Fm Fn Fo Fp Fq Fr Fs Ft Fu Fv Fw Fx Fy Fz L0 L1 L2 L3 L4 L5 L6 L7 L8 L9 La Lb Lc Ld Le Lf Lg Lh Li Lj Lk Ll Lm Ln Lo Lp Lq Lr Ls Lt Lu Lv Lw Lx Ly Lz M0 M1 M2 M3 M4 M5 M6 M7 M8 M9 Ma Mb Mc Md Me Mf Mg Mh Mi Mj Mk Ml Mm Mn Mo Mp : Value} (htun : TunOK) (hF : J.Full) (hs : H9 w0 w b g4 J ja jn jc) (hjn : jn = J.sh.length ∧ jn ≤ 2) (hrg : Rg w w.heap.size ja J.sh) (h18 : 18 ≤ J.t1 ∧ 18 ≤ J.r1) (hoff : ∀ (w1 : World),Rg w1 w1.heap.size ja J.sh → ∀ (i : Nat) (v : Value),Rg (w1.setCell ⟨g4,i,none⟩ v) w1.heap.size ja J.sh) : Code.wp Try.prog rarest6 (QRA w0) ⟨#[u0,u1,u2,(.pointer (some ⟨b,0,none⟩)),(.pointer (some ⟨g4,0,none⟩)),u5,u6,u7,u8,u9,A0,A1,A2,A3,A4,A5,A6,A7,A8,A9,Aa,Ab,Ac,Ad,Ae,Af,Ag,Ah,Ai,Aj,Ak,Al,Am,An,Ao,Ap,Aq,Ar,As,At,Au,Av,Aw,Ax,Ay,Az,C0,C1,C2,C3,C4,C5,C6,C7,C8,C9,Ca,Cb,Cc,Cd,Ce,Cf,Cg,Ch,Ci,Cj,Ck,Cl,Cm,Cn,Co,Cp,Cq,Cr,Cs,Ct,Cu,Cv,Cw,Cx,Cy,Cz,D0,D1,D2,D3,D4,D5,D6,D7,D8,D9,Da,Db,Dc,Dd,De,Df,Dg,Dh,Di,Dj,Dk,Dl,Dm,Dn,Do,Dp,Dq,Dr,Ds,Dt,Du,Dv,Dw,Dx,Dy,Dz,E0,E1,E2,E3,E4,E5,E6,E7,E8,E9,Ea,Eb,Ec,Ed,Ee,Ef,Eg,Eh,Ei,Ej,Ek,El,Em,En,Eo,Ep,Eq,Er,Es,Et,Eu,Ev,Ew,Ex,Ey,Ez,F0,F1,F2,F3,F4,F5,F6,F7,F8,F9,Fa,Fb,Fc,Fd,Fe,Ff,Fg,Fh,Fi,Fj,Fk,Fl,Fm,Fn,Fo,Fp,Fq,Fr,Fs,Ft,Fu,Fv,Fw,Fx,Fy,Fz,L0,L1,L2,L3,L4,L5,L6,L7,L8,L9,La,Lb,Lc,Ld,Le,Lf,Lg,Lh,Li,Lj,Lk,Ll,Lm,Ln,Lo,Lp,Lq,Lr,Ls,Lt,Lu,Lv,Lw,Lx,Ly,Lz,M0,M1,M2,M3,M4,M5,M6,M7,M8,M9,Ma,Mb,Mc,Md,Me,Mf,Mg,Mh,Mi,Mj,Mk,Ml,Mm,Mn,Mo,Mp],[]⟩ w := by
  rw [rarest6_eq]
  have HT := hidMk htun
  have HF := hidMk hF
  have HS := hidMk hs
  clear htun hF hs
  have HJ := hidMk hjn
  have HR := hidMk hrg
  have HOF := hidMk hoff
  have hle := HF.out.le
  have ht := HF.out.t
  have hr := HF.out.r
  clear hjn hrg hoff
  refine wp_seq_k fun K0 hK0 => ?_
  refine region_via (R := fun a_ e_ a' w' => e_ = .normal ∧ ∃ (Ug Uh Ui Uj Uk Ul Um Un Uo Up Uq Ur Us Ut Uu Uv Uw Ux Uy Uz V0 V1 : Value) (v : Int),a' = ((((((((((((((((((((((a_.put (some 86) Ug).put (some 87) Uh).put (some 88) Ui).put (some 89) Uj).put (some 90) Uk).put (some 91) Ul).put (some 92) Um).put (some 93) Un).put (some 94) Uo).put (some 95) Up).put (some 96) Uq).put (some 97) Ur).put (some 98) Us).put (some 99) Ut).put (some 100) Uu).put (some 101) Uv).put (some 102) Uw).put (some 103) Ux).put (some 104) Uy).put (some 105) Uz).put (some 106) V0).put (some 107) V1) ∧ (0 ≤ v ∧ v ≤ 100) ∧ H9 w0 w' b g4 { J with le := v } ja jn jc ∧ Rg w' w'.heap.size ja J.sh) ?_ ?_
  rotate_left
  · rintro e_ a' w' ⟨rfl,Ug,Uh,Ui,Uj,Uk,Ul,Um,Un,Uo,Up,Uq,Ur,Us,Ut,Uu,Uv,Uw,Ux,Uy,Uz,V0,V1,v,rfl,hv,hs',hr'⟩
    simp only [Act.put,aT,aZ,aS]
    refine hK0 _ _ ?_
    exact rapart7 (J := { J with le := v }) HT.out ⟨HF.out.p,HF.out.t,HF.out.r,HF.out.u,HF.out.d,HF.out.x,HF.out.y,hv,HF.out.wi,HF.out.me,HF.out.len,HF.out.sh⟩ hs' HJ.out hr'
  have hS : H9 w0 w.drew b g4 J ja jn jc := HS.out.next (Below.refl _ _).drew
  have hR : Rg w.drew w.drew.heap.size ja J.sh := HR.out.up (Below.refl _ _).drew
  clear HS HR hK0
  refine wp_region_held_drew (S := (fun w' => w'.cell? ⟨g4,2,none⟩ = some (.int .i64 J.t1) ∧ w'.cell? ⟨g4,4,none⟩ = some (.int .i64 J.r1))) (by kernel_rfl) ⟨hS.job.at_ 2 (.int .i64 J.t1) rfl,hS.job.at_ 4 (.int .i64 J.r1) rfl⟩ (fun hS0 => ?_)
  clear hS0
  generalize w.drew = wd at hS hR ⊢
  have hSq := (show _ ∧ _ from ⟨hS.job.at_ 2 (.int .i64 J.t1) rfl,hS.job.at_ 4 (.int .i64 J.r1) rfl⟩)
  refine wpAnyH_take (i := 0) (v := ?_) rfl (by kernel_rfl) (by kernel_rfl) (by kernel_rfl) (fun _ _ _ h => by cases h.1) (.inl ⟨by rfl,?_⟩) (by assumption) ?_
  rotate_left
  · (intro w' hSw; (try dsimp only at hSw); skip; go_simp <;> with_reducible rfl)
  (try simp only [Act.put,aT,aZ,aS])
  refine wpAnyH_take (i := 1) (v := ?_) rfl (by kernel_rfl) (by kernel_rfl) (by kernel_rfl) (fun _ _ _ h => by cases h.1) (.inl ⟨by rfl,?_⟩) (by assumption) ?_
  rotate_left
  · (intro w' hSw; (try dsimp only at hSw); skip; go_simp <;> with_reducible rfl)
  (try simp only [Act.put,aT,aZ,aS])
  refine wpAnyH_take (i := 2) (v := ?_) rfl (by kernel_rfl) (by kernel_rfl) (by kernel_rfl) (fun _ _ _ h => by cases h.1) (.inl ⟨by rfl,?_⟩) (by assumption) ?_
  rotate_left
  · (intro w' hSw; (try dsimp only at hSw); skip; go_simp <;> with_reducible rfl)
  (try simp only [Act.put,aT,aZ,aS])
  refine wpAnyH_take (i := 4) (v := ?_) rfl (by kernel_rfl) (by kernel_rfl) (by kernel_rfl) (fun _ _ _ h => by cases h.1) (.inl ⟨by rfl,?_⟩) (by assumption) ?_
  rotate_left
  · (intro w' hSw; (try dsimp only at hSw); skip; go_simp <;> with_reducible rfl)
  (try simp only [Act.put,aT,aZ,aS])
  refine wpAnyH_take (i := 5) (v := ?_) rfl (by kernel_rfl) (by kernel_rfl) (by kernel_rfl) (fun _ _ _ h => by cases h.1) (.inl ⟨by rfl,?_⟩) (by assumption) ?_
  rotate_left
  · (intro w' hSw; (try dsimp only at hSw); skip; go_simp <;> with_reducible rfl)
  (try simp only [Act.put,aT,aZ,aS])
  refine wpAnyH_take (i := 6) (v := ?_) rfl (by kernel_rfl) (by kernel_rfl) (by kernel_rfl) (fun _ _ _ h => by cases h.1) (.inl ⟨by rfl,?_⟩) (by assumption) ?_
  rotate_left
  · (intro w' hSw; (try dsimp only at hSw); skip; go_simp <;> with_reducible rfl)
  (try simp only [Act.put,aT,aZ,aS])
  refine wpAnyH_take (i := 7) (v := ?_) rfl (by kernel_rfl) (by kernel_rfl) (by kernel_rfl) (fun _ _ _ h => by cases h.1) (.inl ⟨by rfl,?_⟩) (by assumption) ?_
  rotate_left
  · (intro w' hSw; (try dsimp only at hSw); (have q0 := hSw.1; have q1 := hSw.2); go_simp <;> with_reducible rfl)
  (try simp only [Act.put,aT,aZ,aS])
  refine wpAnyH_take (i := 8) (v := ?_) rfl (by kernel_rfl) (by kernel_rfl) (by kernel_rfl) (fun _ _ _ h => by cases h.1) (.inl ⟨by rfl,?_⟩) (by assumption) ?_
  rotate_left
  · (intro w' hSw; (try dsimp only at hSw); skip; go_simp <;> with_reducible rfl)
  (try simp only [Act.put,aT,aZ,aS])
  refine wpAnyH_take (i := 11) (v := ?_) rfl (by kernel_rfl) (by kernel_rfl) (by kernel_rfl) (fun _ _ _ h => by cases h.1) (.inl ⟨by rfl,?_⟩) (by assumption) ?_
  rotate_left
  · (intro w' hSw; (try dsimp only at hSw); skip; go_simp <;> with_reducible rfl)
  (try simp only [Act.put,aT,aZ,aS])
  refine wpAnyH_take (i := 12) (v := ?_) rfl (by kernel_rfl) (by kernel_rfl) (by kernel_rfl) (fun _ _ _ h => by cases h.1) (.inl ⟨by rfl,?_⟩) (by assumption) ?_
  rotate_left
  · (intro w' hSw; (try dsimp only at hSw); skip; go_simp <;> with_reducible rfl)
  (try simp only [Act.put,aT,aZ,aS])
  refine wpAnyH_take (i := 13) (v := ?_) rfl (by kernel_rfl) (by kernel_rfl) (by kernel_rfl) (fun _ _ _ h => by cases h.1) (.inl ⟨by rfl,?_⟩) (by assumption) ?_
  rotate_left
  · (intro w' hSw; (try dsimp only at hSw); skip; go_simp <;> with_reducible rfl)
  (try simp only [Act.put,aT,aZ,aS])
  refine wpAnyH_take (i := 14) (v := ?_) rfl (by kernel_rfl) (by kernel_rfl) (by kernel_rfl) (fun _ _ _ h => by cases h.1) (.inl ⟨by rfl,?_⟩) (by assumption) ?_
  rotate_left
  · (intro w' hSw; (try dsimp only at hSw); (have q0 := hSw.1; have q1 := hSw.2); go_simp <;> with_reducible rfl)
  (try simp only [Act.put,aT,aZ,aS])
  refine wpAnyH_take (i := 15) (v := ?_) rfl (by kernel_rfl) (by kernel_rfl) (by kernel_rfl) (fun _ _ _ h => by cases h.1) (.inl ⟨by rfl,?_⟩) (by assumption) ?_
  rotate_left
  · (intro w' hSw; (try dsimp only at hSw); skip; go_simp <;> with_reducible rfl)
  (try simp only [Act.put,aT,aZ,aS])
  refine wpAnyH_ready (rs := [3,9]) (by kernel_rfl) (by simp) ?_
  refine AllReadyH.cons rfl (fun K hK => ?_) ?_
  · have z := hS.job.at_ 14 (.int .i64 J.le) rfl
    go_simp
    refine hK.out _ _ hSq (fun _ => ?_)
    clear z
    clear hK K
    (try simp only [Act.put,aT,aZ,aS])
    refine wpAnyH_ready (rs := [9]) (by kernel_rfl) (by simp) ?_
    refine AllReadyH.cons rfl (fun K hK => ?_) ?_
    · go_simp
      go_at_call 22
      refine (uptoP b 6 _ hS.pt (by omega)).mono ?_
      rintro e' wUxa ⟨xa,rfl,hxa,hk,hp⟩
      have hS_ := hS.pot hk hp
      have hR_ := hR.pb hS.pt hk
      have wxa : IntKind.i64.wrap (J.t1 - xa) = J.t1 - xa := IntWalk.i64_in _ (by omega)
      clear hS hk hp hR
      have hS := hS_
      have hR := hR_
      clear hS_ hR_
      clear hSq
      have hSq := (show _ ∧ _ from ⟨hS.job.at_ 2 (.int .i64 J.t1) rfl,hS.job.at_ 4 (.int .i64 J.r1) rfl⟩)
      dsimp only
      go_wp2_with fail
      refine hK.out _ _ hSq (fun _ => ?_)
      clear hK K
      (try simp only [Act.put,aT,aZ,aS])
      refine wpAnyH_take (i := 10) (v := ?_) rfl (by kernel_rfl) (by kernel_rfl) (by kernel_rfl) (fun _ _ _ h => by cases h.1) (.inl ⟨by rfl,?_⟩) (by assumption) ?_
      rotate_left
      · (intro w' hSw; (try dsimp only at hSw); skip; go_simp <;> with_reducible rfl)
      (try simp only [Act.put,aT,aZ,aS])
      refine wpAnyH_ready (rs := [16]) (by kernel_rfl) (by simp) ?_
      refine AllReadyH.cons rfl (fun K hK => ?_) ?_
      · go_simp
        go_at_call 22
        refine (uptoP b 6 _ hS.pt (by omega)).mono ?_
        rintro e' wUxb ⟨xb,rfl,hxb,hk,hp⟩
        have hS_ := hS.pot hk hp
        have hR_ := hR.pb hS.pt hk
        have wxb : IntKind.i64.wrap (J.r1 - xb) = J.r1 - xb := IntWalk.i64_in _ (by omega)
        clear hS hk hp hR
        have hS := hS_
        have hR := hR_
        clear hS_ hR_
        clear hSq
        have hSq := (show _ ∧ _ from ⟨hS.job.at_ 2 (.int .i64 J.t1) rfl,hS.job.at_ 4 (.int .i64 J.r1) rfl⟩)
        dsimp only
        go_wp2_with fail
        refine hK.out _ _ hSq (fun _ => ?_)
        clear hK K
        (try simp only [Act.put,aT,aZ,aS])
        refine wpAnyH_take (i := 17) (v := ?_) rfl (by kernel_rfl) (by kernel_rfl) (by kernel_rfl) (fun _ _ _ h => by cases h.1) (.inl ⟨by rfl,?_⟩) (by assumption) ?_
        rotate_left
        · (intro w' hSw; (try dsimp only at hSw); skip; go_simp <;> with_reducible rfl)
        (try simp only [Act.put,aT,aZ,aS])
        refine wpAnyH_ready (rs := [18]) (by kernel_rfl) (by simp) ?_
        refine AllReadyH.cons rfl (fun K hK => ?_) ?_
        · have qa : Below wUxb.heap.size wUxb (wUxb.alloc (.cells #[.int .i64 J.le,.int .i64 (J.t1 - xa),.int .i64 (J.r1 - xb)] 3)) := (Below.refl _ _).alloc (Nat.le_refl _) _
          have hS_ := hS.next qa
          have hR_ := hR.up qa
          have hA : Bk (wUxb.alloc (.cells #[.int .i64 J.le,.int .i64 (J.t1 - xa),.int .i64 (J.r1 - xb)] 3)) wUxb.heap.size 3 #[.int .i64 J.le,.int .i64 (J.t1 - xa),.int .i64 (J.r1 - xb)] := Bk.new _ _ _
          have hAb : b ≠ wUxb.heap.size := by have := hS.pt.lt; omega
          clear hS hR qa
          have hS := hS_
          have hR := hR_
          clear hS_ hR_
          go_simp
          show K _ (wUxb.alloc (.cells #[.int .i64 J.le,.int .i64 (J.t1 - xa),.int .i64 (J.r1 - xb)] 3))
          clear hSq
          have hSq := (show _ ∧ _ from ⟨hS.job.at_ 2 (.int .i64 J.t1) rfl,hS.job.at_ 4 (.int .i64 J.r1) rfl⟩)
          refine hK.out _ _ hSq (fun _ => ?_)
          generalize wUxb.heap.size = gA at hA hAb ⊢
          generalize (wUxb.alloc (.cells #[.int .i64 J.le,.int .i64 (J.t1 - xa),.int .i64 (J.r1 - xb)] 3)) = wz at hA hS hR hSq ⊢
          clear hK K
          (try simp only [Act.put,aT,aZ,aS])
          refine wpAnyH_ready (rs := [19]) (by kernel_rfl) (by simp) ?_
          refine AllReadyH.cons rfl (fun K hK => ?_) ?_
          · go_simp
            go_at_call 21
            refine (of3P b gA J.le (J.t1 - xa) (J.r1 - xb) 3 _ hS.pt hAb hA).mono ?_
            rintro e' wO ⟨v,rfl,hv,hk,hp⟩
            have hS_ := hS.pot hk hp
            have hR_ := hR.pb hS.pt hk
            clear hS hk hp hR hA hAb
            have hS := hS_
            have hR := hR_
            clear hS_ hR_
            clear hSq
            have hSq := (show _ ∧ _ from ⟨hS.job.at_ 2 (.int .i64 J.t1) rfl,hS.job.at_ 4 (.int .i64 J.r1) rfl⟩)
            dsimp only
            go_wp2_with fail
            refine hK.out _ _ hSq (fun _ => ?_)
            clear hK K
            (try simp only [Act.put,aT,aZ,aS])
            refine wpAnyH_take (i := 20) (v := ?_) rfl (by kernel_rfl) (by kernel_rfl) (by kernel_rfl) (fun _ _ _ h => by cases h.1) (.inl ⟨by rfl,?_⟩) (by assumption) ?_
            rotate_left
            · (intro w' hSw; (try dsimp only at hSw); skip; go_simp <;> with_reducible rfl)
            (try simp only [Act.put,aT,aZ,aS])
            refine wpAnyH_take (i := 21) (v := ?_) rfl (by kernel_rfl) (by kernel_rfl) (by kernel_rfl) (fun _ _ _ h => by cases h.1) (.inl ⟨by rfl,?_⟩) (by assumption) ?_
            rotate_left
            · (intro w' hSw; (try dsimp only at hSw); skip; go_simp <;> with_reducible rfl)
            (try simp only [Act.put,aT,aZ,aS])
            refine wpAnyH_ready (rs := [22]) (by kernel_rfl) (by simp) ?_
            refine AllReadyH.cons rfl (fun K hK => ?_) ?_
            · have z := hS.job.at_ 14 (.int .i64 J.le) rfl
              have fz := hS.job.free 14
              go_simp
              have hS_ : H9 w0 (wO.setCell ⟨g4,14,none⟩ (.int .i64 v)) b g4 { J with le := v } ja jn jc := hS.put 14 (.int .i64 v) rfl
              have hR_ : Rg (wO.setCell ⟨g4,14,none⟩ (.int .i64 v)) (wO.setCell ⟨g4,14,none⟩ (.int .i64 v)).heap.size ja J.sh := by
                have hs1 : (wO.setCell ⟨g4,14,none⟩ (.int .i64 v)).heap.size = wO.heap.size := by simp
                rw [hs1]
                exact HOF.out wO hR 14 (.int .i64 v)
              refine hK.out _ _ ⟨hS_.job.at_ 2 (.int .i64 J.t1) rfl,hS_.job.at_ 4 (.int .i64 J.r1) rfl⟩ (fun _ => ?_)
              clear z fz hS hR
              clear hK K
              (try simp only [Act.put,aT,aZ,aS])
              refine wpAnyH_done (by kernel_rfl) ?_ _
              exact ⟨rfl,_,_,_,_,_,_,_,_,_,_,_,_,_,_,_,_,_,_,_,_,_,_,v,rfl,by omega,hS_,hR_⟩
            exact AllReadyH.nil
          exact AllReadyH.nil
        exact AllReadyH.nil
      exact AllReadyH.nil
    exact AllReadyH.nil
  refine AllReadyH.cons rfl (fun K hK => ?_) ?_
  · go_simp
    go_at_call 22
    refine (uptoP b 6 _ hS.pt (by omega)).mono ?_
    rintro e' wUxa ⟨xa,rfl,hxa,hk,hp⟩
    have hS_ := hS.pot hk hp
    have hR_ := hR.pb hS.pt hk
    have wxa : IntKind.i64.wrap (J.t1 - xa) = J.t1 - xa := IntWalk.i64_in _ (by omega)
    clear hS hk hp hR
    have hS := hS_
    have hR := hR_
    clear hS_ hR_
    clear hSq
    have hSq := (show _ ∧ _ from ⟨hS.job.at_ 2 (.int .i64 J.t1) rfl,hS.job.at_ 4 (.int .i64 J.r1) rfl⟩)
    dsimp only
    go_wp2_with fail
    refine hK.out _ _ hSq (fun _ => ?_)
    clear hK K
    (try simp only [Act.put,aT,aZ,aS])
    refine wpAnyH_take (i := 10) (v := ?_) rfl (by kernel_rfl) (by kernel_rfl) (by kernel_rfl) (fun _ _ _ h => by cases h.1) (.inl ⟨by rfl,?_⟩) (by assumption) ?_
    rotate_left
    · (intro w' hSw; (try dsimp only at hSw); skip; go_simp <;> with_reducible rfl)
    (try simp only [Act.put,aT,aZ,aS])
    refine wpAnyH_ready (rs := [3,16]) (by kernel_rfl) (by simp) ?_
    refine AllReadyH.cons rfl (fun K hK => ?_) ?_
    · have z := hS.job.at_ 14 (.int .i64 J.le) rfl
      go_simp
      refine hK.out _ _ hSq (fun _ => ?_)
      clear z
      clear hK K
      (try simp only [Act.put,aT,aZ,aS])
      refine wpAnyH_ready (rs := [16]) (by kernel_rfl) (by simp) ?_
      refine AllReadyH.cons rfl (fun K hK => ?_) ?_
      · go_simp
        go_at_call 22
        refine (uptoP b 6 _ hS.pt (by omega)).mono ?_
        rintro e' wUxb ⟨xb,rfl,hxb,hk,hp⟩
        have hS_ := hS.pot hk hp
        have hR_ := hR.pb hS.pt hk
        have wxb : IntKind.i64.wrap (J.r1 - xb) = J.r1 - xb := IntWalk.i64_in _ (by omega)
        clear hS hk hp hR
        have hS := hS_
        have hR := hR_
        clear hS_ hR_
        clear hSq
        have hSq := (show _ ∧ _ from ⟨hS.job.at_ 2 (.int .i64 J.t1) rfl,hS.job.at_ 4 (.int .i64 J.r1) rfl⟩)
        dsimp only
        go_wp2_with fail
        refine hK.out _ _ hSq (fun _ => ?_)
        clear hK K
        (try simp only [Act.put,aT,aZ,aS])
        refine wpAnyH_take (i := 17) (v := ?_) rfl (by kernel_rfl) (by kernel_rfl) (by kernel_rfl) (fun _ _ _ h => by cases h.1) (.inl ⟨by rfl,?_⟩) (by assumption) ?_
        rotate_left
        · (intro w' hSw; (try dsimp only at hSw); skip; go_simp <;> with_reducible rfl)
        (try simp only [Act.put,aT,aZ,aS])
        refine wpAnyH_ready (rs := [18]) (by kernel_rfl) (by simp) ?_
        refine AllReadyH.cons rfl (fun K hK => ?_) ?_
        · have qa : Below wUxb.heap.size wUxb (wUxb.alloc (.cells #[.int .i64 J.le,.int .i64 (J.t1 - xa),.int .i64 (J.r1 - xb)] 3)) := (Below.refl _ _).alloc (Nat.le_refl _) _
          have hS_ := hS.next qa
          have hR_ := hR.up qa
          have hA : Bk (wUxb.alloc (.cells #[.int .i64 J.le,.int .i64 (J.t1 - xa),.int .i64 (J.r1 - xb)] 3)) wUxb.heap.size 3 #[.int .i64 J.le,.int .i64 (J.t1 - xa),.int .i64 (J.r1 - xb)] := Bk.new _ _ _
          have hAb : b ≠ wUxb.heap.size := by have := hS.pt.lt; omega
          clear hS hR qa
          have hS := hS_
          have hR := hR_
          clear hS_ hR_
          go_simp
          show K _ (wUxb.alloc (.cells #[.int .i64 J.le,.int .i64 (J.t1 - xa),.int .i64 (J.r1 - xb)] 3))
          clear hSq
          have hSq := (show _ ∧ _ from ⟨hS.job.at_ 2 (.int .i64 J.t1) rfl,hS.job.at_ 4 (.int .i64 J.r1) rfl⟩)
          refine hK.out _ _ hSq (fun _ => ?_)
          generalize wUxb.heap.size = gA at hA hAb ⊢
          generalize (wUxb.alloc (.cells #[.int .i64 J.le,.int .i64 (J.t1 - xa),.int .i64 (J.r1 - xb)] 3)) = wz at hA hS hR hSq ⊢
          clear hK K
          (try simp only [Act.put,aT,aZ,aS])
          refine wpAnyH_ready (rs := [19]) (by kernel_rfl) (by simp) ?_
          refine AllReadyH.cons rfl (fun K hK => ?_) ?_
          · go_simp
            go_at_call 21
            refine (of3P b gA J.le (J.t1 - xa) (J.r1 - xb) 3 _ hS.pt hAb hA).mono ?_
            rintro e' wO ⟨v,rfl,hv,hk,hp⟩
            have hS_ := hS.pot hk hp
            have hR_ := hR.pb hS.pt hk
            clear hS hk hp hR hA hAb
            have hS := hS_
            have hR := hR_
            clear hS_ hR_
            clear hSq
            have hSq := (show _ ∧ _ from ⟨hS.job.at_ 2 (.int .i64 J.t1) rfl,hS.job.at_ 4 (.int .i64 J.r1) rfl⟩)
            dsimp only
            go_wp2_with fail
            refine hK.out _ _ hSq (fun _ => ?_)
            clear hK K
            (try simp only [Act.put,aT,aZ,aS])
            refine wpAnyH_take (i := 20) (v := ?_) rfl (by kernel_rfl) (by kernel_rfl) (by kernel_rfl) (fun _ _ _ h => by cases h.1) (.inl ⟨by rfl,?_⟩) (by assumption) ?_
            rotate_left
            · (intro w' hSw; (try dsimp only at hSw); skip; go_simp <;> with_reducible rfl)
            (try simp only [Act.put,aT,aZ,aS])
            refine wpAnyH_take (i := 21) (v := ?_) rfl (by kernel_rfl) (by kernel_rfl) (by kernel_rfl) (fun _ _ _ h => by cases h.1) (.inl ⟨by rfl,?_⟩) (by assumption) ?_
            rotate_left
            · (intro w' hSw; (try dsimp only at hSw); skip; go_simp <;> with_reducible rfl)
            (try simp only [Act.put,aT,aZ,aS])
            refine wpAnyH_ready (rs := [22]) (by kernel_rfl) (by simp) ?_
            refine AllReadyH.cons rfl (fun K hK => ?_) ?_
            · have z := hS.job.at_ 14 (.int .i64 J.le) rfl
              have fz := hS.job.free 14
              go_simp
              have hS_ : H9 w0 (wO.setCell ⟨g4,14,none⟩ (.int .i64 v)) b g4 { J with le := v } ja jn jc := hS.put 14 (.int .i64 v) rfl
              have hR_ : Rg (wO.setCell ⟨g4,14,none⟩ (.int .i64 v)) (wO.setCell ⟨g4,14,none⟩ (.int .i64 v)).heap.size ja J.sh := by
                have hs1 : (wO.setCell ⟨g4,14,none⟩ (.int .i64 v)).heap.size = wO.heap.size := by simp
                rw [hs1]
                exact HOF.out wO hR 14 (.int .i64 v)
              refine hK.out _ _ ⟨hS_.job.at_ 2 (.int .i64 J.t1) rfl,hS_.job.at_ 4 (.int .i64 J.r1) rfl⟩ (fun _ => ?_)
              clear z fz hS hR
              clear hK K
              (try simp only [Act.put,aT,aZ,aS])
              refine wpAnyH_done (by kernel_rfl) ?_ _
              exact ⟨rfl,_,_,_,_,_,_,_,_,_,_,_,_,_,_,_,_,_,_,_,_,_,_,v,rfl,by omega,hS_,hR_⟩
            exact AllReadyH.nil
          exact AllReadyH.nil
        exact AllReadyH.nil
      exact AllReadyH.nil
    refine AllReadyH.cons rfl (fun K hK => ?_) ?_
    · go_simp
      go_at_call 22
      refine (uptoP b 6 _ hS.pt (by omega)).mono ?_
      rintro e' wUxb ⟨xb,rfl,hxb,hk,hp⟩
      have hS_ := hS.pot hk hp
      have hR_ := hR.pb hS.pt hk
      have wxb : IntKind.i64.wrap (J.r1 - xb) = J.r1 - xb := IntWalk.i64_in _ (by omega)
      clear hS hk hp hR
      have hS := hS_
      have hR := hR_
      clear hS_ hR_
      clear hSq
      have hSq := (show _ ∧ _ from ⟨hS.job.at_ 2 (.int .i64 J.t1) rfl,hS.job.at_ 4 (.int .i64 J.r1) rfl⟩)
      dsimp only
      go_wp2_with fail
      refine hK.out _ _ hSq (fun _ => ?_)
      clear hK K
      (try simp only [Act.put,aT,aZ,aS])
      refine wpAnyH_take (i := 17) (v := ?_) rfl (by kernel_rfl) (by kernel_rfl) (by kernel_rfl) (fun _ _ _ h => by cases h.1) (.inl ⟨by rfl,?_⟩) (by assumption) ?_
      rotate_left
      · (intro w' hSw; (try dsimp only at hSw); skip; go_simp <;> with_reducible rfl)
      (try simp only [Act.put,aT,aZ,aS])
      refine wpAnyH_ready (rs := [3]) (by kernel_rfl) (by simp) ?_
      refine AllReadyH.cons rfl (fun K hK => ?_) ?_
      · have z := hS.job.at_ 14 (.int .i64 J.le) rfl
        go_simp
        refine hK.out _ _ hSq (fun _ => ?_)
        clear z
        clear hK K
        (try simp only [Act.put,aT,aZ,aS])
        refine wpAnyH_ready (rs := [18]) (by kernel_rfl) (by simp) ?_
        refine AllReadyH.cons rfl (fun K hK => ?_) ?_
        · have qa : Below wUxb.heap.size wUxb (wUxb.alloc (.cells #[.int .i64 J.le,.int .i64 (J.t1 - xa),.int .i64 (J.r1 - xb)] 3)) := (Below.refl _ _).alloc (Nat.le_refl _) _
          have hS_ := hS.next qa
          have hR_ := hR.up qa
          have hA : Bk (wUxb.alloc (.cells #[.int .i64 J.le,.int .i64 (J.t1 - xa),.int .i64 (J.r1 - xb)] 3)) wUxb.heap.size 3 #[.int .i64 J.le,.int .i64 (J.t1 - xa),.int .i64 (J.r1 - xb)] := Bk.new _ _ _
          have hAb : b ≠ wUxb.heap.size := by have := hS.pt.lt; omega
          clear hS hR qa
          have hS := hS_
          have hR := hR_
          clear hS_ hR_
          go_simp
          show K _ (wUxb.alloc (.cells #[.int .i64 J.le,.int .i64 (J.t1 - xa),.int .i64 (J.r1 - xb)] 3))
          clear hSq
          have hSq := (show _ ∧ _ from ⟨hS.job.at_ 2 (.int .i64 J.t1) rfl,hS.job.at_ 4 (.int .i64 J.r1) rfl⟩)
          refine hK.out _ _ hSq (fun _ => ?_)
          generalize wUxb.heap.size = gA at hA hAb ⊢
          generalize (wUxb.alloc (.cells #[.int .i64 J.le,.int .i64 (J.t1 - xa),.int .i64 (J.r1 - xb)] 3)) = wz at hA hS hR hSq ⊢
          clear hK K
          (try simp only [Act.put,aT,aZ,aS])
          refine wpAnyH_ready (rs := [19]) (by kernel_rfl) (by simp) ?_
          refine AllReadyH.cons rfl (fun K hK => ?_) ?_
          · go_simp
            go_at_call 21
            refine (of3P b gA J.le (J.t1 - xa) (J.r1 - xb) 3 _ hS.pt hAb hA).mono ?_
            rintro e' wO ⟨v,rfl,hv,hk,hp⟩
            have hS_ := hS.pot hk hp
            have hR_ := hR.pb hS.pt hk
            clear hS hk hp hR hA hAb
            have hS := hS_
            have hR := hR_
            clear hS_ hR_
            clear hSq
            have hSq := (show _ ∧ _ from ⟨hS.job.at_ 2 (.int .i64 J.t1) rfl,hS.job.at_ 4 (.int .i64 J.r1) rfl⟩)
            dsimp only
            go_wp2_with fail
            refine hK.out _ _ hSq (fun _ => ?_)
            clear hK K
            (try simp only [Act.put,aT,aZ,aS])
            refine wpAnyH_take (i := 20) (v := ?_) rfl (by kernel_rfl) (by kernel_rfl) (by kernel_rfl) (fun _ _ _ h => by cases h.1) (.inl ⟨by rfl,?_⟩) (by assumption) ?_
            rotate_left
            · (intro w' hSw; (try dsimp only at hSw); skip; go_simp <;> with_reducible rfl)
            (try simp only [Act.put,aT,aZ,aS])
            refine wpAnyH_take (i := 21) (v := ?_) rfl (by kernel_rfl) (by kernel_rfl) (by kernel_rfl) (fun _ _ _ h => by cases h.1) (.inl ⟨by rfl,?_⟩) (by assumption) ?_
            rotate_left
            · (intro w' hSw; (try dsimp only at hSw); skip; go_simp <;> with_reducible rfl)
            (try simp only [Act.put,aT,aZ,aS])
            refine wpAnyH_ready (rs := [22]) (by kernel_rfl) (by simp) ?_
            refine AllReadyH.cons rfl (fun K hK => ?_) ?_
            · have z := hS.job.at_ 14 (.int .i64 J.le) rfl
              have fz := hS.job.free 14
              go_simp
              have hS_ : H9 w0 (wO.setCell ⟨g4,14,none⟩ (.int .i64 v)) b g4 { J with le := v } ja jn jc := hS.put 14 (.int .i64 v) rfl
              have hR_ : Rg (wO.setCell ⟨g4,14,none⟩ (.int .i64 v)) (wO.setCell ⟨g4,14,none⟩ (.int .i64 v)).heap.size ja J.sh := by
                have hs1 : (wO.setCell ⟨g4,14,none⟩ (.int .i64 v)).heap.size = wO.heap.size := by simp
                rw [hs1]
                exact HOF.out wO hR 14 (.int .i64 v)
              refine hK.out _ _ ⟨hS_.job.at_ 2 (.int .i64 J.t1) rfl,hS_.job.at_ 4 (.int .i64 J.r1) rfl⟩ (fun _ => ?_)
              clear z fz hS hR
              clear hK K
              (try simp only [Act.put,aT,aZ,aS])
              refine wpAnyH_done (by kernel_rfl) ?_ _
              exact ⟨rfl,_,_,_,_,_,_,_,_,_,_,_,_,_,_,_,_,_,_,_,_,_,_,v,rfl,by omega,hS_,hR_⟩
            exact AllReadyH.nil
          exact AllReadyH.nil
        exact AllReadyH.nil
      exact AllReadyH.nil
    exact AllReadyH.nil
  exact AllReadyH.nil
set_option maxHeartbeats 4000000 in
set_option maxRecDepth 1000000 in
theorem rapart5 {w0 w : World} {b g4 : Nat} {J : Jb} {ja : Option Addr} {jn jc : Nat} {u0 u1 u2 u5 u6 u7 u8 u9 A0 A1 A2 A3 A4 A5 A6 A7 A8 A9 Aa Ab Ac Ad Ae Af Ag Ah Ai Aj Ak Al Am An Ao Ap Aq Ar As At Au Av Aw Ax Ay Az C0 C1 C2 C3 C4 C5 C6 C7 C8 C9 Ca Cb Cc Cd Ce Cf Cg Ch Ci Cj Ck Cl Cm Cn Co Cp Cq Cr Cs Ct Cu Cv Cw Cx Cy Cz D0 D1 D2 D3 D4 D5 D6 D7 D8 D9 Da Db Dc Dd De Df Dg Dh Di Dj Dk Dl Dm Dn Do Dp Dq Dr Ds Dt Du Dv Dw Dx Dy Dz E0 E1 E2 E3 E4 E5 E6 E7 E8 E9 Ea Eb Ec Ed Ee Ef Eg Eh Ei Ej Ek El Em En Eo Ep Eq Er Es Et Eu Ev Ew Ex Ey Ez F0 F1 F2 F3 F4 F5 F6 F7 F8 F9 Fa Fb Fc Fd Fe Ff Fg Fh Fi Fj Fk Fl Fm Fn Fo Fp Fq Fr Fs Ft Fu Fv Fw Fx Fy Fz L0 L1 L2 L3 L4 L5 L6 L7 L8 L9 La Lb Lc Ld Le Lf Lg Lh Li Lj Lk Ll Lm Ln Lo Lp Lq Lr Ls Lt Lu Lv Lw Lx Ly Lz M0 M1 M2 M3 M4 M5 M6 M7 M8 M9 Ma Mb Mc Md Me Mf Mg Mh Mi Mj Mk Ml Mm Mn Mo Mp : Value} (htun : TunOK) (hF : J.Full) (hs : H9 w0 w b g4 J ja jn jc) (hjn : jn = J.sh.length ∧ jn ≤ 2) (hrg : Rg w w.heap.size ja J.sh) (h18 : 18 ≤ J.t1 ∧ 18 ≤ J.r1) (hoff : ∀ (w1 : World),Rg w1 w1.heap.size ja J.sh → ∀ (i : Nat) (v : Value),Rg (w1.setCell ⟨g4,i,none⟩ v) w1.heap.size ja J.sh) : Code.wp Try.prog rarest5 (QRA w0) ⟨#[u0,u1,u2,(.pointer (some ⟨b,0,none⟩)),(.pointer (some ⟨g4,0,none⟩)),u5,u6,u7,u8,u9,A0,A1,A2,A3,A4,A5,A6,A7,A8,A9,Aa,Ab,Ac,Ad,Ae,Af,Ag,Ah,Ai,Aj,Ak,Al,Am,An,Ao,Ap,Aq,Ar,As,At,Au,Av,Aw,Ax,Ay,Az,C0,C1,C2,C3,C4,C5,C6,C7,C8,C9,Ca,Cb,Cc,Cd,Ce,Cf,Cg,Ch,Ci,Cj,Ck,Cl,Cm,Cn,Co,Cp,Cq,Cr,Cs,Ct,Cu,Cv,Cw,Cx,Cy,Cz,D0,D1,D2,D3,D4,D5,D6,D7,D8,D9,Da,Db,Dc,Dd,De,Df,Dg,Dh,Di,Dj,Dk,Dl,Dm,Dn,Do,Dp,Dq,Dr,Ds,Dt,Du,Dv,Dw,Dx,Dy,Dz,E0,E1,E2,E3,E4,E5,E6,E7,E8,E9,Ea,Eb,Ec,Ed,Ee,Ef,Eg,Eh,Ei,Ej,Ek,El,Em,En,Eo,Ep,Eq,Er,Es,Et,Eu,Ev,Ew,Ex,Ey,Ez,F0,F1,F2,F3,F4,F5,F6,F7,F8,F9,Fa,Fb,Fc,Fd,Fe,Ff,Fg,Fh,Fi,Fj,Fk,Fl,Fm,Fn,Fo,Fp,Fq,Fr,Fs,Ft,Fu,Fv,Fw,Fx,Fy,Fz,L0,L1,L2,L3,L4,L5,L6,L7,L8,L9,La,Lb,Lc,Ld,Le,Lf,Lg,Lh,Li,Lj,Lk,Ll,Lm,Ln,Lo,Lp,Lq,Lr,Ls,Lt,Lu,Lv,Lw,Lx,Ly,Lz,M0,M1,M2,M3,M4,M5,M6,M7,M8,M9,Ma,Mb,Mc,Md,Me,Mf,Mg,Mh,Mi,Mj,Mk,Ml,Mm,Mn,Mo,Mp],[]⟩ w := by
  rw [rarest5_eq]
  have HT := hidMk htun
  have HF := hidMk hF
  have HS := hidMk hs
  clear htun hF hs
  have HJ := hidMk hjn
  have HR := hidMk hrg
  have HOF := hidMk hoff
  have H18 := hidMk h18
  have hF := HF.out
  have ht := hF.t
  have hr := hF.r
  have c2 := HS.out.job.at_ 2 (.int .i64 J.t1) rfl
  have c3 := HS.out.job.at_ 3 (.int .i64 J.t2) rfl
  have c4 := HS.out.job.at_ 4 (.int .i64 J.r1) rfl
  have c5 := HS.out.job.at_ 5 (.int .i64 J.r2) rfl
  have f3 := HS.out.job.free 3
  have f5 := HS.out.job.free 5
  obtain ⟨mt,hmt⟩ : ∃ m,min J.t2 (J.t1 + 1) = m := ⟨_,rfl⟩
  obtain ⟨mr,hmr⟩ : ∃ m,min J.r2 (J.r1 + 1) = m := ⟨_,rfl⟩
  have w1 : IntKind.i64.wrap (J.t1 + 1) = J.t1 + 1 := IntWalk.i64_in _ (by omega)
  have w2 : IntKind.i64.wrap (J.r1 + 1) = J.r1 + 1 := IntWalk.i64_in _ (by omega)
  have hb1 : J.t1 ≤ mt ∧ mt ≤ 100 := by rw [← hmt]; omega
  have hb2 : J.r1 ≤ mr ∧ mr ≤ 100 := by rw [← hmr]; omega
  have HB1 := hidMk hb1
  have HB2 := hidMk hb2
  clear hjn hrg hoff h18 hF ht hr hb1 hb2
  go_wp2_with fail
  have k1 := (HS.out.put (J' := { J with t2 := mt }) 3 (.int .i64 mt) rfl).put (J' := { J with t2 := mt,r2 := mr }) 5 (.int .i64 mr) rfl
  have r1 : Rg ((w.setCell ⟨g4,3,none⟩ (.int .i64 mt)).setCell ⟨g4,5,none⟩ (.int .i64 mr)) ((w.setCell ⟨g4,3,none⟩ (.int .i64 mt)).setCell ⟨g4,5,none⟩ (.int .i64 mr)).heap.size ja J.sh := by
    have s1 : (w.setCell ⟨g4,3,none⟩ (.int .i64 mt)).heap.size = w.heap.size := by simp
    have s2 : ((w.setCell ⟨g4,3,none⟩ (.int .i64 mt)).setCell ⟨g4,5,none⟩ (.int .i64 mr)).heap.size = w.heap.size := by simp
    have h1 := HOF.out w HR.out 3 (.int .i64 mt)
    have h2 := HOF.out (w.setCell ⟨g4,3,none⟩ (.int .i64 mt)) (by rw [s1]; exact h1) 5 (.int .i64 mr)
    rw [s2]
    rw [s1] at h2
    exact h2
  exact rapart6 (J := { J with t2 := mt,r2 := mr }) HT.out ⟨HF.out.p,⟨HF.out.t.1,HB1.out.1,HB1.out.2⟩,⟨HF.out.r.1,HB2.out.1,HB2.out.2⟩,HF.out.u,HF.out.d,HF.out.x,HF.out.y,HF.out.le,HF.out.wi,HF.out.me,HF.out.len,HF.out.sh⟩ k1 HJ.out r1 H18.out HOF.out
end Go.Proofs.Ytolabejbhaeddaa
