/- Part 10 of the proof: AlJ. -/
import Derived.Great.Walk
import Derived.Deep.WholeRow
import Derived.Deep.MidRow
import Derived.Test.YtolabejbhaeddaaW09
/- The law ReedAll: all with strokes. -/
namespace Go.Proofs.Ytolabejbhaeddaa
set_option linter.all false
open Go.RowKit Go.Great

theorem Is.tail {w : World} {B q o : Nat} {s : Int} {l : List Int} {A : Option Addr} (h : Is w B (some ⟨q,o,none⟩) (s :: l)) (hA : l ≠ [] → A = some ⟨q,o + 1,none⟩) : Is w B A l := fun k n hk => by
  obtain ⟨q',o',e,hb,h1⟩ := h (k + 1) n (by simpa using hk)
  cases e
  refine ⟨q,o + 1,hA (fun e => by rw [e] at hk; simp at hk),hb,?_⟩
  rw [show o + 1 + k = o + (k + 1) from by omega]
  exact h1
set_option maxHeartbeats 9000000 in
set_option maxRecDepth 1000000 in
theorem alr24 {w0 w : World} {bx g6 g7 : Nat} {J : Jb} {sa : Option Addr} {sn sc : Nat} {t : Fd} {q o ln lc : Nat} {s : Int} {l : List Int} {aa : Option Addr} {an ac : Nat} {acc : List Int} {e : En} {g16 : Nat} {x : Fd} {Q : Exit → Act → World → Prop} {u1 u2 u5 u7 u8 u9 A0 A1 A2 A3 A4 A5 A7 A8 A9 Aa Ab Ac Ad Ae Af Ag Ah Ai Aj Ak Al Am An Ao Ap Aq Ar As At Au Av Aw Ax Ay Az C0 C1 C2 C3 C4 C5 C6 C7 C8 C9 Ca Cb Cc Cd Ce Cf Cg Ch Ci Cj Ck Cl Cm Cn Co Cp Cq Cr Cs Ct Cu Cv Cw Cx Cy Cz D0 D1 D2 D3 D4 D5 D6 D7 D8 D9 Da Db Dc Dd De Df Dg Dh Di Dj Dk Dl Dm Dn Do Dp Dq Dr Ds Dt Du Dv Dw Dx Dy Dz E0 E1 E2 E3 E4 E5 E6 E7 E8 E9 : Value} (hs : AT w0 w bx g6 g7 J sa sn sc t (some ⟨q,o,none⟩) (s :: l) aa acc) (hE : Bk w bx 54 (enC e)) (ho : e.Ok) (h16 : Bk w g16 57 #[.int .i64 x.p,.int .i64 x.t,.int .i64 x.r]) (hne16 : g16 ≠ bx) (hln : ln = l.length + 1 ∧ ln ≤ lc) (hll : 0 ≤ lc) (hrec : ALLc J sa sn sc l acc) (hcap : e.truths + ((allT J l x acc).length : Int) ≤ capN) (htb : TB l.length x) (han : an = acc.length) (hK : ∀ (w' : World),PB bx w.heap.size w w' → Bk w' bx 54 (enC (e.notes J (allT J l x acc))) → ∀ (Vf Vg Vh Vi Vj Vk Vl : Value),Q .normal ⟨#[(.pointer (some ⟨bx,0,none⟩)),u1,u2,(.slice (some ⟨q,o,none⟩) ln lc),(.slice aa an ac),u5,(.pointer (some ⟨g6,0,none⟩)),u7,u8,u9,A0,A1,A2,A3,A4,A5,(.pointer (some ⟨g16,0,none⟩)),A7,A8,A9,Aa,Ab,Ac,Ad,Ae,Af,Ag,Ah,Ai,Aj,Ak,Al,Am,An,Ao,Ap,Aq,Ar,As,At,Au,Av,Aw,Ax,Ay,Az,C0,C1,C2,C3,C4,C5,C6,C7,C8,C9,Ca,Cb,Cc,Cd,Ce,Cf,Cg,Ch,Ci,Cj,Ck,Cl,Cm,Cn,Co,Cp,Cq,Cr,Cs,Ct,Cu,Cv,Cw,Cx,Cy,Cz,D0,D1,D2,D3,D4,D5,D6,D7,D8,D9,Da,Db,Dc,Dd,De,Df,Dg,Dh,Di,Dj,Dk,Dl,Dm,Dn,Do,Dp,Dq,Dr,Ds,Dt,Du,Dv,Dw,Dx,Dy,Dz,E0,E1,E2,Vf,Vg,Vh,Vi,Vj,Vk,Vl],[]⟩ w') : Code.wp Try.prog (Code.region 24 #[⟨some 121,.move (.tmp 0),100,"outright.go:199",#[],none⟩,⟨some 122,.load 30 (.tmp 6),30,"outright.go:199",#[],none⟩,⟨some 123,.load 57 (.tmp 16),57,"outright.go:199",#[],none⟩,⟨some 124,.move (.tmp 3),31,"outright.go:199",#[],none⟩,⟨some 125,.slice 31 (.tmp 124) (some (.const (.int .i64 1))) none none,31,"outright.go:199",#[⟨3,.data⟩],none⟩,⟨some 126,.move (.tmp 4),31,"outright.go:199",#[],none⟩,⟨some 127,.call { callee := .value (.func 24),args := #[.tmp 121,.tmp 122,.tmp 123,.tmp 125,.tmp 126],argTypes := #[100,30,57,31,31] },0,"outright.go:199",#[⟨0,.data⟩,⟨1,.data⟩,⟨2,.data⟩,⟨4,.data⟩,⟨5,.data⟩],none⟩] true) Q ⟨#[(.pointer (some ⟨bx,0,none⟩)),u1,u2,(.slice (some ⟨q,o,none⟩) ln lc),(.slice aa an ac),u5,(.pointer (some ⟨g6,0,none⟩)),u7,u8,u9,A0,A1,A2,A3,A4,A5,(.pointer (some ⟨g16,0,none⟩)),A7,A8,A9,Aa,Ab,Ac,Ad,Ae,Af,Ag,Ah,Ai,Aj,Ak,Al,Am,An,Ao,Ap,Aq,Ar,As,At,Au,Av,Aw,Ax,Ay,Az,C0,C1,C2,C3,C4,C5,C6,C7,C8,C9,Ca,Cb,Cc,Cd,Ce,Cf,Cg,Ch,Ci,Cj,Ck,Cl,Cm,Cn,Co,Cp,Cq,Cr,Cs,Ct,Cu,Cv,Cw,Cx,Cy,Cz,D0,D1,D2,D3,D4,D5,D6,D7,D8,D9,Da,Db,Dc,Dd,De,Df,Dg,Dh,Di,Dj,Dk,Dl,Dm,Dn,Do,Dp,Dq,Dr,Ds,Dt,Du,Dv,Dw,Dx,Dy,Dz,E0,E1,E2,E3,E4,E5,E6,E7,E8,E9],[]⟩ w := by
  obtain ⟨A,hd⟩ : ∃ A,(if lc = 1 then some (⟨q,o,none⟩ : Addr) else some ⟨q,o + 1,none⟩) = A := ⟨_,rfl⟩
  have HD := hidMk hd
  have hA : l ≠ [] → A = some ⟨q,o + 1,none⟩ := fun h => by
    have := List.length_pos_iff.2 h
    rw [← hd,if_neg (by omega)]
  have hao : l ≠ [] → Off A bx := fun h q' o' z e2 => by
    rw [hA h] at e2
    cases e2
    exact hs.off.2.1 (by simp) _ o none rfl
  have HA := hidMk hA
  have HAO := hidMk hao
  have HS := hidMk hs
  have HREC := hidMk hrec
  have HO := hidMk ho
  have HCAP := hidMk hcap
  have HTB := hidMk htb
  have HAN := hidMk han
  have HLN := hidMk hln
  have H16 := hidMk h16
  have i1 : (1 : Int) ≤ (ln : Int) := by omega
  have i2 : (ln : Int) ≤ (lc : Int) := by omega
  have i3 : 1 ≤ ln := by omega
  have i4 : ln ≤ lc := by omega
  clear hs hrec ho hcap htb han hln h16 hd hA hao
  refine region_via (R := fun a_ e_ a' w' => e_ = .normal ∧ ∃ (Vf Vg Vh Vi Vj Vk Vl : Value),a' = (((((((a_.put (some 121) Vf).put (some 122) Vg).put (some 123) Vh).put (some 124) Vi).put (some 125) Vj).put (some 126) Vk).put (some 127) Vl) ∧ PB bx w.heap.size w w' ∧ Bk w' bx 54 (enC (e.notes J (allT J l x acc)))) ?_ ?_
  rotate_left
  · rintro e_ a' w' ⟨rfl,Vf,Vg,Vh,Vi,Vj,Vk,Vl,rfl,hs',he'⟩
    simp only [Act.put,aT,aZ,aS]
    exact hK _ hs' he' _ _ _ _ _ _ _ 
  have hS : PB bx w.heap.size w w.drew := PB.of (Below.refl _ _).drew
  have hE_ : Bk w.drew bx 54 (enC e) := hE
  clear hE
  have hE := hE_
  clear hE_
  refine wp_region_held_drew (S := fun w' => PB bx w.heap.size w w') (by kernel_rfl) hS (fun hS0 => ?_)
  clear hS0
  generalize w.drew = wd at hS hE ⊢
  refine wpAnyH_take (i := 0) (v := ?_) rfl (by kernel_rfl) (by kernel_rfl) (by kernel_rfl) (fun _ _ _ h => by cases h.1) (.inl ⟨by rfl,?_⟩) (by assumption) ?_
  rotate_left
  · (intro w' hSw; (try dsimp only at hSw); skip; go_simp <;> with_reducible rfl)
  (try simp only [Act.put,aT,aZ,aS])
  refine wpAnyH_take (i := 1) rfl (by kernel_rfl) (by kernel_rfl) (by kernel_rfl) (fun _ _ _ h => by cases h.1) (yields_row (by rfl) 30 _ rfl g6 (jobC J (.slice sa sn sc)) rfl 30 (fun w' hw => (HS.out.pb hw).job) Try.underlying30 szJob) (by assumption) ?_
  (try simp only [Act.put,aT,aZ,aS])
  refine wpAnyH_take (i := 2) (v := ?_) rfl (by kernel_rfl) (by kernel_rfl) (by kernel_rfl) (fun _ _ _ h => by cases h.1) (.inl ⟨by rfl,?_⟩) (by assumption) ?_
  rotate_left
  · (intro w' hSw; (try dsimp only at hSw); (have q0 := (H16.out.pb hSw H16.out.lt hne16).at_ 0 (.int .i64 x.p) rfl; have q1 := (H16.out.pb hSw H16.out.lt hne16).at_ 1 (.int .i64 x.t) rfl; have q2 := (H16.out.pb hSw H16.out.lt hne16).at_ 2 (.int .i64 x.r) rfl); go_simp <;> with_reducible rfl)
  (try simp only [Act.put,aT,aZ,aS])
  refine wpAnyH_take (i := 3) (v := ?_) rfl (by kernel_rfl) (by kernel_rfl) (by kernel_rfl) (fun _ _ _ h => by cases h.1) (.inl ⟨by rfl,?_⟩) (by assumption) ?_
  rotate_left
  · (intro w' hSw; (try dsimp only at hSw); skip; go_simp <;> with_reducible rfl)
  (try simp only [Act.put,aT,aZ,aS])
  refine wpAnyH_take (i := 4) (v := ?_) rfl (by kernel_rfl) (by kernel_rfl) (by kernel_rfl) (fun _ _ _ h => by cases h.1) (.inl ⟨by rfl,?_⟩) (by assumption) ?_
  rotate_left
  · (intro w' hSw; (try dsimp only at hSw); (have q9 := HD.out); go_simp <;> with_reducible rfl)
  (try simp only [Act.put,aT,aZ,aS])
  refine wpAnyH_take (i := 5) (v := ?_) rfl (by kernel_rfl) (by kernel_rfl) (by kernel_rfl) (fun _ _ _ h => by cases h.1) (.inl ⟨by rfl,?_⟩) (by assumption) ?_
  rotate_left
  · (intro w' hSw; (try dsimp only at hSw); skip; go_simp <;> with_reducible rfl)
  (try simp only [Act.put,aT,aZ,aS])
  refine wpAnyH_ready (rs := [6]) (by kernel_rfl) (by simp) ?_
  refine AllReadyH.cons rfl (fun K hK => ?_) ?_
  · have hrg := (HS.out.pb hS).rg
    have hc0 := HREC.out x e bx A (ln - 1) (lc - 1) aa an ac _ hE HO.out HCAP.out HTB.out
    have hc1 := hc0 ⟨by rw [HLN.out.1]; rfl,by omega⟩ ((HS.out.pb hS).ls.tail HA.out) HAO.out
    have hc := hc1 HAN.out (HS.out.pb hS).as HS.out.off.2.2 hrg HS.out.off.1
    clear hc0 hc1 hrg
    have HC := hidMk hc
    clear hc
    go_simp
    go_at_call 24
    refine HC.out.mono ?_
    rintro e' wZ ⟨rfl,hE2,hk2⟩
    have hS_ := hS.trans hk2 hS.size
    clear hS hE hk2
    have hS := hS_
    have hE := hE2
    clear hS_ hE2
    go_wp2_with fail
    refine hK.out _ _ hS (fun _ => ?_)
    clear hK K
    (try simp only [Act.put,aT,aZ,aS])
    refine wpAnyH_done (by kernel_rfl) ?_ _
    exact ⟨rfl,_,_,_,_,_,_,_,rfl,hS,hE⟩
  exact AllReadyH.nil
set_option maxHeartbeats 9000000 in
set_option maxRecDepth 1000000 in
theorem alM_ok {w0 w : World} {bx g6 g7 : Nat} {J : Jb} {sa : Option Addr} {sn sc : Nat} {t : Fd} {q o ln lc : Nat} {s : Int} {l : List Int} {aa : Option Addr} {an ac : Nat} {acc : List Int} {e : En} {n v : Int} {Q : Exit → Act → World → Prop} {u1 u2 u5 u8 u9 A0 A1 A2 A3 A6 A7 A8 A9 Aa Ab Ac Ad Ae Af Ag Ah Ai Aj Ak Al Am An Ao Ap Aq Ar As At Au Av Aw Ax Ay Az C0 C1 C2 C3 C4 C5 C6 C7 C8 C9 Ca Cb Cc Cd Ce Cf Cg Ch Ci Cj Ck Cl Cm Cn Co Cp Cq Cr Cs Ct Cu Cv Cw Cx Cy Cz D0 D1 D2 D3 D4 D5 D6 D7 D8 D9 Da Db Dc Dd De Df Dg Dh Di Dj Dk Dl Dm Dn Do Dp Dq Dr Ds Dt Du Dv Dw Dx Dy Dz E0 E1 E2 E3 E4 E5 E6 E7 E8 E9 : Value} (hs : AT w0 w bx g6 g7 J sa sn sc t (some ⟨q,o,none⟩) (s :: l) aa acc) (hE : Bk w bx 54 (enC e)) (ho : e.Ok) (hln : ln = l.length + 1 ∧ ln ≤ lc) (hll : 0 ≤ lc) (hrec : ALLc J sa sn sc l acc) (hcap : e.truths + ((allT J l (nextF t s n v) acc).length : Int) ≤ capN) (htb : TB (l.length + 1) t) (hll4 : l.length ≤ 6) (hn : -12 ≤ n ∧ n ≤ 12) (hv : 0 ≤ v ∧ v ≤ 12) (han : an = acc.length) (hs12 : s = 1 ∨ s = 2) (hK : ∀ (w' : World),PB bx w.heap.size w w' → Bk w' bx 54 (enC (e.notes J (allT J l (nextF t s n v) acc))) → ∀ (Qi Us Ut Uu Uv Uw Ux Uy Uz V0 V1 V2 V3 V4 V5 V6 V7 V8 V9 Va Vb Vc Vd Ve Vf Vg Vh Vi Vj Vk Vl : Value),Q .normal ⟨#[(.pointer (some ⟨bx,0,none⟩)),u1,u2,(.slice (some ⟨q,o,none⟩) ln lc),(.slice aa an ac),u5,(.pointer (some ⟨g6,0,none⟩)),(.pointer (some ⟨g7,0,none⟩)),u8,u9,A0,A1,A2,A3,(.int .i64 n),(.int .i64 v),Qi,A7,A8,A9,Aa,Ab,Ac,Ad,Ae,Af,Ag,Ah,Ai,Aj,Ak,Al,Am,An,Ao,Ap,Aq,Ar,As,At,Au,Av,Aw,Ax,Ay,Az,C0,C1,C2,C3,C4,C5,C6,C7,C8,C9,Ca,Cb,Cc,Cd,Ce,Cf,Cg,Ch,Ci,Cj,Ck,Cl,Cm,Cn,Co,Cp,Cq,Cr,Cs,Ct,Cu,Cv,Cw,Cx,Cy,Cz,D0,D1,D2,D3,D4,D5,D6,D7,D8,D9,Da,Db,Dc,Dd,De,Df,Us,Ut,Uu,Uv,Uw,Ux,Uy,Uz,V0,V1,V2,V3,V4,V5,V6,V7,V8,V9,Va,Vb,Vc,Vd,Ve,Vf,Vg,Vh,Vi,Vj,Vk,Vl],[]⟩ w') : Code.wp Try.prog alM Q ⟨#[(.pointer (some ⟨bx,0,none⟩)),u1,u2,(.slice (some ⟨q,o,none⟩) ln lc),(.slice aa an ac),u5,(.pointer (some ⟨g6,0,none⟩)),(.pointer (some ⟨g7,0,none⟩)),u8,u9,A0,A1,A2,A3,(.int .i64 n),(.int .i64 v),A6,A7,A8,A9,Aa,Ab,Ac,Ad,Ae,Af,Ag,Ah,Ai,Aj,Ak,Al,Am,An,Ao,Ap,Aq,Ar,As,At,Au,Av,Aw,Ax,Ay,Az,C0,C1,C2,C3,C4,C5,C6,C7,C8,C9,Ca,Cb,Cc,Cd,Ce,Cf,Cg,Ch,Ci,Cj,Ck,Cl,Cm,Cn,Co,Cp,Cq,Cr,Cs,Ct,Cu,Cv,Cw,Cx,Cy,Cz,D0,D1,D2,D3,D4,D5,D6,D7,D8,D9,Da,Db,Dc,Dd,De,Df,Dg,Dh,Di,Dj,Dk,Dl,Dm,Dn,Do,Dp,Dq,Dr,Ds,Dt,Du,Dv,Dw,Dx,Dy,Dz,E0,E1,E2,E3,E4,E5,E6,E7,E8,E9],[]⟩ w := by
  have d0 := hs.fl.at_ 0 (.int .i64 t.p) rfl
  have d1 := hs.fl.at_ 1 (.int .i64 t.t) rfl
  have d2 := hs.fl.at_ 2 (.int .i64 t.r) rfl
  have hl7 := hs.fl.lt
  have hl6 := hs.job.lt
  obtain ⟨q',o',e',hq,c0⟩ := hs.ls 0 s rfl
  cases e'
  rw [Nat.add_zero] at c0
  have hB := hs.b0.size
  have hxx := hs.hx
  have hg0 : w0.heap.size ≤ w.heap.size := hB
  have hg6 : g6 ≠ w.heap.size := by omega
  have hg7 : g7 ≠ w.heap.size := by omega
  have hne : w.heap.size ≠ bx := by omega
  have HS := hidMk hs
  have HE := hidMk hE
  have HO := hidMk ho
  have HREC := hidMk hrec
  have HCAP := hidMk hcap
  have HAN := hidMk han
  have HLN := hidMk hln
  have HK := hidMk hK
  have i0 : (0 : Int) < (ln : Int) := by have := hln.1; omega
  have hb := htb
  obtain ⟨⟨b1,b2⟩,⟨b3,b4⟩,b5,b6⟩ := hb
  push_cast at b1 b2 b3 b4 b5 b6
  have w1 : IntKind.i64.wrap (t.p + n) = t.p + n := IntWalk.i64_in _ (by omega)
  have w2 : IntKind.i64.wrap (t.t - v) = t.t - v := IntWalk.i64_in _ (by omega)
  have w3 : IntKind.i64.wrap (t.r - v) = t.r - v := IntWalk.i64_in _ (by omega)
  clear b1 b2 b3 b4 b5 b6 hs hE ho hrec hcap han hln hK
  rw [alM_eq]
  rcases hs12 with h1 | h2
  · obtain rfl : s = 1 := h1
    have hx : TB l.length (nextF t 1 n v) := by
      obtain ⟨⟨a1,a2⟩,⟨a3,a4⟩,a5,a6⟩ := htb
      rw [nextF_1]
      refine ⟨⟨?_,?_⟩,⟨?_,?_⟩,?_,?_⟩ <;> simp only <;> push_cast at * <;> omega
    have HX := hidMk hx
    clear hx htb
    go_wp2_with fail
    have al : Below w.heap.size w (w.alloc (.cells #[.int .i64 (t.p + n),.int .i64 (t.t - v),.int .i64 t.r] 57)) := (Below.refl _ _).alloc (Nat.le_refl _) _
    have q1 : PB bx w.heap.size w (w.alloc (.cells #[.int .i64 (t.p + n),.int .i64 (t.t - v),.int .i64 t.r] 57)) := PB.of al
    refine alr24 (x := nextF t 1 n v) (HS.out.next al) (HE.out.below al HE.out.lt) HO.out (Bk.new w 57 #[.int .i64 (t.p + n),.int .i64 (t.t - v),.int .i64 t.r]) hne HLN.out hll HREC.out HCAP.out HX.out HAN.out ?_
    intro w' hp' hE'
    intros
    exact HK.out _ (q1.trans hp' q1.size) hE' _ _ _ _ _ _ _ _ _ _ _ _ _ _ _ _ _ _ _ _ _ _ _ _ _ _ _ _ _ _ _ 
  · obtain rfl : s = 2 := h2
    have hx : TB l.length (nextF t 2 n v) := by
      obtain ⟨⟨a1,a2⟩,⟨a3,a4⟩,a5,a6⟩ := htb
      rw [nextF_2]
      refine ⟨⟨?_,?_⟩,⟨?_,?_⟩,?_,?_⟩ <;> simp only <;> push_cast at * <;> omega
    have HX := hidMk hx
    clear hx htb
    go_wp2_with fail
    have al : Below w.heap.size w (w.alloc (.cells #[.int .i64 (t.p + n),.int .i64 t.t,.int .i64 (t.r - v)] 57)) := (Below.refl _ _).alloc (Nat.le_refl _) _
    have q1 : PB bx w.heap.size w (w.alloc (.cells #[.int .i64 (t.p + n),.int .i64 t.t,.int .i64 (t.r - v)] 57)) := PB.of al
    refine alr24 (x := nextF t 2 n v) (HS.out.next al) (HE.out.below al HE.out.lt) HO.out (Bk.new w 57 #[.int .i64 (t.p + n),.int .i64 t.t,.int .i64 (t.r - v)]) hne HLN.out hll HREC.out HCAP.out HX.out HAN.out ?_
    intro w' hp' hE'
    intros
    exact HK.out _ (q1.trans hp' q1.size) hE' _ _ _ _ _ _ _ _ _ _ _ _ _ _ _ _ _ _ _ _ _ _ _ _ _ _ _ _ _ _ _ 
end Go.Proofs.Ytolabejbhaeddaa
