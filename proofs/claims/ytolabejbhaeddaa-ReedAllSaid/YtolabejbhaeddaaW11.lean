/- Part 11 of the proof: AlK. -/
import Derived.Great.Walk
import Derived.Deep.WholeRow
import Derived.Deep.MidRow
import Derived.Test.YtolabejbhaeddaaW10
/- The law ReedAll: all with strokes, its loops. -/
namespace Go.Proofs.Ytolabejbhaeddaa
set_option linter.all false
open Go.RowKit Go.Great
set_option maxHeartbeats 9000000 in
set_option maxRecDepth 1000000 in
theorem alL_ok {w0 w : World} {bx g6 g7 : Nat} {J : Jb} {sa : Option Addr} {sn sc : Nat} {t : Fd} {q o ln lc : Nat} {s : Int} {l : List Int} {aa : Option Addr} {an ac : Nat} {acc : List Int} {e : En} {g12 g13 : Nat} {wa wb n : Int} {Q : Exit → Act → World → Prop} {u1 u2 u5 u8 u9 A0 A1 A5 A6 A7 A8 A9 Aa Ab Ac Ad Ae Af Ag Ah Ai Aj Ak Al Am An Ao Ap Aq Ar As At Au Av Aw Ax Ay Az C0 C1 C2 C3 C4 C5 C6 C7 C8 C9 Ca Cb Cc Cd Ce Cf Cg Ch Ci Cj Ck Cl Cm Cn Co Cp Cq Cr Cs Ct Cu Cv Cw Cx Cy Cz D0 D1 D2 D3 D4 D5 D6 D7 D8 D9 Da Db Dc Dd De Df Dg Dh Di Dj Dk Dl Dm Dn Do Dp Dq Dr Ds Dt Du Dv Dw Dx Dy Dz E0 E1 E2 E3 E4 E5 E6 E7 E8 E9 : Value} (hs : AT w0 w bx g6 g7 J sa sn sc t (some ⟨q,o,none⟩) (s :: l) aa acc) (hE : Bk w bx 54 (enC e)) (ho : e.Ok) (h13 : Bk w g13 23 #[.int .i64 wa,.int .i64 wb]) (hne13 : g13 ≠ bx) (hln : ln = l.length + 1 ∧ ln ≤ lc) (hll : 0 ≤ lc) (hn : -12 ≤ n ∧ n ≤ 12) (hrec : ALLc J sa sn sc l acc) (htb : TB (l.length + 1) t) (hll4 : l.length ≤ 6) (hw : 0 ≤ wa ∧ wa ≤ 12 ∧ 0 ≤ wb ∧ wb ≤ 12) (han : an = acc.length) (hs12 : s = 1 ∨ s = 2) (hcap : e.truths + (((nums wa wb).flatMap (fun v => allT J l (nextF t s n v) acc)).length : Int) ≤ capN) (hK : ∀ (w' : World),PB bx w.heap.size w w' → Bk w' bx 54 (enC (e.notes J ((nums wa wb).flatMap (fun v => allT J l (nextF t s n v) acc)))) → ∀ (u1 u2 u5 u8 u9 A0 A1 A5 A6 A7 A8 A9 Aa Ab Ac Ad Ae Af Ag Ah Ai Aj Ak Al Am An Ao Ap Aq Ar As At Au Av Aw Ax Ay Az C0 C1 C2 C3 C4 C5 C6 C7 C8 C9 Ca Cb Cc Cd Ce Cf Cg Ch Ci Cj Ck Cl Cm Cn Co Cp Cq Cr Cs Ct Cu Cv Cw Cx Cy Cz D0 D1 D2 D3 D4 D5 D6 D7 D8 D9 Da Db Dc Dd De Df Dg Dh Di Dj Dk Dl Dm Dn Do Dp Dq Dr Ds Dt Du Dv Dw Dx Dy Dz E0 E1 E2 E3 E4 E5 E6 E7 E8 E9 : Value),Q .normal ⟨#[(.pointer (some ⟨bx,0,none⟩)),u1,u2,(.slice (some ⟨q,o,none⟩) ln lc),(.slice aa an ac),u5,(.pointer (some ⟨g6,0,none⟩)),(.pointer (some ⟨g7,0,none⟩)),u8,u9,A0,A1,(.pointer (some ⟨g12,0,none⟩)),(.pointer (some ⟨g13,0,none⟩)),(.int .i64 n),A5,A6,A7,A8,A9,Aa,Ab,Ac,Ad,Ae,Af,Ag,Ah,Ai,Aj,Ak,Al,Am,An,Ao,Ap,Aq,Ar,As,At,Au,Av,Aw,Ax,Ay,Az,C0,C1,C2,C3,C4,C5,C6,C7,C8,C9,Ca,Cb,Cc,Cd,Ce,Cf,Cg,Ch,Ci,Cj,Ck,Cl,Cm,Cn,Co,Cp,Cq,Cr,Cs,Ct,Cu,Cv,Cw,Cx,Cy,Cz,D0,D1,D2,D3,D4,D5,D6,D7,D8,D9,Da,Db,Dc,Dd,De,Df,Dg,Dh,Di,Dj,Dk,Dl,Dm,Dn,Do,Dp,Dq,Dr,Ds,Dt,Du,Dv,Dw,Dx,Dy,Dz,E0,E1,E2,E3,E4,E5,E6,E7,E8,E9],[]⟩ w') : Code.wp Try.prog alL Q ⟨#[(.pointer (some ⟨bx,0,none⟩)),u1,u2,(.slice (some ⟨q,o,none⟩) ln lc),(.slice aa an ac),u5,(.pointer (some ⟨g6,0,none⟩)),(.pointer (some ⟨g7,0,none⟩)),u8,u9,A0,A1,(.pointer (some ⟨g12,0,none⟩)),(.pointer (some ⟨g13,0,none⟩)),(.int .i64 n),A5,A6,A7,A8,A9,Aa,Ab,Ac,Ad,Ae,Af,Ag,Ah,Ai,Aj,Ak,Al,Am,An,Ao,Ap,Aq,Ar,As,At,Au,Av,Aw,Ax,Ay,Az,C0,C1,C2,C3,C4,C5,C6,C7,C8,C9,Ca,Cb,Cc,Cd,Ce,Cf,Cg,Ch,Ci,Cj,Ck,Cl,Cm,Cn,Co,Cp,Cq,Cr,Cs,Ct,Cu,Cv,Cw,Cx,Cy,Cz,D0,D1,D2,D3,D4,D5,D6,D7,D8,D9,Da,Db,Dc,Dd,De,Df,Dg,Dh,Di,Dj,Dk,Dl,Dm,Dn,Do,Dp,Dq,Dr,Ds,Dt,Du,Dv,Dw,Dx,Dy,Dz,E0,E1,E2,E3,E4,E5,E6,E7,E8,E9],[]⟩ w := by
  rw [alL_eq]
  have H13 := hidMk h13
  have HK := hidMk hK
  have HS := hidMk hs
  have HE := hidMk hE
  have HO := hidMk ho
  have HREC := hidMk hrec
  have HCAP := hidMk hcap
  have HTB := hidMk htb
  have HAN := hidMk han
  have HLN := hidMk hln
  have H12 := hidMk hs12
  clear hs hE ho hrec hcap htb han hln hs12
  clear h13 hK
  have c0 := H13.out.at_ 0 (.int .i64 wa) rfl
  go_wp2_with fail
  clear c0
  refine wp_loop (fun a wr => ∃ (u1 u2 u5 u8 u9 A0 A1 A6 A7 A8 A9 Aa Ab Ac Ad Ae Af Ag Ah Ai Aj Ak Al Am An Ao Ap Aq Ar As At Au Av Aw Ax Ay Az C0 C1 C2 C3 C4 C5 C6 C7 C8 C9 Ca Cb Cc Cd Ce Cf Cg Ch Ci Cj Ck Cl Cm Cn Co Cp Cq Cr Cs Ct Cu Cv Cw Cx Cy Cz D0 D1 D2 D3 D4 D5 D6 D7 D8 D9 Da Db Dc Dd De Df Dg Dh Di Dj Dk Dl Dm Dn Do Dp Dq Dr Ds Dt Du Dv Dw Dx Dy Dz E0 E1 E2 E3 E4 E5 E6 E7 E8 E9 : Value) (j : Nat) (v : Int),(Hid (v = wa + (j : Int)) ∧ 0 ≤ v ∧ v ≤ 13) ∧ PB bx w.heap.size w wr ∧ Hid (Bk wr bx 54 (enC (e.notes J (((nums wa wb).take j).flatMap (fun v => allT J l (nextF t s n v) acc))))) ∧ a = ⟨#[(.pointer (some ⟨bx,0,none⟩)),u1,u2,(.slice (some ⟨q,o,none⟩) ln lc),(.slice aa an ac),u5,(.pointer (some ⟨g6,0,none⟩)),(.pointer (some ⟨g7,0,none⟩)),u8,u9,A0,A1,(.pointer (some ⟨g12,0,none⟩)),(.pointer (some ⟨g13,0,none⟩)),(.int .i64 n),(.int .i64 v),A6,A7,A8,A9,Aa,Ab,Ac,Ad,Ae,Af,Ag,Ah,Ai,Aj,Ak,Al,Am,An,Ao,Ap,Aq,Ar,As,At,Au,Av,Aw,Ax,Ay,Az,C0,C1,C2,C3,C4,C5,C6,C7,C8,C9,Ca,Cb,Cc,Cd,Ce,Cf,Cg,Ch,Ci,Cj,Ck,Cl,Cm,Cn,Co,Cp,Cq,Cr,Cs,Ct,Cu,Cv,Cw,Cx,Cy,Cz,D0,D1,D2,D3,D4,D5,D6,D7,D8,D9,Da,Db,Dc,Dd,De,Df,Dg,Dh,Di,Dj,Dk,Dl,Dm,Dn,Do,Dp,Dq,Dr,Ds,Dt,Du,Dv,Dw,Dx,Dy,Dz,E0,E1,E2,E3,E4,E5,E6,E7,E8,E9],[]⟩) (fun a _ => (wb + 1 - intOf (a.tmps.getD 15 undef)).toNat) ?_ ?_
  · exact ⟨_,_,_,_,_,_,_,_,_,_,_,_,_,_,_,_,_,_,_,_,_,_,_,_,_,_,_,_,_,_,_,_,_,_,_,_,_,_,_,_,_,_,_,_,_,_,_,_,_,_,_,_,_,_,_,_,_,_,_,_,_,_,_,_,_,_,_,_,_,_,_,_,_,_,_,_,_,_,_,_,_,_,_,_,_,_,_,_,_,_,_,_,_,_,_,_,_,_,_,_,_,_,_,_,_,_,_,_,_,_,_,_,_,_,_,_,_,_,_,0,wa,⟨hidMk (by simp),by omega,by omega⟩,PB.refl _ _ _,HE,rfl⟩
  · intro a wr h
    obtain ⟨u1,h⟩ := h
    obtain ⟨u2,h⟩ := h
    obtain ⟨u5,h⟩ := h
    obtain ⟨u8,h⟩ := h
    obtain ⟨u9,h⟩ := h
    obtain ⟨A0,h⟩ := h
    obtain ⟨A1,h⟩ := h
    obtain ⟨A6,h⟩ := h
    obtain ⟨A7,h⟩ := h
    obtain ⟨A8,h⟩ := h
    obtain ⟨A9,h⟩ := h
    obtain ⟨Aa,h⟩ := h
    obtain ⟨Ab,h⟩ := h
    obtain ⟨Ac,h⟩ := h
    obtain ⟨Ad,h⟩ := h
    obtain ⟨Ae,h⟩ := h
    obtain ⟨Af,h⟩ := h
    obtain ⟨Ag,h⟩ := h
    obtain ⟨Ah,h⟩ := h
    obtain ⟨Ai,h⟩ := h
    obtain ⟨Aj,h⟩ := h
    obtain ⟨Ak,h⟩ := h
    obtain ⟨Al,h⟩ := h
    obtain ⟨Am,h⟩ := h
    obtain ⟨An,h⟩ := h
    obtain ⟨Ao,h⟩ := h
    obtain ⟨Ap,h⟩ := h
    obtain ⟨Aq,h⟩ := h
    obtain ⟨Ar,h⟩ := h
    obtain ⟨As,h⟩ := h
    obtain ⟨At,h⟩ := h
    obtain ⟨Au,h⟩ := h
    obtain ⟨Av,h⟩ := h
    obtain ⟨Aw,h⟩ := h
    obtain ⟨Ax,h⟩ := h
    obtain ⟨Ay,h⟩ := h
    obtain ⟨Az,h⟩ := h
    obtain ⟨C0,h⟩ := h
    obtain ⟨C1,h⟩ := h
    obtain ⟨C2,h⟩ := h
    obtain ⟨C3,h⟩ := h
    obtain ⟨C4,h⟩ := h
    obtain ⟨C5,h⟩ := h
    obtain ⟨C6,h⟩ := h
    obtain ⟨C7,h⟩ := h
    obtain ⟨C8,h⟩ := h
    obtain ⟨C9,h⟩ := h
    obtain ⟨Ca,h⟩ := h
    obtain ⟨Cb,h⟩ := h
    obtain ⟨Cc,h⟩ := h
    obtain ⟨Cd,h⟩ := h
    obtain ⟨Ce,h⟩ := h
    obtain ⟨Cf,h⟩ := h
    obtain ⟨Cg,h⟩ := h
    obtain ⟨Ch,h⟩ := h
    obtain ⟨Ci,h⟩ := h
    obtain ⟨Cj,h⟩ := h
    obtain ⟨Ck,h⟩ := h
    obtain ⟨Cl,h⟩ := h
    obtain ⟨Cm,h⟩ := h
    obtain ⟨Cn,h⟩ := h
    obtain ⟨Co,h⟩ := h
    obtain ⟨Cp,h⟩ := h
    obtain ⟨Cq,h⟩ := h
    obtain ⟨Cr,h⟩ := h
    obtain ⟨Cs,h⟩ := h
    obtain ⟨Ct,h⟩ := h
    obtain ⟨Cu,h⟩ := h
    obtain ⟨Cv,h⟩ := h
    obtain ⟨Cw,h⟩ := h
    obtain ⟨Cx,h⟩ := h
    obtain ⟨Cy,h⟩ := h
    obtain ⟨Cz,h⟩ := h
    obtain ⟨D0,h⟩ := h
    obtain ⟨D1,h⟩ := h
    obtain ⟨D2,h⟩ := h
    obtain ⟨D3,h⟩ := h
    obtain ⟨D4,h⟩ := h
    obtain ⟨D5,h⟩ := h
    obtain ⟨D6,h⟩ := h
    obtain ⟨D7,h⟩ := h
    obtain ⟨D8,h⟩ := h
    obtain ⟨D9,h⟩ := h
    obtain ⟨Da,h⟩ := h
    obtain ⟨Db,h⟩ := h
    obtain ⟨Dc,h⟩ := h
    obtain ⟨Dd,h⟩ := h
    obtain ⟨De,h⟩ := h
    obtain ⟨Df,h⟩ := h
    obtain ⟨Dg,h⟩ := h
    obtain ⟨Dh,h⟩ := h
    obtain ⟨Di,h⟩ := h
    obtain ⟨Dj,h⟩ := h
    obtain ⟨Dk,h⟩ := h
    obtain ⟨Dl,h⟩ := h
    obtain ⟨Dm,h⟩ := h
    obtain ⟨Dn,h⟩ := h
    obtain ⟨Do,h⟩ := h
    obtain ⟨Dp,h⟩ := h
    obtain ⟨Dq,h⟩ := h
    obtain ⟨Dr,h⟩ := h
    obtain ⟨Ds,h⟩ := h
    obtain ⟨Dt,h⟩ := h
    obtain ⟨Du,h⟩ := h
    obtain ⟨Dv,h⟩ := h
    obtain ⟨Dw,h⟩ := h
    obtain ⟨Dx,h⟩ := h
    obtain ⟨Dy,h⟩ := h
    obtain ⟨Dz,h⟩ := h
    obtain ⟨E0,h⟩ := h
    obtain ⟨E1,h⟩ := h
    obtain ⟨E2,h⟩ := h
    obtain ⟨E3,h⟩ := h
    obtain ⟨E4,h⟩ := h
    obtain ⟨E5,h⟩ := h
    obtain ⟨E6,h⟩ := h
    obtain ⟨E7,h⟩ := h
    obtain ⟨E8,h⟩ := h
    obtain ⟨E9,h⟩ := h
    obtain ⟨j,v,⟨Hn,hn1,hn2⟩,hp,HEr,ha⟩ := h
    subst ha
    have HP := hidMk hp
    have c1 := (H13.out.pb hp H13.out.lt hne13).at_ 1 (.int .i64 wb) rfl
    have wy : IntKind.i64.wrap (v + 1) = v + 1 := IntWalk.i64_in _ (by omega)
    have HWY := hidMk wy
    clear hp wy
    by_cases hle : v ≤ wb
    · have hat := nums_at (a := wa) (b := wb) (j := j) (by have := Hn.out; omega)
      rw [← Hn.out] at hat
      have hps := hidMk (pre_succ (F := (fun v => allT J l (nextF t s n v) acc)) hat)
      have hpl := hidMk (pre_len (fun v => allT J l (nextF t s n v) acc) (nums wa wb) (j + 1))
      clear hat
      have hcap2 : (e.notes J (((nums wa wb).take j).flatMap (fun v => allT J l (nextF t s n v) acc))).truths + ((allT J l (nextF t s n v) acc).length : Int) ≤ capN := by
        rw [notes_truths]
        have h3 := hpl.out
        rw [hps.out,List.length_append] at h3
        have h4 := HCAP.out
        (try simp only at h3)
        omega
      have HCAP2 := hidMk hcap2
      have hat : AT w0 wr bx g6 g7 J sa sn sc t (some ⟨q,o,none⟩) (s :: l) aa acc := HS.out.pb HP.out
      have HAT := hidMk hat
      clear hcap2 hat
      go_wp2_with fail
      refine alM_ok HAT.out HEr.out (En.Ok.notes _ HO.out) HLN.out hll HREC.out HCAP2.out HTB.out hll4 hn ⟨hn1,by omega⟩ HAN.out H12.out ?_
      intro w' hp' hE'
      have HP2 := hidMk (HP.out.trans hp' HP.out.size)
      have HE2 := hidMk hE'
      clear hp' hE' c1
      intros
      have wy := HWY.out
      go_wp2_with fail
      refine ⟨⟨_,_,_,_,_,_,_,_,_,_,_,_,_,_,_,_,_,_,_,_,_,_,_,_,_,_,_,_,_,_,_,_,_,_,_,_,_,_,_,_,_,_,_,_,_,_,_,_,_,_,_,_,_,_,_,_,_,_,_,_,_,_,_,_,_,_,_,_,_,_,_,_,_,_,_,_,_,_,_,_,_,_,_,_,_,_,_,_,_,_,_,_,_,_,_,_,_,_,_,_,_,_,_,_,_,_,_,_,_,_,_,_,_,_,_,_,_,_,_,j + 1,v + 1,⟨hidMk (by rw [Hn.out]; push_cast; omega),by omega,by omega⟩,HP2.out,hidMk ?_,rfl⟩,by simp [intOf]; omega⟩
      rw [hps.out,notes_append]
      exact HE2.out
    · have hall := hidMk (pre_all (F := (fun v => allT J l (nextF t s n v) acc)) (a := wa) (b := wb) (j := j) (by have := Hn.out; omega))
      have HEF : Hid (Bk wr bx 54 (enC (e.notes J ((nums wa wb).flatMap (fun v => allT J l (nextF t s n v) acc))))) := by
        have h3 := HEr.out
        rw [hall.out] at h3
        exact hidMk h3
      clear HEr
      go_wp2_with fail
      exact HK.out _ HP.out HEF.out _ _ _ _ _ _ _ _ _ _ _ _ _ _ _ _ _ _ _ _ _ _ _ _ _ _ _ _ _ _ _ _ _ _ _ _ _ _ _ _ _ _ _ _ _ _ _ _ _ _ _ _ _ _ _ _ _ _ _ _ _ _ _ _ _ _ _ _ _ _ _ _ _ _ _ _ _ _ _ _ _ _ _ _ _ _ _ _ _ _ _ _ _ _ _ _ _ _ _ _ _ _ _ _ _ _ _ _ _ _ _ _ _ _ _ _ _ _ _ _ 
set_option maxHeartbeats 9000000 in
set_option maxRecDepth 1000000 in
theorem alO_ok {w0 w : World} {bx g6 g7 : Nat} {J : Jb} {sa : Option Addr} {sn sc : Nat} {t : Fd} {q o ln lc : Nat} {s : Int} {l : List Int} {aa : Option Addr} {an ac : Nat} {acc : List Int} {e : En} {g12 g13 : Nat} {ua ub wa wb : Int} {Q : Exit → Act → World → Prop} {u1 u2 u5 u8 u9 A0 A1 A4 A5 A6 A7 A8 A9 Aa Ab Ac Ad Ae Af Ag Ah Ai Aj Ak Al Am An Ao Ap Aq Ar As At Au Av Aw Ax Ay Az C0 C1 C2 C3 C4 C5 C6 C7 C8 C9 Ca Cb Cc Cd Ce Cf Cg Ch Ci Cj Ck Cl Cm Cn Co Cp Cq Cr Cs Ct Cu Cv Cw Cx Cy Cz D0 D1 D2 D3 D4 D5 D6 D7 D8 D9 Da Db Dc Dd De Df Dg Dh Di Dj Dk Dl Dm Dn Do Dp Dq Dr Ds Dt Du Dv Dw Dx Dy Dz E0 E1 E2 E3 E4 E5 E6 E7 E8 E9 : Value} (hs : AT w0 w bx g6 g7 J sa sn sc t (some ⟨q,o,none⟩) (s :: l) aa acc) (hE : Bk w bx 54 (enC e)) (ho : e.Ok) (h12 : Bk w g12 23 #[.int .i64 ua,.int .i64 ub]) (h13 : Bk w g13 23 #[.int .i64 wa,.int .i64 wb]) (hne12 : g12 ≠ bx) (hne13 : g13 ≠ bx) (hln : ln = l.length + 1 ∧ ln ≤ lc) (hll : 0 ≤ lc) (hu : -12 ≤ ua ∧ ua ≤ 12 ∧ -12 ≤ ub ∧ ub ≤ 12) (hrec : ALLc J sa sn sc l acc) (htb : TB (l.length + 1) t) (hll4 : l.length ≤ 6) (hw : 0 ≤ wa ∧ wa ≤ 12 ∧ 0 ≤ wb ∧ wb ≤ 12) (han : an = acc.length) (hs12 : s = 1 ∨ s = 2) (hcap : e.truths + (((nums ua ub).flatMap (fun n => (nums wa wb).flatMap fun v => allT J l (nextF t s n v) acc)).length : Int) ≤ capN) (hK : ∀ (w' : World),PB bx w.heap.size w w' → Bk w' bx 54 (enC (e.notes J ((nums ua ub).flatMap (fun n => (nums wa wb).flatMap fun v => allT J l (nextF t s n v) acc)))) → ∀ (u0 u1 u2 u3 u4 u5 u6 u7 u8 u9 A0 A1 A2 A3 A4 A5 A6 A7 A8 A9 Aa Ab Ac Ad Ae Af Ag Ah Ai Aj Ak Al Am An Ao Ap Aq Ar As At Au Av Aw Ax Ay Az C0 C1 C2 C3 C4 C5 C6 C7 C8 C9 Ca Cb Cc Cd Ce Cf Cg Ch Ci Cj Ck Cl Cm Cn Co Cp Cq Cr Cs Ct Cu Cv Cw Cx Cy Cz D0 D1 D2 D3 D4 D5 D6 D7 D8 D9 Da Db Dc Dd De Df Dg Dh Di Dj Dk Dl Dm Dn Do Dp Dq Dr Ds Dt Du Dv Dw Dx Dy Dz E0 E1 E2 E3 E4 E5 E6 E7 E8 E9 : Value),Q .normal ⟨#[u0,u1,u2,u3,u4,u5,u6,u7,u8,u9,A0,A1,A2,A3,A4,A5,A6,A7,A8,A9,Aa,Ab,Ac,Ad,Ae,Af,Ag,Ah,Ai,Aj,Ak,Al,Am,An,Ao,Ap,Aq,Ar,As,At,Au,Av,Aw,Ax,Ay,Az,C0,C1,C2,C3,C4,C5,C6,C7,C8,C9,Ca,Cb,Cc,Cd,Ce,Cf,Cg,Ch,Ci,Cj,Ck,Cl,Cm,Cn,Co,Cp,Cq,Cr,Cs,Ct,Cu,Cv,Cw,Cx,Cy,Cz,D0,D1,D2,D3,D4,D5,D6,D7,D8,D9,Da,Db,Dc,Dd,De,Df,Dg,Dh,Di,Dj,Dk,Dl,Dm,Dn,Do,Dp,Dq,Dr,Ds,Dt,Du,Dv,Dw,Dx,Dy,Dz,E0,E1,E2,E3,E4,E5,E6,E7,E8,E9],[]⟩ w') : Code.wp Try.prog alrest4 Q ⟨#[(.pointer (some ⟨bx,0,none⟩)),u1,u2,(.slice (some ⟨q,o,none⟩) ln lc),(.slice aa an ac),u5,(.pointer (some ⟨g6,0,none⟩)),(.pointer (some ⟨g7,0,none⟩)),u8,u9,A0,A1,(.pointer (some ⟨g12,0,none⟩)),(.pointer (some ⟨g13,0,none⟩)),A4,A5,A6,A7,A8,A9,Aa,Ab,Ac,Ad,Ae,Af,Ag,Ah,Ai,Aj,Ak,Al,Am,An,Ao,Ap,Aq,Ar,As,At,Au,Av,Aw,Ax,Ay,Az,C0,C1,C2,C3,C4,C5,C6,C7,C8,C9,Ca,Cb,Cc,Cd,Ce,Cf,Cg,Ch,Ci,Cj,Ck,Cl,Cm,Cn,Co,Cp,Cq,Cr,Cs,Ct,Cu,Cv,Cw,Cx,Cy,Cz,D0,D1,D2,D3,D4,D5,D6,D7,D8,D9,Da,Db,Dc,Dd,De,Df,Dg,Dh,Di,Dj,Dk,Dl,Dm,Dn,Do,Dp,Dq,Dr,Ds,Dt,Du,Dv,Dw,Dx,Dy,Dz,E0,E1,E2,E3,E4,E5,E6,E7,E8,E9],[]⟩ w := by
  rw [alrest4_cut]
  have H12b := hidMk h12
  have H13 := hidMk h13
  have HS := hidMk hs
  have HE := hidMk hE
  have HO := hidMk ho
  have HREC := hidMk hrec
  have HCAP := hidMk hcap
  have HTB := hidMk htb
  have HAN := hidMk han
  have HLN := hidMk hln
  have H12 := hidMk hs12
  clear hs hE ho hrec hcap htb han hln hs12
  have HK := hidMk hK
  clear h12 h13 hK
  have c0 := H12b.out.at_ 0 (.int .i64 ua) rfl
  go_wp2_with fail
  clear c0
  refine wp_loop (fun a wr => ∃ (u1 u2 u5 u8 u9 A0 A1 A5 A6 A7 A8 A9 Aa Ab Ac Ad Ae Af Ag Ah Ai Aj Ak Al Am An Ao Ap Aq Ar As At Au Av Aw Ax Ay Az C0 C1 C2 C3 C4 C5 C6 C7 C8 C9 Ca Cb Cc Cd Ce Cf Cg Ch Ci Cj Ck Cl Cm Cn Co Cp Cq Cr Cs Ct Cu Cv Cw Cx Cy Cz D0 D1 D2 D3 D4 D5 D6 D7 D8 D9 Da Db Dc Dd De Df Dg Dh Di Dj Dk Dl Dm Dn Do Dp Dq Dr Ds Dt Du Dv Dw Dx Dy Dz E0 E1 E2 E3 E4 E5 E6 E7 E8 E9 : Value) (j : Nat) (n : Int),(Hid (n = ua + (j : Int)) ∧ -12 ≤ n ∧ n ≤ 13) ∧ PB bx w.heap.size w wr ∧ Hid (Bk wr bx 54 (enC (e.notes J (((nums ua ub).take j).flatMap (fun n => (nums wa wb).flatMap fun v => allT J l (nextF t s n v) acc))))) ∧ a = ⟨#[(.pointer (some ⟨bx,0,none⟩)),u1,u2,(.slice (some ⟨q,o,none⟩) ln lc),(.slice aa an ac),u5,(.pointer (some ⟨g6,0,none⟩)),(.pointer (some ⟨g7,0,none⟩)),u8,u9,A0,A1,(.pointer (some ⟨g12,0,none⟩)),(.pointer (some ⟨g13,0,none⟩)),(.int .i64 n),A5,A6,A7,A8,A9,Aa,Ab,Ac,Ad,Ae,Af,Ag,Ah,Ai,Aj,Ak,Al,Am,An,Ao,Ap,Aq,Ar,As,At,Au,Av,Aw,Ax,Ay,Az,C0,C1,C2,C3,C4,C5,C6,C7,C8,C9,Ca,Cb,Cc,Cd,Ce,Cf,Cg,Ch,Ci,Cj,Ck,Cl,Cm,Cn,Co,Cp,Cq,Cr,Cs,Ct,Cu,Cv,Cw,Cx,Cy,Cz,D0,D1,D2,D3,D4,D5,D6,D7,D8,D9,Da,Db,Dc,Dd,De,Df,Dg,Dh,Di,Dj,Dk,Dl,Dm,Dn,Do,Dp,Dq,Dr,Ds,Dt,Du,Dv,Dw,Dx,Dy,Dz,E0,E1,E2,E3,E4,E5,E6,E7,E8,E9],[]⟩) (fun a _ => (ub + 1 - intOf (a.tmps.getD 14 undef)).toNat) ?_ ?_
  · exact ⟨_,_,_,_,_,_,_,_,_,_,_,_,_,_,_,_,_,_,_,_,_,_,_,_,_,_,_,_,_,_,_,_,_,_,_,_,_,_,_,_,_,_,_,_,_,_,_,_,_,_,_,_,_,_,_,_,_,_,_,_,_,_,_,_,_,_,_,_,_,_,_,_,_,_,_,_,_,_,_,_,_,_,_,_,_,_,_,_,_,_,_,_,_,_,_,_,_,_,_,_,_,_,_,_,_,_,_,_,_,_,_,_,_,_,_,_,_,_,_,_,0,ua,⟨hidMk (by simp),by omega,by omega⟩,PB.refl _ _ _,HE,rfl⟩
  · intro a wr h
    obtain ⟨u1,h⟩ := h
    obtain ⟨u2,h⟩ := h
    obtain ⟨u5,h⟩ := h
    obtain ⟨u8,h⟩ := h
    obtain ⟨u9,h⟩ := h
    obtain ⟨A0,h⟩ := h
    obtain ⟨A1,h⟩ := h
    obtain ⟨A5,h⟩ := h
    obtain ⟨A6,h⟩ := h
    obtain ⟨A7,h⟩ := h
    obtain ⟨A8,h⟩ := h
    obtain ⟨A9,h⟩ := h
    obtain ⟨Aa,h⟩ := h
    obtain ⟨Ab,h⟩ := h
    obtain ⟨Ac,h⟩ := h
    obtain ⟨Ad,h⟩ := h
    obtain ⟨Ae,h⟩ := h
    obtain ⟨Af,h⟩ := h
    obtain ⟨Ag,h⟩ := h
    obtain ⟨Ah,h⟩ := h
    obtain ⟨Ai,h⟩ := h
    obtain ⟨Aj,h⟩ := h
    obtain ⟨Ak,h⟩ := h
    obtain ⟨Al,h⟩ := h
    obtain ⟨Am,h⟩ := h
    obtain ⟨An,h⟩ := h
    obtain ⟨Ao,h⟩ := h
    obtain ⟨Ap,h⟩ := h
    obtain ⟨Aq,h⟩ := h
    obtain ⟨Ar,h⟩ := h
    obtain ⟨As,h⟩ := h
    obtain ⟨At,h⟩ := h
    obtain ⟨Au,h⟩ := h
    obtain ⟨Av,h⟩ := h
    obtain ⟨Aw,h⟩ := h
    obtain ⟨Ax,h⟩ := h
    obtain ⟨Ay,h⟩ := h
    obtain ⟨Az,h⟩ := h
    obtain ⟨C0,h⟩ := h
    obtain ⟨C1,h⟩ := h
    obtain ⟨C2,h⟩ := h
    obtain ⟨C3,h⟩ := h
    obtain ⟨C4,h⟩ := h
    obtain ⟨C5,h⟩ := h
    obtain ⟨C6,h⟩ := h
    obtain ⟨C7,h⟩ := h
    obtain ⟨C8,h⟩ := h
    obtain ⟨C9,h⟩ := h
    obtain ⟨Ca,h⟩ := h
    obtain ⟨Cb,h⟩ := h
    obtain ⟨Cc,h⟩ := h
    obtain ⟨Cd,h⟩ := h
    obtain ⟨Ce,h⟩ := h
    obtain ⟨Cf,h⟩ := h
    obtain ⟨Cg,h⟩ := h
    obtain ⟨Ch,h⟩ := h
    obtain ⟨Ci,h⟩ := h
    obtain ⟨Cj,h⟩ := h
    obtain ⟨Ck,h⟩ := h
    obtain ⟨Cl,h⟩ := h
    obtain ⟨Cm,h⟩ := h
    obtain ⟨Cn,h⟩ := h
    obtain ⟨Co,h⟩ := h
    obtain ⟨Cp,h⟩ := h
    obtain ⟨Cq,h⟩ := h
    obtain ⟨Cr,h⟩ := h
    obtain ⟨Cs,h⟩ := h
    obtain ⟨Ct,h⟩ := h
    obtain ⟨Cu,h⟩ := h
    obtain ⟨Cv,h⟩ := h
    obtain ⟨Cw,h⟩ := h
    obtain ⟨Cx,h⟩ := h
    obtain ⟨Cy,h⟩ := h
    obtain ⟨Cz,h⟩ := h
    obtain ⟨D0,h⟩ := h
    obtain ⟨D1,h⟩ := h
    obtain ⟨D2,h⟩ := h
    obtain ⟨D3,h⟩ := h
    obtain ⟨D4,h⟩ := h
    obtain ⟨D5,h⟩ := h
    obtain ⟨D6,h⟩ := h
    obtain ⟨D7,h⟩ := h
    obtain ⟨D8,h⟩ := h
    obtain ⟨D9,h⟩ := h
    obtain ⟨Da,h⟩ := h
    obtain ⟨Db,h⟩ := h
    obtain ⟨Dc,h⟩ := h
    obtain ⟨Dd,h⟩ := h
    obtain ⟨De,h⟩ := h
    obtain ⟨Df,h⟩ := h
    obtain ⟨Dg,h⟩ := h
    obtain ⟨Dh,h⟩ := h
    obtain ⟨Di,h⟩ := h
    obtain ⟨Dj,h⟩ := h
    obtain ⟨Dk,h⟩ := h
    obtain ⟨Dl,h⟩ := h
    obtain ⟨Dm,h⟩ := h
    obtain ⟨Dn,h⟩ := h
    obtain ⟨Do,h⟩ := h
    obtain ⟨Dp,h⟩ := h
    obtain ⟨Dq,h⟩ := h
    obtain ⟨Dr,h⟩ := h
    obtain ⟨Ds,h⟩ := h
    obtain ⟨Dt,h⟩ := h
    obtain ⟨Du,h⟩ := h
    obtain ⟨Dv,h⟩ := h
    obtain ⟨Dw,h⟩ := h
    obtain ⟨Dx,h⟩ := h
    obtain ⟨Dy,h⟩ := h
    obtain ⟨Dz,h⟩ := h
    obtain ⟨E0,h⟩ := h
    obtain ⟨E1,h⟩ := h
    obtain ⟨E2,h⟩ := h
    obtain ⟨E3,h⟩ := h
    obtain ⟨E4,h⟩ := h
    obtain ⟨E5,h⟩ := h
    obtain ⟨E6,h⟩ := h
    obtain ⟨E7,h⟩ := h
    obtain ⟨E8,h⟩ := h
    obtain ⟨E9,h⟩ := h
    obtain ⟨j,n,⟨Hn,hn1,hn2⟩,hp,HEr,ha⟩ := h
    subst ha
    have HP := hidMk hp
    have c1 := (H12b.out.pb hp H12b.out.lt hne12).at_ 1 (.int .i64 ub) rfl
    have wy : IntKind.i64.wrap (n + 1) = n + 1 := IntWalk.i64_in _ (by omega)
    have HWY := hidMk wy
    have H13r := hidMk (H13.out.pb hp H13.out.lt hne13)
    clear hp wy
    by_cases hle : n ≤ ub
    · have hat := nums_at (a := ua) (b := ub) (j := j) (by have := Hn.out; omega)
      rw [← Hn.out] at hat
      have hps := hidMk (pre_succ (F := (fun n => (nums wa wb).flatMap fun v => allT J l (nextF t s n v) acc)) hat)
      have hpl := hidMk (pre_len (fun n => (nums wa wb).flatMap fun v => allT J l (nextF t s n v) acc) (nums ua ub) (j + 1))
      clear hat
      have hcap2 : (e.notes J (((nums ua ub).take j).flatMap (fun n => (nums wa wb).flatMap fun v => allT J l (nextF t s n v) acc))).truths + (((nums wa wb).flatMap (fun v => allT J l (nextF t s n v) acc)).length : Int) ≤ capN := by
        rw [notes_truths]
        have h3 := hpl.out
        rw [hps.out,List.length_append] at h3
        have h4 := HCAP.out
        (try simp only at h3)
        omega
      have HCAP2 := hidMk hcap2
      have hat : AT w0 wr bx g6 g7 J sa sn sc t (some ⟨q,o,none⟩) (s :: l) aa acc := HS.out.pb HP.out
      have HAT := hidMk hat
      clear hcap2 hat
      go_wp2_with fail
      refine alL_ok HAT.out HEr.out (En.Ok.notes _ HO.out) H13r.out hne13 HLN.out hll ⟨hn1,by omega⟩ HREC.out HTB.out hll4 hw HAN.out H12.out HCAP2.out ?_
      intro w' hp' hE'
      have HP2 := hidMk (HP.out.trans hp' HP.out.size)
      have HE2 := hidMk hE'
      clear hp' hE' c1
      intros
      have wy := HWY.out
      go_wp2_with fail
      refine ⟨⟨_,_,_,_,_,_,_,_,_,_,_,_,_,_,_,_,_,_,_,_,_,_,_,_,_,_,_,_,_,_,_,_,_,_,_,_,_,_,_,_,_,_,_,_,_,_,_,_,_,_,_,_,_,_,_,_,_,_,_,_,_,_,_,_,_,_,_,_,_,_,_,_,_,_,_,_,_,_,_,_,_,_,_,_,_,_,_,_,_,_,_,_,_,_,_,_,_,_,_,_,_,_,_,_,_,_,_,_,_,_,_,_,_,_,_,_,_,_,_,_,j + 1,n + 1,⟨hidMk (by rw [Hn.out]; push_cast; omega),by omega,by omega⟩,HP2.out,hidMk ?_,rfl⟩,by simp [intOf]; omega⟩
      rw [hps.out,notes_append]
      exact HE2.out
    · have hall := hidMk (pre_all (F := (fun n => (nums wa wb).flatMap fun v => allT J l (nextF t s n v) acc)) (a := ua) (b := ub) (j := j) (by have := Hn.out; omega))
      have HEF : Hid (Bk wr bx 54 (enC (e.notes J ((nums ua ub).flatMap (fun n => (nums wa wb).flatMap fun v => allT J l (nextF t s n v) acc))))) := by
        have h3 := HEr.out
        rw [hall.out] at h3
        exact hidMk h3
      clear HEr
      go_wp2_with fail
      exact HK.out _ HP.out HEF.out _ _ _ _ _ _ _ _ _ _ _ _ _ _ _ _ _ _ _ _ _ _ _ _ _ _ _ _ _ _ _ _ _ _ _ _ _ _ _ _ _ _ _ _ _ _ _ _ _ _ _ _ _ _ _ _ _ _ _ _ _ _ _ _ _ _ _ _ _ _ _ _ _ _ _ _ _ _ _ _ _ _ _ _ _ _ _ _ _ _ _ _ _ _ _ _ _ _ _ _ _ _ _ _ _ _ _ _ _ _ _ _ _ _ _ _ _ _ _ _ _ _ _ _ _ _ _ _ 
end Go.Proofs.Ytolabejbhaeddaa
