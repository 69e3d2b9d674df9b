/- Part 9 of the proof: AlH, AlI. -/
import Derived.Great.Walk
import Derived.Deep.WholeRow
import Derived.Deep.MidRow
import Derived.Test.YtolabejbhaeddaaW06
import Derived.Test.YtolabejbhaeddaaW04
/- The law ReedAll: all without strokes. -/
namespace Go.Proofs.Ytolabejbhaeddaa
set_option linter.all false
open Go.RowKit Go.Great
theorem ints_own0 (n c : Nat) (hn : n = 0) (w : World) :
    Calls Try.prog 58 #[.slice none n c] w fun e w' => ∃ v,e = .returned v ∧ w'.ownsRow w.heap.size 3 1 v n ([] : List Value) ∧ Below w.heap.size w w' := by
  subst hn
  go_enter Try.func58,Try.ntmps58
  go_wp2_with fail
  go_ret
  exact ⟨_,rfl,⟨rfl,.inr ⟨w.heap.size,0,#[],rfl,Nat.le_refl _,Bk.new _ _ _,Nat.le_refl _,Nat.zero_le _,rfl,rfl⟩⟩,(Below.refl _ _).alloc (Nat.le_refl _) _⟩
set_option maxHeartbeats 9000000 in
set_option maxRecDepth 100000 in
theorem ints_own (a : Option Addr) (n c : Nat) (l : List Int) (w : World) (hn : n = l.length) (hm : n ≤ 1000) (h : Is w w.heap.size a l) :
    Calls Try.prog 58 #[.slice a n c] w fun e w' => ∃ v,e = .returned v ∧ w'.ownsRow w.heap.size 3 1 v n (l.map (Value.int .i64)) ∧ Below w.heap.size w w' := by
  have own0 : (w.alloc (.cells #[] 3)).ownsRow w.heap.size 3 1 (.slice (some ⟨w.heap.size,0,none⟩) 0 0) 0 [] :=
    ⟨rfl,.inr ⟨w.heap.size,0,#[],rfl,Nat.le_refl _,Bk.new _ _ _,Nat.le_refl _,Nat.zero_le _,rfl,rfl⟩⟩
  have Ho := hidMk own0
  have Hn := hidMk hn
  have Hh := hidMk h
  cases a with
  | some ad =>
    obtain ⟨i0,hi,hz0,hz1,hz2⟩ := info_parts infoInt
    have Hi : Hid (Try.prog.info? 3 = some i0) := hi
    have Hz0 := hidMk hz0
    have Hz1 := hidMk hz1
    have Hz2 := hidMk hz2
    clear hi hz0 hz1 hz2 own0 hn h
    go_enter Try.func58,Try.ntmps58
    go_wp2_with (at_builtin; refine wpList_append_own_at _ rfl (.tmp 3) (.tmp 4) 31 rfl w.heap.size 3 i0 (.int .i64 0) 1 8 Try.underlying31 Hi.out Hz0.out Hz1.out Hz2.out rfl (by decide) _ 0 [] rfl Ho.out ad n c (l.map (Value.int .i64)) rfl (by rw [List.length_map,Hn.out]; omega) (is_news (Hh.out.up ((Below.refl _ _).alloc (Nat.le_refl _) _))) (is_one l) (by unfold maxLen; omega) (by omega) (by simp) ?_; intro v' w3 own' hg _ at_)
    go_ret
    exact ⟨_,rfl,by simpa using own',((Below.refl _ _).alloc (Nat.le_refl _) (.cells #[] 3)).grown hg (by simp) (fun g e => by cases e; exact Nat.le_refl _)⟩
  | none =>
    have hl : l = [] := by
      cases l with
      | nil => rfl
      | cons x l =>
        obtain ⟨b,off,e,_⟩ := h 0 x rfl
        cases e
    subst hl
    exact ints_own0 n c hn w
theorem nums_len (a b : Int) : (nums a b).length = (b - a + 1).toNat := by simp [nums]
theorem nums_at {a b : Int} {j : Nat} (h : a + (j : Int) ≤ b) : (nums a b)[j]? = some (a + (j : Int)) := by
  unfold nums
  rw [List.getElem?_map,List.getElem?_range (by omega)]
  rfl
theorem pre_succ {F : Int → List (Fd × List Int)} {L : List Int} {j : Nat} {n : Int} (h : L[j]? = some n) : (L.take (j + 1)).flatMap F = (L.take j).flatMap F ++ F n := by
  rw [List.take_add_one,h]
  simp
theorem pre_len (F : Int → List (Fd × List Int)) (L : List Int) (j : Nat) : ((L.take j).flatMap F).length ≤ (L.flatMap F).length := by
  conv => rhs; rw [← List.take_append_drop j L]
  rw [List.flatMap_append,List.length_append]
  omega
theorem pre_all {F : Int → List (Fd × List Int)} {a b : Int} {j : Nat} (h : ¬ a + (j : Int) ≤ b) : ((nums a b).take j).flatMap F = (nums a b).flatMap F := by
  rw [List.take_of_length_le (by rw [nums_len]; omega)]
theorem allT_step {J : Jb} {t : Fd} {acc : List Int} {s : R2} (h : J.sh[acc.length]? = some s) : allT J [] t acc = (nums s.1 s.2).flatMap fun n => allT J [] t (acc ++ [n]) := by
  obtain ⟨hl,he⟩ := List.getElem?_eq_some_iff.1 h
  unfold allT
  rw [List.drop_eq_getElem_cons hl,he,shiftsT,List.map_flatMap]
  simp only [List.length_append,List.length_cons,List.length_nil,Nat.zero_add]
theorem allT_end {J : Jb} {t : Fd} {acc : List Int} (h : J.sh.length ≤ acc.length) : allT J [] t acc = [(t,if acc = [] then [0] else acc)] := by
  unfold allT
  rw [List.drop_of_length_le h,shiftsT]
  rfl
/-- What all is known to do. -/
def ALLc (J : Jb) (sa : Option Addr) (sn sc : Nat) (l acc : List Int) : Prop := ∀ (t : Fd) (e : En) (bx : Nat) (la : Option Addr) (ln lc : Nat) (aa : Option Addr) (an ac : Nat) (w : World),
  Bk w bx 54 (enC e) → e.Ok → e.truths + ((allT J l t acc).length : Int) ≤ capN → TB l.length t → (ln = l.length ∧ ln ≤ lc) → Is w w.heap.size la l → (l ≠ [] → Off la bx) →
  an = acc.length → Is w w.heap.size aa acc → (acc ≠ [] → Off aa bx) → Rg w w.heap.size sa J.sh → (J.sh ≠ [] → Off sa bx) →
  Calls Try.prog 24 #[(.pointer (some ⟨bx,0,none⟩)),.agg (jobC J (.slice sa sn sc)),fdV t,.slice la ln lc,.slice aa an ac] w fun x w' => x = .returned (.tuple #[]) ∧ Bk w' bx 54 (enC (e.notes J (allT J l t acc))) ∧ PB bx w.heap.size w w'
set_option maxHeartbeats 9000000 in
set_option maxRecDepth 1000000 in
theorem alr7 {w0 w : World} {bx g6 g7 : Nat} {J : Jb} {sa : Option Addr} {sn sc : Nat} {t : Fd} {la : Option Addr} {l : List Int} {aa : Option Addr} {an ac : Nat} {acc : List Int} {e : En} {n : Int} {Q : Exit → Act → World → Prop} {u1 u2 u3 u5 u8 u9 A0 A2 A3 A4 A5 A6 A7 A8 A9 Aa Ab Ac Ad Ae Af Ag Ah Ai Aj Ak Al Am An Ao Ap Aq Ar As At Au Av Aw Ax Ay Az C0 C1 C2 C3 C4 C5 C6 C7 C8 C9 Ca Cb Cc Cd Ce Cf Cg Ch Ci Cj Ck Cl Cm Cn Co Cp Cq Cr Cs Ct Cu Cv Cw Cx Cy Cz D0 D1 D2 D3 D4 D5 D6 D7 D8 D9 Da Db Dc Dd De Df Dg Dh Di Dj Dk Dl Dm Dn Do Dp Dq Dr Ds Dt Du Dv Dw Dx Dy Dz E0 E1 E2 E3 E4 E5 E6 E7 E8 E9 : Value} (hs : AT w0 w bx g6 g7 J sa sn sc t la l aa acc) (hE : Bk w bx 54 (enC e)) (ho : e.Ok) (hrec : ALLc J sa sn sc [] (acc ++ [n])) (hcap : e.truths + ((allT J [] t (acc ++ [n])).length : Int) ≤ capN) (htb : TB 0 t) (han : an = acc.length) (han4 : an ≤ 4) (hK : ∀ (w' : World),PB bx w.heap.size w w' → Bk w' bx 54 (enC (e.notes J (allT J [] t (acc ++ [n])))) → ∀ (S6 S7 S8 S9 Sa Sb Sc Sd Se : Value),Q .normal ⟨#[(.pointer (some ⟨bx,0,none⟩)),u1,u2,u3,(.slice aa an ac),u5,(.pointer (some ⟨g6,0,none⟩)),(.pointer (some ⟨g7,0,none⟩)),u8,u9,A0,(.int .i64 n),A2,A3,A4,A5,A6,A7,A8,A9,Aa,Ab,Ac,Ad,Ae,Af,Ag,Ah,Ai,Aj,Ak,Al,Am,An,Ao,Ap,Aq,Ar,As,At,S6,S7,S8,S9,Sa,Sb,Sc,Sd,Se,C3,C4,C5,C6,C7,C8,C9,Ca,Cb,Cc,Cd,Ce,Cf,Cg,Ch,Ci,Cj,Ck,Cl,Cm,Cn,Co,Cp,Cq,Cr,Cs,Ct,Cu,Cv,Cw,Cx,Cy,Cz,D0,D1,D2,D3,D4,D5,D6,D7,D8,D9,Da,Db,Dc,Dd,De,Df,Dg,Dh,Di,Dj,Dk,Dl,Dm,Dn,Do,Dp,Dq,Dr,Ds,Dt,Du,Dv,Dw,Dx,Dy,Dz,E0,E1,E2,E3,E4,E5,E6,E7,E8,E9],[]⟩ w') : Code.wp Try.prog (Code.region 7 #[⟨some 40,.move (.tmp 0),100,"outright.go:177",#[],none⟩,⟨some 41,.load 30 (.tmp 6),30,"outright.go:177",#[],none⟩,⟨some 42,.load 57 (.tmp 7),57,"outright.go:177",#[],none⟩,⟨some 43,.move (.tmp 4),31,"outright.go:177",#[],none⟩,⟨some 44,.call { callee := .value (.func 58),args := #[.tmp 43],argTypes := #[31] },31,"outright.go:177",#[⟨3,.data⟩],none⟩,⟨some 45,.move (.tmp 11),3,"outright.go:177",#[],none⟩,⟨some 46,.buildSlice 31 1 #[(0,.tmp 45)],31,"outright.go:177",#[⟨5,.data⟩],none⟩,⟨some 47,.call { callee := .builtin .append,args := #[.tmp 44,.tmp 46],argTypes := #[31,31] },31,"outright.go:177",#[⟨4,.data⟩,⟨6,.data⟩,⟨4,.chain⟩],none⟩,⟨some 48,.call { callee := .value (.func 24),args := #[.tmp 40,.tmp 41,.tmp 42,.const (.slice none 0 0),.tmp 47],argTypes := #[100,30,57,31,31] },0,"outright.go:177",#[⟨0,.data⟩,⟨1,.data⟩,⟨2,.data⟩,⟨7,.data⟩,⟨7,.chain⟩],none⟩] true) Q ⟨#[(.pointer (some ⟨bx,0,none⟩)),u1,u2,u3,(.slice aa an ac),u5,(.pointer (some ⟨g6,0,none⟩)),(.pointer (some ⟨g7,0,none⟩)),u8,u9,A0,(.int .i64 n),A2,A3,A4,A5,A6,A7,A8,A9,Aa,Ab,Ac,Ad,Ae,Af,Ag,Ah,Ai,Aj,Ak,Al,Am,An,Ao,Ap,Aq,Ar,As,At,Au,Av,Aw,Ax,Ay,Az,C0,C1,C2,C3,C4,C5,C6,C7,C8,C9,Ca,Cb,Cc,Cd,Ce,Cf,Cg,Ch,Ci,Cj,Ck,Cl,Cm,Cn,Co,Cp,Cq,Cr,Cs,Ct,Cu,Cv,Cw,Cx,Cy,Cz,D0,D1,D2,D3,D4,D5,D6,D7,D8,D9,Da,Db,Dc,Dd,De,Df,Dg,Dh,Di,Dj,Dk,Dl,Dm,Dn,Do,Dp,Dq,Dr,Ds,Dt,Du,Dv,Dw,Dx,Dy,Dz,E0,E1,E2,E3,E4,E5,E6,E7,E8,E9],[]⟩ w := by
  obtain ⟨ti,hi,hz0,hz1,hz2⟩ := info_parts infoInt
  have Hi : Hid (Try.prog.info? 3 = some ti) := hi
  have Hz0 := hidMk hz0
  have Hz1 := hidMk hz1
  have Hz2 := hidMk hz2
  clear hi hz0 hz1 hz2
  have HS := hidMk hs
  have HREC := hidMk hrec
  have HO := hidMk ho
  have HCAP := hidMk hcap
  have HTB := hidMk htb
  have HAN := hidMk han
  clear hs hrec ho hcap htb han
  refine region_via (R := fun a_ e_ a' w' => e_ = .normal ∧ ∃ (S6 S7 S8 S9 Sa Sb Sc Sd Se : Value),a' = (((((((((a_.put (some 40) S6).put (some 41) S7).put (some 42) S8).put (some 43) S9).put (some 44) Sa).put (some 45) Sb).put (some 46) Sc).put (some 47) Sd).put (some 48) Se) ∧ PB bx w.heap.size w w' ∧ Bk w' bx 54 (enC (e.notes J (allT J [] t (acc ++ [n]))))) ?_ ?_
  rotate_left
  · rintro e_ a' w' ⟨rfl,S6,S7,S8,S9,Sa,Sb,Sc,Sd,Se,rfl,hs',he'⟩
    simp only [Act.put,aT,aZ,aS]
    exact hK _ hs' he' _ _ _ _ _ _ _ _ _ 
  have hS : PB bx w.heap.size w w.drew := PB.of (Below.refl _ _).drew
  have hE_ : Bk w.drew bx 54 (enC e) := hE
  clear hE
  have hE := hE_
  clear hE_
  refine wp_region_held_drew (S := fun w' => PB bx w.heap.size w w') (by kernel_rfl) hS (fun hS0 => ?_)
  clear hS0
  generalize w.drew = wd at hS hE ⊢
  refine wpAnyH_take (i := 0) (v := ?_) rfl (by kernel_rfl) (by kernel_rfl) (by kernel_rfl) (fun _ _ _ h => by cases h.1) (.inl ⟨by rfl,?_⟩) (by assumption) ?_
  rotate_left
  · (intro w' hSw; (try dsimp only at hSw); skip; go_simp <;> with_reducible rfl)
  (try simp only [Act.put,aT,aZ,aS])
  refine wpAnyH_take (i := 1) rfl (by kernel_rfl) (by kernel_rfl) (by kernel_rfl) (fun _ _ _ h => by cases h.1) (yields_row (by rfl) 30 _ rfl g6 (jobC J (.slice sa sn sc)) rfl 30 (fun w' hw => (HS.out.pb hw).job) Try.underlying30 szJob) (by assumption) ?_
  (try simp only [Act.put,aT,aZ,aS])
  refine wpAnyH_take (i := 2) (v := ?_) rfl (by kernel_rfl) (by kernel_rfl) (by kernel_rfl) (fun _ _ _ h => by cases h.1) (.inl ⟨by rfl,?_⟩) (by assumption) ?_
  rotate_left
  · (intro w' hSw; (try dsimp only at hSw); (have q0 := (HS.out.pb hSw).fl.at_ 0 (.int .i64 t.p) rfl; have q1 := (HS.out.pb hSw).fl.at_ 1 (.int .i64 t.t) rfl; have q2 := (HS.out.pb hSw).fl.at_ 2 (.int .i64 t.r) rfl); go_simp <;> with_reducible rfl)
  (try simp only [Act.put,aT,aZ,aS])
  refine wpAnyH_take (i := 3) (v := ?_) rfl (by kernel_rfl) (by kernel_rfl) (by kernel_rfl) (fun _ _ _ h => by cases h.1) (.inl ⟨by rfl,?_⟩) (by assumption) ?_
  rotate_left
  · (intro w' hSw; (try dsimp only at hSw); skip; go_simp <;> with_reducible rfl)
  (try simp only [Act.put,aT,aZ,aS])
  refine wpAnyH_take (i := 5) (v := ?_) rfl (by kernel_rfl) (by kernel_rfl) (by kernel_rfl) (fun _ _ _ h => by cases h.1) (.inl ⟨by rfl,?_⟩) (by assumption) ?_
  rotate_left
  · (intro w' hSw; (try dsimp only at hSw); skip; go_simp <;> with_reducible rfl)
  (try simp only [Act.put,aT,aZ,aS])
  refine wpAnyH_ready (rs := [4,6]) (by kernel_rfl) (by simp) ?_
  refine AllReadyH.cons rfl (fun K hK => ?_) ?_
  · go_simp
    go_at_call 58
    refine (ints_own aa an ac acc _ HAN.out (by omega) (HS.out.pb hS).as).mono ?_
    rintro e' wX ⟨sv,rfl,hO,hbX⟩
    have hBs := hS.size
    have hBs2 := hbX.size
    have hS_ := hS.below hbX hS.size
    have hE_ := hE.below hbX hE.lt
    clear hbX hS hE
    have hS := hS_
    have hE := hE_
    clear hS_ hE_
    generalize wd.heap.size = Bs at hO hBs hBs2 ⊢
    go_wp2_with fail
    refine hK.out _ _ hS (fun _ => ?_)
    clear hK K
    (try simp only [Act.put,aT,aZ,aS])
    refine wpAnyH_ready (rs := [6]) (by kernel_rfl) (by simp) ?_
    refine AllReadyH.cons rfl (fun K hK => ?_) ?_
    · have qa : Below wX.heap.size wX (wX.alloc (.cells #[.int .i64 n] 3)) := (Below.refl _ _).alloc (Nat.le_refl _) _
      have hS_ := hS.below qa hS.size
      have hE_ := hE.below qa hE.lt
      have hA : Bk (wX.alloc (.cells #[.int .i64 n] 3)) wX.heap.size 3 #[.int .i64 n] := Bk.new _ _ _
      have hO_ := hO.alloc (.cells #[.int .i64 n] 3)
      have hBs3 := qa.size
      go_simp
      show K _ (wX.alloc (.cells #[.int .i64 n] 3))
      refine hK.out _ _ hS_ (fun _ => ?_)
      clear hS hE qa
      have hS := hS_
      have hE := hE_
      clear hS_ hE_
      clear hO
      have hO := hO_
      clear hO_
      have hBs4 := Nat.le_trans hBs2 hBs3
      clear hBs2 hBs3
      have hBs2 := hBs4
      clear hBs4
      generalize wX.heap.size = gA at hA ⊢
      generalize (wX.alloc (.cells #[.int .i64 n] 3)) = wz at hA hS hE hO hBs2 ⊢
      clear hK K
      (try simp only [Act.put,aT,aZ,aS])
      refine wpAnyH_ready (rs := [7]) (by kernel_rfl) (by simp) ?_
      refine AllReadyH.cons rfl (fun K hK => ?_) ?_
      · refine wp_append_own (.tmp 44) (.tmp 46) 31 rfl Bs 3 ti (.int .i64 0) 1 8 Try.underlying31 Hi.out Hz0.out Hz1.out Hz2.out rfl (by decide) sv an (acc.map (Value.int .i64)) rfl hO ⟨gA,0,none⟩ 1 1 [.int .i64 n] rfl rfl (fun j u hu => by rw [Addr.add_mid,Nat.zero_add]; exact hA.at_ j u (by simpa using hu)) (by intro u hu; simp at hu; rcases hu with rfl; rfl) (by unfold maxLen; omega) (by omega) hBs2 ?_
        intro v' wu own' hg' _
        have own2 : wu.ownsRow Bs 3 1 v' (an + 1) ((acc ++ [n]).map (Value.int .i64)) := by rw [List.map_append]; exact own'
        obtain ⟨a2,c2,rfl,hn2,his2⟩ := Is.of_own own2
        have hof : acc ++ [n] ≠ [] → Off a2 bx := by
          intro _ q o z e
          obtain ⟨q',o',e',_⟩ := his2 0 ((acc ++ [n])[0]'(by simp)) (List.getElem?_eq_getElem _)
          have h1 := (own_block' own2 q' (by rw [e']; rfl)).1
          rw [e'] at e
          cases e
          have := HS.out.hx
          have := HS.out.b0.size
          omega
        have hrow : ∀ g,sv.ownBlock = some g → Bs ≤ g := fun g e => (own_block' hO g e).1
        have hS_ := hS.grownTo hg' hS.size (fun g e => Nat.le_trans hBs (hrow g e))
        have hE_ := hE.grown hg' (fun e => by have := hrow bx e.symm; have := HS.out.hx; have := HS.out.b0.size; omega)
        clear hS hE hA hO own' hg' own2 hrow hn2
        have hS := hS_
        have hE := hE_
        clear hS_ hE_
        have HOF := hidMk hof
        have HIS := hidMk his2
        clear hof his2
        refine hK.out _ _ hS (fun _ => ?_)
        clear hK K
        (try simp only [Act.put,aT,aZ,aS])
        refine wpAnyH_ready (rs := [8]) (by kernel_rfl) (by simp) ?_
        refine AllReadyH.cons rfl (fun K hK => ?_) ?_
        · have hln : an + 1 = (acc ++ [n]).length := by rw [List.length_append,← HAN.out]; rfl
          have hrg := (HS.out.pb hS).rg
          have hc0 := HREC.out t e bx none 0 0 a2 (an + 1) c2 wu
          have hc1 := hc0 hE HO.out HCAP.out HTB.out
          have hc2 := hc1 ⟨rfl,Nat.le_refl _⟩ (Is.nil _ _ _) (fun h => absurd rfl h)
          have hc := hc2 hln HIS.out HOF.out hrg HS.out.off.1
          clear hc0 hc1 hc2 hln hrg
          have HC := hidMk hc
          clear hc
          go_simp
          go_at_call 24
          refine HC.out.mono ?_
          rintro e' wZ ⟨rfl,hE2,hk2⟩
          have hS_ := hS.trans hk2 hS.size
          clear hS hE hk2
          have hS := hS_
          have hE := hE2
          clear hS_ hE2
          go_wp2_with fail
          refine hK.out _ _ hS (fun _ => ?_)
          clear hK K
          (try simp only [Act.put,aT,aZ,aS])
          refine wpAnyH_done (by kernel_rfl) ?_ _
          exact ⟨rfl,_,_,_,_,_,_,_,_,_,rfl,hS,hE⟩
        exact AllReadyH.nil
      exact AllReadyH.nil
    exact AllReadyH.nil
  refine AllReadyH.cons rfl (fun K hK => ?_) ?_
  · have qa : Below wd.heap.size wd (wd.alloc (.cells #[.int .i64 n] 3)) := (Below.refl _ _).alloc (Nat.le_refl _) _
    have hS_ := hS.below qa hS.size
    have hE_ := hE.below qa hE.lt
    have hA : Bk (wd.alloc (.cells #[.int .i64 n] 3)) wd.heap.size 3 #[.int .i64 n] := Bk.new _ _ _
    go_simp
    show K _ (wd.alloc (.cells #[.int .i64 n] 3))
    refine hK.out _ _ hS_ (fun _ => ?_)
    clear hS hE qa
    have hS := hS_
    have hE := hE_
    clear hS_ hE_
    generalize wd.heap.size = gA at hA ⊢
    generalize (wd.alloc (.cells #[.int .i64 n] 3)) = wz at hA hS hE ⊢
    clear hK K
    (try simp only [Act.put,aT,aZ,aS])
    refine wpAnyH_ready (rs := [4]) (by kernel_rfl) (by simp) ?_
    refine AllReadyH.cons rfl (fun K hK => ?_) ?_
    · go_simp
      go_at_call 58
      refine (ints_own aa an ac acc _ HAN.out (by omega) (HS.out.pb hS).as).mono ?_
      rintro e' wX ⟨sv,rfl,hO,hbX⟩
      have hBs := hS.size
      have hBs2 := hbX.size
      have hS_ := hS.below hbX hS.size
      have hE_ := hE.below hbX hE.lt
      have hA_ := hA.below hbX hA.lt
      clear hA
      have hA := hA_
      clear hA_
      clear hbX hS hE
      have hS := hS_
      have hE := hE_
      clear hS_ hE_
      generalize wz.heap.size = Bs at hO hBs hBs2 ⊢
      go_wp2_with fail
      refine hK.out _ _ hS (fun _ => ?_)
      clear hK K
      (try simp only [Act.put,aT,aZ,aS])
      refine wpAnyH_ready (rs := [7]) (by kernel_rfl) (by simp) ?_
      refine AllReadyH.cons rfl (fun K hK => ?_) ?_
      · refine wp_append_own (.tmp 44) (.tmp 46) 31 rfl Bs 3 ti (.int .i64 0) 1 8 Try.underlying31 Hi.out Hz0.out Hz1.out Hz2.out rfl (by decide) sv an (acc.map (Value.int .i64)) rfl hO ⟨gA,0,none⟩ 1 1 [.int .i64 n] rfl rfl (fun j u hu => by rw [Addr.add_mid,Nat.zero_add]; exact hA.at_ j u (by simpa using hu)) (by intro u hu; simp at hu; rcases hu with rfl; rfl) (by unfold maxLen; omega) (by omega) hBs2 ?_
        intro v' wu own' hg' _
        have own2 : wu.ownsRow Bs 3 1 v' (an + 1) ((acc ++ [n]).map (Value.int .i64)) := by rw [List.map_append]; exact own'
        obtain ⟨a2,c2,rfl,hn2,his2⟩ := Is.of_own own2
        have hof : acc ++ [n] ≠ [] → Off a2 bx := by
          intro _ q o z e
          obtain ⟨q',o',e',_⟩ := his2 0 ((acc ++ [n])[0]'(by simp)) (List.getElem?_eq_getElem _)
          have h1 := (own_block' own2 q' (by rw [e']; rfl)).1
          rw [e'] at e
          cases e
          have := HS.out.hx
          have := HS.out.b0.size
          omega
        have hrow : ∀ g,sv.ownBlock = some g → Bs ≤ g := fun g e => (own_block' hO g e).1
        have hS_ := hS.grownTo hg' hS.size (fun g e => Nat.le_trans hBs (hrow g e))
        have hE_ := hE.grown hg' (fun e => by have := hrow bx e.symm; have := HS.out.hx; have := HS.out.b0.size; omega)
        clear hS hE hA hO own' hg' own2 hrow hn2
        have hS := hS_
        have hE := hE_
        clear hS_ hE_
        have HOF := hidMk hof
        have HIS := hidMk his2
        clear hof his2
        refine hK.out _ _ hS (fun _ => ?_)
        clear hK K
        (try simp only [Act.put,aT,aZ,aS])
        refine wpAnyH_ready (rs := [8]) (by kernel_rfl) (by simp) ?_
        refine AllReadyH.cons rfl (fun K hK => ?_) ?_
        · have hln : an + 1 = (acc ++ [n]).length := by rw [List.length_append,← HAN.out]; rfl
          have hrg := (HS.out.pb hS).rg
          have hc0 := HREC.out t e bx none 0 0 a2 (an + 1) c2 wu
          have hc1 := hc0 hE HO.out HCAP.out HTB.out
          have hc2 := hc1 ⟨rfl,Nat.le_refl _⟩ (Is.nil _ _ _) (fun h => absurd rfl h)
          have hc := hc2 hln HIS.out HOF.out hrg HS.out.off.1
          clear hc0 hc1 hc2 hln hrg
          have HC := hidMk hc
          clear hc
          go_simp
          go_at_call 24
          refine HC.out.mono ?_
          rintro e' wZ ⟨rfl,hE2,hk2⟩
          have hS_ := hS.trans hk2 hS.size
          clear hS hE hk2
          have hS := hS_
          have hE := hE2
          clear hS_ hE2
          go_wp2_with fail
          refine hK.out _ _ hS (fun _ => ?_)
          clear hK K
          (try simp only [Act.put,aT,aZ,aS])
          refine wpAnyH_done (by kernel_rfl) ?_ _
          exact ⟨rfl,_,_,_,_,_,_,_,_,_,rfl,hS,hE⟩
        exact AllReadyH.nil
      exact AllReadyH.nil
    exact AllReadyH.nil
  exact AllReadyH.nil
end Go.Proofs.Ytolabejbhaeddaa
/- The law ReedAll: all without strokes, put together. -/
namespace Go.Proofs.Ytolabejbhaeddaa
set_option linter.all false
open Go.RowKit Go.Great
set_option maxHeartbeats 9000000 in
set_option maxRecDepth 1000000 in
theorem alB_ok {w0 w : World} {bx g6 g7 : Nat} {J : Jb} {sa : Option Addr} {sn sc : Nat} {t : Fd} {la : Option Addr} {l : List Int} {aa : Option Addr} {an ac : Nat} {acc : List Int} {e : En} {s : R2} {Q : Exit → Act → World → Prop} {u1 u2 u3 u5 u8 u9 A0 A1 A2 A3 A4 A5 A6 A7 A8 A9 Aa Ab Ac Ad Ae Af Ag Ah Ai Aj Ak Al Am An Ao Ap Aq Ar As At Au Av Aw Ax Ay Az C0 C1 C2 C3 C4 C5 C6 C7 C8 C9 Ca Cb Cc Cd Ce Cf Cg Ch Ci Cj Ck Cl Cm Cn Co Cp Cq Cr Cs Ct Cu Cv Cw Cx Cy Cz D0 D1 D2 D3 D4 D5 D6 D7 D8 D9 Da Db Dc Dd De Df Dg Dh Di Dj Dk Dl Dm Dn Do Dp Dq Dr Ds Dt Du Dv Dw Dx Dy Dz E0 E1 E2 E3 E4 E5 E6 E7 E8 E9 : Value} (hs : AT w0 w bx g6 g7 J sa sn sc t la l aa acc) (hE : Bk w bx 54 (enC e)) (ho : e.Ok) (hsh : J.sh[acc.length]? = some s) (hsb : -60 ≤ s.1 ∧ s.1 ≤ 60 ∧ -60 ≤ s.2 ∧ s.2 ≤ 60) (hrec : ∀ n,s.1 ≤ n → n ≤ s.2 → ALLc J sa sn sc [] (acc ++ [n])) (hcap : e.truths + ((allT J [] t acc).length : Int) ≤ capN) (htb : TB 0 t) (han : an = acc.length) (han4 : an ≤ 4) (hsn : sn = J.sh.length ∧ sn ≤ 4) (hQ : ∀ (w' : World),Bk w' bx 54 (enC (e.notes J (allT J [] t acc))) → PB bx w0.heap.size w0 w' → ∀ (u0 u1 u2 u3 u4 u5 u6 u7 u8 u9 A0 A1 A2 A3 A4 A5 A6 A7 A8 A9 Aa Ab Ac Ad Ae Af Ag Ah Ai Aj Ak Al Am An Ao Ap Aq Ar As At Au Av Aw Ax Ay Az C0 C1 C2 C3 C4 C5 C6 C7 C8 C9 Ca Cb Cc Cd Ce Cf Cg Ch Ci Cj Ck Cl Cm Cn Co Cp Cq Cr Cs Ct Cu Cv Cw Cx Cy Cz D0 D1 D2 D3 D4 D5 D6 D7 D8 D9 Da Db Dc Dd De Df Dg Dh Di Dj Dk Dl Dm Dn Do Dp Dq Dr Ds Dt Du Dv Dw Dx Dy Dz E0 E1 E2 E3 E4 E5 E6 E7 E8 E9 : Value),Q .ret ⟨#[u0,u1,u2,u3,u4,u5,u6,u7,u8,u9,A0,A1,A2,A3,A4,A5,A6,A7,A8,A9,Aa,Ab,Ac,Ad,Ae,Af,Ag,Ah,Ai,Aj,Ak,Al,Am,An,Ao,Ap,Aq,Ar,As,At,Au,Av,Aw,Ax,Ay,Az,C0,C1,C2,C3,C4,C5,C6,C7,C8,C9,Ca,Cb,Cc,Cd,Ce,Cf,Cg,Ch,Ci,Cj,Ck,Cl,Cm,Cn,Co,Cp,Cq,Cr,Cs,Ct,Cu,Cv,Cw,Cx,Cy,Cz,D0,D1,D2,D3,D4,D5,D6,D7,D8,D9,Da,Db,Dc,Dd,De,Df,Dg,Dh,Di,Dj,Dk,Dl,Dm,Dn,Do,Dp,Dq,Dr,Ds,Dt,Du,Dv,Dw,Dx,Dy,Dz,E0,E1,E2,E3,E4,E5,E6,E7,E8,E9],[]⟩ w') : Code.wp Try.prog alB Q ⟨#[(.pointer (some ⟨bx,0,none⟩)),u1,u2,u3,(.slice aa an ac),u5,(.pointer (some ⟨g6,0,none⟩)),(.pointer (some ⟨g7,0,none⟩)),u8,u9,A0,A1,A2,A3,A4,A5,A6,A7,A8,A9,Aa,Ab,Ac,Ad,Ae,Af,Ag,Ah,Ai,Aj,Ak,Al,Am,An,Ao,Ap,Aq,Ar,As,At,Au,Av,Aw,Ax,Ay,Az,C0,C1,C2,C3,C4,C5,C6,C7,C8,C9,Ca,Cb,Cc,Cd,Ce,Cf,Cg,Ch,Ci,Cj,Ck,Cl,Cm,Cn,Co,Cp,Cq,Cr,Cs,Ct,Cu,Cv,Cw,Cx,Cy,Cz,D0,D1,D2,D3,D4,D5,D6,D7,D8,D9,Da,Db,Dc,Dd,De,Df,Dg,Dh,Di,Dj,Dk,Dl,Dm,Dn,Do,Dp,Dq,Dr,Ds,Dt,Du,Dv,Dw,Dx,Dy,Dz,E0,E1,E2,E3,E4,E5,E6,E7,E8,E9],[]⟩ w := by
  have hlt : an < sn := by rw [han,hsn.1]; exact (List.getElem?_eq_some_iff.1 hsh).1
  obtain ⟨b,off,hsa,hbw,h1,h2⟩ := hs.rg _ s hsh
  rw [← han] at h1 h2
  have d15 := hs.job.at_ 15 (.slice sa sn sc) rfl
  rw [hsa] at d15
  clear hsa
  have hstep := hidMk (allT_step (t := t) hsh)
  have q : Below w.heap.size w (w.alloc (.cells #[.int .i64 s.1,.int .i64 s.2] 23)) := (Below.refl _ _).alloc (Nat.le_refl _) _
  have hA := hs.next q
  have hEA := hE.below q hE.lt
  have h10 : Bk (w.alloc (.cells #[.int .i64 s.1,.int .i64 s.2] 23)) w.heap.size 23 #[.int .i64 s.1,.int .i64 s.2] := Bk.new _ _ _
  have hne : w.heap.size ≠ bx := by have := hs.b0.size; have := hs.hx; omega
  have HS := hidMk hA
  have HE := hidMk hEA
  have HO := hidMk ho
  have HREC := hidMk hrec
  have HCAP := hidMk hcap
  have HTB := hidMk htb
  have HAN := hidMk han
  have HSN := hidMk hsn
  have H10 := hidMk h10
  have HQ := hidMk hQ
  have hlt' : (an : Int) < (sn : Int) := by omega
  obtain ⟨s1,s2⟩ := s
  simp only at hsb
  clear hs hA hE hEA ho hrec hcap htb han hsn h10 hQ q hsh
  rw [alB_eq]
  go_wp2_with fail
  generalize w.heap.size = g10 at H10 hne ⊢
  generalize (w.alloc (.cells #[.int .i64 s1,.int .i64 s2] 23)) = wA at HS HE H10 ⊢
  clear d15 h1 h2 hbw
  refine wp_loop (fun a wr => ∃ (u1 u2 u3 u5 u8 u9 A2 A3 A4 A5 A6 A7 A8 A9 Aa Ab Ac Ad Ae Af Ag Ah Ai Aj Ak Al Am An Ao Ap Aq Ar As At Au Av Aw Ax Ay Az C0 C1 C2 C3 C4 C5 C6 C7 C8 C9 Ca Cb Cc Cd Ce Cf Cg Ch Ci Cj Ck Cl Cm Cn Co Cp Cq Cr Cs Ct Cu Cv Cw Cx Cy Cz D0 D1 D2 D3 D4 D5 D6 D7 D8 D9 Da Db Dc Dd De Df Dg Dh Di Dj Dk Dl Dm Dn Do Dp Dq Dr Ds Dt Du Dv Dw Dx Dy Dz E0 E1 E2 E3 E4 E5 E6 E7 E8 E9 : Value) (j : Nat) (n : Int),(Hid (n = s1 + (j : Int)) ∧ -60 ≤ n ∧ n ≤ 61) ∧ PB bx wA.heap.size wA wr ∧ Hid (Bk wr bx 54 (enC (e.notes J (((nums s1 s2).take j).flatMap (fun n => allT J [] t (acc ++ [n])))))) ∧ a = ⟨#[(.pointer (some ⟨bx,0,none⟩)),u1,u2,u3,(.slice aa an ac),u5,(.pointer (some ⟨g6,0,none⟩)),(.pointer (some ⟨g7,0,none⟩)),u8,u9,(.pointer (some ⟨g10,0,none⟩)),(.int .i64 n),A2,A3,A4,A5,A6,A7,A8,A9,Aa,Ab,Ac,Ad,Ae,Af,Ag,Ah,Ai,Aj,Ak,Al,Am,An,Ao,Ap,Aq,Ar,As,At,Au,Av,Aw,Ax,Ay,Az,C0,C1,C2,C3,C4,C5,C6,C7,C8,C9,Ca,Cb,Cc,Cd,Ce,Cf,Cg,Ch,Ci,Cj,Ck,Cl,Cm,Cn,Co,Cp,Cq,Cr,Cs,Ct,Cu,Cv,Cw,Cx,Cy,Cz,D0,D1,D2,D3,D4,D5,D6,D7,D8,D9,Da,Db,Dc,Dd,De,Df,Dg,Dh,Di,Dj,Dk,Dl,Dm,Dn,Do,Dp,Dq,Dr,Ds,Dt,Du,Dv,Dw,Dx,Dy,Dz,E0,E1,E2,E3,E4,E5,E6,E7,E8,E9],[]⟩) (fun a _ => (s2 + 1 - intOf (a.tmps.getD 11 undef)).toNat) ?_ ?_
  · exact ⟨_,_,_,_,_,_,_,_,_,_,_,_,_,_,_,_,_,_,_,_,_,_,_,_,_,_,_,_,_,_,_,_,_,_,_,_,_,_,_,_,_,_,_,_,_,_,_,_,_,_,_,_,_,_,_,_,_,_,_,_,_,_,_,_,_,_,_,_,_,_,_,_,_,_,_,_,_,_,_,_,_,_,_,_,_,_,_,_,_,_,_,_,_,_,_,_,_,_,_,_,_,_,_,_,_,_,_,_,_,_,_,_,_,_,_,_,_,_,_,_,_,_,0,s1,⟨hidMk (by simp),by omega,by omega⟩,PB.refl _ _ _,HE,rfl⟩
  · intro a wr h
    obtain ⟨u1,h⟩ := h
    obtain ⟨u2,h⟩ := h
    obtain ⟨u3,h⟩ := h
    obtain ⟨u5,h⟩ := h
    obtain ⟨u8,h⟩ := h
    obtain ⟨u9,h⟩ := h
    obtain ⟨A2,h⟩ := h
    obtain ⟨A3,h⟩ := h
    obtain ⟨A4,h⟩ := h
    obtain ⟨A5,h⟩ := h
    obtain ⟨A6,h⟩ := h
    obtain ⟨A7,h⟩ := h
    obtain ⟨A8,h⟩ := h
    obtain ⟨A9,h⟩ := h
    obtain ⟨Aa,h⟩ := h
    obtain ⟨Ab,h⟩ := h
    obtain ⟨Ac,h⟩ := h
    obtain ⟨Ad,h⟩ := h
    obtain ⟨Ae,h⟩ := h
    obtain ⟨Af,h⟩ := h
    obtain ⟨Ag,h⟩ := h
    obtain ⟨Ah,h⟩ := h
    obtain ⟨Ai,h⟩ := h
    obtain ⟨Aj,h⟩ := h
    obtain ⟨Ak,h⟩ := h
    obtain ⟨Al,h⟩ := h
    obtain ⟨Am,h⟩ := h
    obtain ⟨An,h⟩ := h
    obtain ⟨Ao,h⟩ := h
    obtain ⟨Ap,h⟩ := h
    obtain ⟨Aq,h⟩ := h
    obtain ⟨Ar,h⟩ := h
    obtain ⟨As,h⟩ := h
    obtain ⟨At,h⟩ := h
    obtain ⟨Au,h⟩ := h
    obtain ⟨Av,h⟩ := h
    obtain ⟨Aw,h⟩ := h
    obtain ⟨Ax,h⟩ := h
    obtain ⟨Ay,h⟩ := h
    obtain ⟨Az,h⟩ := h
    obtain ⟨C0,h⟩ := h
    obtain ⟨C1,h⟩ := h
    obtain ⟨C2,h⟩ := h
    obtain ⟨C3,h⟩ := h
    obtain ⟨C4,h⟩ := h
    obtain ⟨C5,h⟩ := h
    obtain ⟨C6,h⟩ := h
    obtain ⟨C7,h⟩ := h
    obtain ⟨C8,h⟩ := h
    obtain ⟨C9,h⟩ := h
    obtain ⟨Ca,h⟩ := h
    obtain ⟨Cb,h⟩ := h
    obtain ⟨Cc,h⟩ := h
    obtain ⟨Cd,h⟩ := h
    obtain ⟨Ce,h⟩ := h
    obtain ⟨Cf,h⟩ := h
    obtain ⟨Cg,h⟩ := h
    obtain ⟨Ch,h⟩ := h
    obtain ⟨Ci,h⟩ := h
    obtain ⟨Cj,h⟩ := h
    obtain ⟨Ck,h⟩ := h
    obtain ⟨Cl,h⟩ := h
    obtain ⟨Cm,h⟩ := h
    obtain ⟨Cn,h⟩ := h
    obtain ⟨Co,h⟩ := h
    obtain ⟨Cp,h⟩ := h
    obtain ⟨Cq,h⟩ := h
    obtain ⟨Cr,h⟩ := h
    obtain ⟨Cs,h⟩ := h
    obtain ⟨Ct,h⟩ := h
    obtain ⟨Cu,h⟩ := h
    obtain ⟨Cv,h⟩ := h
    obtain ⟨Cw,h⟩ := h
    obtain ⟨Cx,h⟩ := h
    obtain ⟨Cy,h⟩ := h
    obtain ⟨Cz,h⟩ := h
    obtain ⟨D0,h⟩ := h
    obtain ⟨D1,h⟩ := h
    obtain ⟨D2,h⟩ := h
    obtain ⟨D3,h⟩ := h
    obtain ⟨D4,h⟩ := h
    obtain ⟨D5,h⟩ := h
    obtain ⟨D6,h⟩ := h
    obtain ⟨D7,h⟩ := h
    obtain ⟨D8,h⟩ := h
    obtain ⟨D9,h⟩ := h
    obtain ⟨Da,h⟩ := h
    obtain ⟨Db,h⟩ := h
    obtain ⟨Dc,h⟩ := h
    obtain ⟨Dd,h⟩ := h
    obtain ⟨De,h⟩ := h
    obtain ⟨Df,h⟩ := h
    obtain ⟨Dg,h⟩ := h
    obtain ⟨Dh,h⟩ := h
    obtain ⟨Di,h⟩ := h
    obtain ⟨Dj,h⟩ := h
    obtain ⟨Dk,h⟩ := h
    obtain ⟨Dl,h⟩ := h
    obtain ⟨Dm,h⟩ := h
    obtain ⟨Dn,h⟩ := h
    obtain ⟨Do,h⟩ := h
    obtain ⟨Dp,h⟩ := h
    obtain ⟨Dq,h⟩ := h
    obtain ⟨Dr,h⟩ := h
    obtain ⟨Ds,h⟩ := h
    obtain ⟨Dt,h⟩ := h
    obtain ⟨Du,h⟩ := h
    obtain ⟨Dv,h⟩ := h
    obtain ⟨Dw,h⟩ := h
    obtain ⟨Dx,h⟩ := h
    obtain ⟨Dy,h⟩ := h
    obtain ⟨Dz,h⟩ := h
    obtain ⟨E0,h⟩ := h
    obtain ⟨E1,h⟩ := h
    obtain ⟨E2,h⟩ := h
    obtain ⟨E3,h⟩ := h
    obtain ⟨E4,h⟩ := h
    obtain ⟨E5,h⟩ := h
    obtain ⟨E6,h⟩ := h
    obtain ⟨E7,h⟩ := h
    obtain ⟨E8,h⟩ := h
    obtain ⟨E9,h⟩ := h
    obtain ⟨j,n,⟨Hn,hn1,hn2⟩,hp,HEr,ha⟩ := h
    subst ha
    have HP := hidMk hp
    have c1 := (H10.out.pb hp H10.out.lt hne).at_ 1 (.int .i64 s2) rfl
    have wy : IntKind.i64.wrap (n + 1) = n + 1 := IntWalk.i64_in _ (by omega)
    have HWY := hidMk wy
    clear hp wy
    by_cases hle : n ≤ s2
    · have hat := nums_at (a := s1) (b := s2) (j := j) (by have := Hn.out; omega)
      rw [← Hn.out] at hat
      have hps := hidMk (pre_succ (F := (fun n => allT J [] t (acc ++ [n]))) hat)
      have hpl := hidMk (pre_len (fun n => allT J [] t (acc ++ [n])) (nums s1 s2) (j + 1))
      clear hat
      have H1 := hidMk (show s1 ≤ n by have := Hn.out; omega)
      have hcap2 : (e.notes J (((nums s1 s2).take j).flatMap (fun n => allT J [] t (acc ++ [n])))).truths + ((allT J [] t (acc ++ [n])).length : Int) ≤ capN := by
        rw [notes_truths]
        have h3 := hpl.out
        rw [hps.out,List.length_append,← hstep.out] at h3
        have h4 := HCAP.out
        (try simp only at h3)
        omega
      have HCAP2 := hidMk hcap2
      have hat : AT w0 wr bx g6 g7 J sa sn sc t la l aa acc := HS.out.pb HP.out
      have HAT := hidMk hat
      clear hcap2 hat
      go_wp2_with fail
      refine alr7 HAT.out HEr.out (En.Ok.notes _ HO.out) (HREC.out n H1.out hle) HCAP2.out HTB.out HAN.out han4 ?_
      intro w' hp' hE'
      have HP2 := hidMk (HP.out.trans hp' HP.out.size)
      have HE2 := hidMk hE'
      clear hp' hE' c1
      intros
      have wy := HWY.out
      go_wp2_with fail
      refine ⟨⟨_,_,_,_,_,_,_,_,_,_,_,_,_,_,_,_,_,_,_,_,_,_,_,_,_,_,_,_,_,_,_,_,_,_,_,_,_,_,_,_,_,_,_,_,_,_,_,_,_,_,_,_,_,_,_,_,_,_,_,_,_,_,_,_,_,_,_,_,_,_,_,_,_,_,_,_,_,_,_,_,_,_,_,_,_,_,_,_,_,_,_,_,_,_,_,_,_,_,_,_,_,_,_,_,_,_,_,_,_,_,_,_,_,_,_,_,_,_,_,_,_,_,j + 1,n + 1,⟨hidMk (by rw [Hn.out]; push_cast; omega),by omega,by omega⟩,HP2.out,hidMk ?_,rfl⟩,by simp [intOf]; omega⟩
      rw [hps.out,notes_append]
      exact HE2.out
    · have hall := hidMk (pre_all (F := (fun n => allT J [] t (acc ++ [n]))) (a := s1) (b := s2) (j := j) (by have := Hn.out; omega))
      have HEF : Hid (Bk wr bx 54 (enC (e.notes J (allT J [] t acc)))) := by
        have h3 := HEr.out
        rw [hall.out,← hstep.out] at h3
        exact hidMk h3
      clear HEr
      go_wp2_with fail
      exact HQ.out _ HEF.out (HS.out.pb HP.out).b0 _ _ _ _ _ _ _ _ _ _ _ _ _ _ _ _ _ _ _ _ _ _ _ _ _ _ _ _ _ _ _ _ _ _ _ _ _ _ _ _ _ _ _ _ _ _ _ _ _ _ _ _ _ _ _ _ _ _ _ _ _ _ _ _ _ _ _ _ _ _ _ _ _ _ _ _ _ _ _ _ _ _ _ _ _ _ _ _ _ _ _ _ _ _ _ _ _ _ _ _ _ _ _ _ _ _ _ _ _ _ _ _ _ _ _ _ _ _ _ _ _ _ _ _ _ _ _ _ 

set_option maxHeartbeats 9000000 in
set_option maxRecDepth 1000000 in
theorem all_nil1 {J : Jb} {sa : Option Addr} {sn sc : Nat} (hsn : sn = J.sh.length ∧ sn ≤ 4) (hss : ∀ s ∈ J.sh,-60 ≤ s.1 ∧ s.1 ≤ 60 ∧ -60 ≤ s.2 ∧ s.2 ≤ 60) (acc : List Int) (hal : acc.length ≤ J.sh.length) (hac : ∀ x ∈ acc,-100 ≤ x ∧ x ≤ 100)
    (hrec : ∀ s,J.sh[acc.length]? = some s → ∀ n,s.1 ≤ n → n ≤ s.2 → ALLc J sa sn sc [] (acc ++ [n])) : ALLc J sa sn sc [] acc := by
  intro t e bx la ln lc aa an ac w hE ho hcap htb hln hls hlo han has hao hrg hro
  obtain rfl : ln = 0 := hln.1
  have hl := hE.lt
  have q : Below w.heap.size w ((w.alloc (.cells (jobC J (.slice sa sn sc)) 30)).alloc (.cells #[.int .i64 t.p,.int .i64 t.t,.int .i64 t.r] 57)) := ((Below.refl _ _).alloc (Nat.le_refl _) _).alloc (by simp) _
  have hs : AT w ((w.alloc (.cells (jobC J (.slice sa sn sc)) 30)).alloc (.cells #[.int .i64 t.p,.int .i64 t.t,.int .i64 t.r] 57)) bx w.heap.size (w.heap.size + 1) J sa sn sc t la [] aa acc :=
    ⟨PB.of q,hl,(Bk.new _ _ _).alloc _,Bk.newAt _ _ _ _ (by simp),hrg,hls,has,⟨Nat.le_refl _,by omega⟩,hro,hlo,hao⟩
  have HS := hidMk hs
  have HE := hidMk (hE.below q hl)
  have HO := hidMk ho
  have HCAP := hidMk hcap
  have HTB := hidMk htb
  have HAN := hidMk han
  have HSN := hidMk hsn
  have HREC := hidMk hrec
  have HAC := hidMk hac
  have HSS := hidMk hss
  have HAL := hidMk hal
  have han4 : an ≤ 4 := by omega
  clear hs hE hcap htb hln hls hlo han has hao hrg hro q hsn hrec hac hss ho hal
  go_enter Try.func24,Try.ntmps24
  show Code.wp Try.prog albody (QAL bx (e.notes J (allT J [] t acc)) w) _ _
  rw [albody_eq]
  go_wp2_with fail
  generalize hG7 : w.heap.size + 1 = g7 at HS ⊢
  generalize hG6 : w.heap.size = g6 at HS ⊢
  generalize hW1 : ((w.alloc (.cells (jobC J (.slice sa sn sc)) 30)).alloc (.cells #[.int .i64 t.p,.int .i64 t.t,.int .i64 t.r] 57)) = w1 at HS HE ⊢
  clear hG6 hG7 hW1 hl
  rw [alrest1_cut]
  refine wp_seq_k fun K1 hK1 => ?_
  go_wp2_with fail
  rw [alX_eq]
  have d15 := HS.out.job.at_ 15 (.slice sa sn sc) rfl
  have fin : ∀ (w' : World),Bk w' bx 54 (enC (e.notes J (allT J [] t acc))) → PB bx w.heap.size w w' → ∀ (u0 u1 u2 u3 u4 u5 u6 u7 u8 u9 A0 A1 A2 A3 A4 A5 A6 A7 A8 A9 Aa Ab Ac Ad Ae Af Ag Ah Ai Aj Ak Al Am An Ao Ap Aq Ar As At Au Av Aw Ax Ay Az C0 C1 C2 C3 C4 C5 C6 C7 C8 C9 Ca Cb Cc Cd Ce Cf Cg Ch Ci Cj Ck Cl Cm Cn Co Cp Cq Cr Cs Ct Cu Cv Cw Cx Cy Cz D0 D1 D2 D3 D4 D5 D6 D7 D8 D9 Da Db Dc Dd De Df Dg Dh Di Dj Dk Dl Dm Dn Do Dp Dq Dr Ds Dt Du Dv Dw Dx Dy Dz E0 E1 E2 E3 E4 E5 E6 E7 E8 E9 : Value),Exit.then K1 (QAL bx (e.notes J (allT J [] t acc)) w) .ret ⟨#[u0,u1,u2,u3,u4,u5,u6,u7,u8,u9,A0,A1,A2,A3,A4,A5,A6,A7,A8,A9,Aa,Ab,Ac,Ad,Ae,Af,Ag,Ah,Ai,Aj,Ak,Al,Am,An,Ao,Ap,Aq,Ar,As,At,Au,Av,Aw,Ax,Ay,Az,C0,C1,C2,C3,C4,C5,C6,C7,C8,C9,Ca,Cb,Cc,Cd,Ce,Cf,Cg,Ch,Ci,Cj,Ck,Cl,Cm,Cn,Co,Cp,Cq,Cr,Cs,Ct,Cu,Cv,Cw,Cx,Cy,Cz,D0,D1,D2,D3,D4,D5,D6,D7,D8,D9,Da,Db,Dc,Dd,De,Df,Dg,Dh,Di,Dj,Dk,Dl,Dm,Dn,Do,Dp,Dq,Dr,Ds,Dt,Du,Dv,Dw,Dx,Dy,Dz,E0,E1,E2,E3,E4,E5,E6,E7,E8,E9],[]⟩ w' := by
    intro w' h1 h2
    intros
    show QAL bx (e.notes J (allT J [] t acc)) w .ret _ _
    unfold QAL
    exact bodyPost_ret (v := .tuple #[]) (by simp [results,Try.results24,go_sem]) rfl ⟨rfl,h1,h2⟩
  have HF := hidMk fin
  clear fin
  by_cases hlt : an < sn
  · have hll : acc.length < J.sh.length := by rw [← HAN.out,← HSN.out.1]; exact hlt
    obtain ⟨s,hsk⟩ : ∃ s,J.sh[acc.length]? = some s := ⟨_,List.getElem?_eq_getElem hll⟩
    clear hll
    have hsb := HSS.out s (List.mem_of_getElem? hsk)
    have HSK := hidMk hsk
    have HSB := hidMk hsb
    clear hsk hsb
    have hlt' : (an : Int) < (sn : Int) := by omega
    refine wp_seq_k fun K0 hK0 => ?_
    go_wp2_with fail
    exact alB_ok HS.out HE.out HO.out HSK.out HSB.out (HREC.out s HSK.out) HCAP.out HTB.out HAN.out han4 HSN.out HF.out
  · have hlt' : ¬ (an : Int) < (sn : Int) := by omega
    have hend := allT_end (t := t) (acc := acc) (by rw [← HAN.out,← HSN.out.1]; omega : J.sh.length ≤ acc.length)
    rw [hend] at HF HCAP
    have HF2 : ∀ (w' : World),Bk w' bx 54 (enC (e.note J (t,if acc = [] then [0] else acc))) → PB bx w.heap.size w w' → ∀ (u0 u1 u2 u3 u4 u5 u6 u7 u8 u9 A0 A1 A2 A3 A4 A5 A6 A7 A8 A9 Aa Ab Ac Ad Ae Af Ag Ah Ai Aj Ak Al Am An Ao Ap Aq Ar As At Au Av Aw Ax Ay Az C0 C1 C2 C3 C4 C5 C6 C7 C8 C9 Ca Cb Cc Cd Ce Cf Cg Ch Ci Cj Ck Cl Cm Cn Co Cp Cq Cr Cs Ct Cu Cv Cw Cx Cy Cz D0 D1 D2 D3 D4 D5 D6 D7 D8 D9 Da Db Dc Dd De Df Dg Dh Di Dj Dk Dl Dm Dn Do Dp Dq Dr Ds Dt Du Dv Dw Dx Dy Dz E0 E1 E2 E3 E4 E5 E6 E7 E8 E9 : Value),Exit.then K1 (QAL bx (e.notes J (allT J [] t acc)) w) .ret ⟨#[u0,u1,u2,u3,u4,u5,u6,u7,u8,u9,A0,A1,A2,A3,A4,A5,A6,A7,A8,A9,Aa,Ab,Ac,Ad,Ae,Af,Ag,Ah,Ai,Aj,Ak,Al,Am,An,Ao,Ap,Aq,Ar,As,At,Au,Av,Aw,Ax,Ay,Az,C0,C1,C2,C3,C4,C5,C6,C7,C8,C9,Ca,Cb,Cc,Cd,Ce,Cf,Cg,Ch,Ci,Cj,Ck,Cl,Cm,Cn,Co,Cp,Cq,Cr,Cs,Ct,Cu,Cv,Cw,Cx,Cy,Cz,D0,D1,D2,D3,D4,D5,D6,D7,D8,D9,Da,Db,Dc,Dd,De,Df,Dg,Dh,Di,Dj,Dk,Dl,Dm,Dn,Do,Dp,Dq,Dr,Ds,Dt,Du,Dv,Dw,Dx,Dy,Dz,E0,E1,E2,E3,E4,E5,E6,E7,E8,E9],[]⟩ w' := by
      rw [hend]
      exact HF.out
    have HF3 := hidMk HF2
    clear hend HF HF2
    go_wp2_with fail
    exact alZ_ok HS.out HE.out HO.out (by have := HCAP.out; simp only [List.length_cons,List.length_nil] at this; omega) HTB.out ⟨HAN.out,han4⟩ HAC.out HF3.out
theorem all_nil {J : Jb} {sa : Option Addr} {sn sc : Nat} (hsn : sn = J.sh.length ∧ sn ≤ 4) (hss : ∀ s ∈ J.sh,-60 ≤ s.1 ∧ s.1 ≤ 60 ∧ -60 ≤ s.2 ∧ s.2 ≤ 60) : ∀ (k : Nat) (acc : List Int),acc.length + k = J.sh.length → (∀ x ∈ acc,-100 ≤ x ∧ x ≤ 100) → ALLc J sa sn sc [] acc
  | 0,acc,h,hac => all_nil1 hsn hss acc (by omega) hac fun s hs => by have := (List.getElem?_eq_some_iff.1 hs).1; omega
  | k + 1,acc,h,hac => all_nil1 hsn hss acc (by omega) hac fun s hs n h1 h2 => all_nil hsn hss k (acc ++ [n]) (by rw [List.length_append,List.length_cons,List.length_nil]; omega) fun x hx => by
      rcases List.mem_append.1 hx with hx | hx
      · exact hac x hx
      · have hm := hss s (List.mem_of_getElem? hs)
        rw [List.mem_singleton.1 hx]
        omega
end Go.Proofs.Ytolabejbhaeddaa
