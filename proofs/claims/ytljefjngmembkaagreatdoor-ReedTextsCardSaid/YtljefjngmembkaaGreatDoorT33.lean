/- Part 33 of the proof: RtN, RtO, RtP. -/
import Derived.Test.YtljefjngmembkaaGreatDoorT31
import Derived.Test.YtljefjngmembkaaGreatDoorT32
namespace Go.Proofs.YtljefjngmembkaaGreatDoor
set_option linter.all false
open Go.RowKit Go.Lib Go.Tx
def wTx (J : Jb) : ByteArray := if J.check = 0 then bt (textJ J) else bt []
theorem wTx_size (J : Jb) : (wTx J).size ≤ 300 := by
  unfold wTx
  split
  · rename_i h
    exact text_short (check_full h)
  · exact Nat.zero_le _
theorem write_any (J : Jb) (a : Option Addr) (n c : Nat) (w : World) (hn : n = J.sh.length) (hm : n ≤ 9223372036854775807) (h : Rg w w.heap.size a J.sh) (hl : LibW w) :
    Calls Tryz.prog 8 #[.agg (jobC J (.slice a n c))] w fun e w' => e = .returned (.tuple #[.string (wTx J),.int .i64 J.check]) ∧ Below w.heap.size w w' := by
  unfold wTx
  by_cases hj : J.check = 0
  · rw [if_pos hj,hj]
    exact write_ok J a n c w hj hn h hl
  · rw [if_neg hj]
    exact write_bad J a n c w hj hn hm h
theorem rwrite_any (J : Jb) (a : Option Addr) (n c : Nat) (w : World) (hn : n = J.sh.length) (hm : n ≤ 9223372036854775807) (h : Rg w w.heap.size a J.sh) (hl : LibW w) :
    Calls Tryz.prog 9 #[.agg (jobC J (.slice a n c))] w fun e w' => e = .returned (.tuple #[.string (wTx J),.int .i64 J.check]) ∧ Below w.heap.size w w' := by
  unfold wTx
  by_cases hj : J.check = 0
  · rw [if_pos hj,hj]
    exact rwrite_ok J a n c w hj hn h hl
  · rw [if_neg hj]
    exact rwrite_bad J a n c w hj hn hm h
theorem own_grown {w w' : World} {B n : Nat} {row : Option Nat} {v : Value} {xs : List Value} (h : w.ownsRow B 23 2 v n xs) (hg : w.grownBy w' row) (hr : ∀ q,row = some q → ∃ cur,w.heap[q]? = some (.cells cur 9 (0,0))) : w'.ownsRow B 23 2 v n xs :=
  ⟨h.1,h.2.imp id fun ⟨g,cap,cur,a,b,c,d⟩ => ⟨g,cap,cur,a,b,(hg.block g (Array.getElem?_eq_some_iff.1 c).1 (fun e => by
    obtain ⟨cu,hc⟩ := hr g e.symm
    rw [hc] at c
    cases c)).trans c,d⟩⟩
theorem own_tag {w : World} {B n : Nat} {v : Value} {xs : List Value} (h : w.ownsRow B 9 1 v n xs) : ∀ q,v.ownBlock = some q → ∃ cur,w.heap[q]? = some (.cells cur 9 (0,0)) := by
  intro q e
  rcases h.2 with ⟨rfl,_⟩ | ⟨g,cap,cur,rfl,_,h2,_⟩
  · cases e
  · cases e
    exact ⟨cur,h2⟩
structure LS (w0 w : World) (g : Nat) (J : Jb) (a : Option Addr) (n c : Nat) (M : Jb) (ma : Option Addr) (mn mc : Nat) (v : Value) (L : List ByteArray) : Prop where
  b0 : Below w0.heap.size w0 w
  arr : Bk w g 30 (([⟨J,a,n,c⟩,⟨M,ma,mn,mc⟩] : List Ent).flatMap fun e => e.V.toList).toArray
  ja : Rg w0 w0.heap.size a J.sh
  mo : w.ownsRow w0.heap.size 23 2 (.slice ma mn mc) mn (rgCells M.sh)
  txt : w.ownsRow w0.heap.size 9 1 v L.length (L.map Value.string)
theorem LS.next {w0 w w' : World} {g : Nat} {J M : Jb} {a ma : Option Addr} {n c mn mc : Nat} {v : Value} {L : List ByteArray} (h : LS w0 w g J a n c M ma mn mc v L) (hb : Below w.heap.size w w') : LS w0 w' g J a n c M ma mn mc v L :=
  ⟨h.b0.trans (hb.mono h.b0.size),h.arr.below hb h.arr.lt,h.ja,own_up h.mo hb,own_up h.txt hb⟩
theorem LS.app {w0 w w' : World} {g : Nat} {J M : Jb} {a ma : Option Addr} {n c mn mc : Nat} {v : Value} {L : List ByteArray} {v' : Value} {x : ByteArray} {o : Obj} (h : LS w0 w g J a n c M ma mn mc v L) (hg : (w.alloc o).grownBy w' v.ownBlock) (ho : w'.ownsRow w0.heap.size 9 1 v' (L.length + 1) (L.map Value.string ++ [Value.string x])) : LS w0 w' g J a n c M ma mn mc v' (L ++ [x]) := by
  have al_ : Below w.heap.size w (w.alloc o) := (Below.refl _ _).alloc (Nat.le_refl _) _
  have h' := h.next al_
  have ht := own_tag h'.txt
  refine ⟨h'.b0.grown hg h'.b0.size (fun k e => (own_block' h'.txt k e).1),h'.arr.grown hg ?_,h.ja,own_grown h'.mo hg ht,?_⟩
  · intro e
    obtain ⟨cur,hc⟩ := ht g e.symm
    have := h'.arr
    unfold Bk at this
    rw [hc] at this
    cases this
  · rw [List.map_append,List.length_append]
    exact ho
theorem Rg.of_own {w : World} {B e n : Nat} {v : Value} {l : List R2} (h : w.ownsRow B e 2 v n (rgCells l)) : ∃ a c,v = .slice a n c ∧ n = l.length ∧ Rg w w.heap.size a l := by
  have hl := h.1
  rw [rgCells_len] at hl
  rcases h.2 with ⟨rfl,rfl⟩ | ⟨g,cap,cur,rfl,hb,hg,hnc,hcm,hcs,htk⟩
  · have e : l = [] := List.length_eq_zero_iff.1 (by omega)
    subst e
    exact ⟨none,0,rfl,rfl,Rg.nil _ _ _⟩
  · refine ⟨some ⟨g,0,none⟩,cap,rfl,by omega,fun k x hk => ⟨g,0,rfl,(Array.getElem?_eq_some_iff.1 hg).1,?_,?_⟩⟩
    all_goals
      have hkl := (List.getElem?_eq_some_iff.1 hk).1
      obtain ⟨h0,h1⟩ := rgCells_at l k x hk
    · rw [cell_of_row w g (0 + k * 2) cur e (0,0) hg,Nat.zero_add,← Array.getElem?_toList]
      have h2 : (cur.toList.take (n * 2))[k * 2]? = some (.int .i64 x.1) := by rw [htk]; exact h0
      rw [List.getElem?_take_of_lt (by omega)] at h2
      exact h2
    · rw [cell_of_row w g (0 + k * 2 + 1) cur e (0,0) hg,Nat.zero_add,← Array.getElem?_toList]
      have h2 : (cur.toList.take (n * 2))[k * 2 + 1]? = some (.int .i64 x.2) := by rw [htk]; exact h1
      rw [List.getElem?_take_of_lt (by omega)] at h2
      exact h2
theorem wpList_load_midA {P : Program} {ops : Array Oper} {rest : List Oper} {op : Oper} {a : Act} {w : World} {Q : Exit → Act → World → Prop} (hgd : op.guard = none) (ty : TypeId) (x : Operand) (ho : op.op = .load ty x)
    (b o : Nat) (hx : a.eval x = .pointer (some ⟨b,o,none⟩)) (cs : Array Value) (d : TypeDesc) (hc : w.rangeAt b o cs.toList)
    (hu : P.underlying ty = some d) (hd : d.isRow = true) (hi : (P.info? ty).map (·.size) = some cs.size)
    (h : wpList P ops Q rest (a.put op.dst (.agg cs)) w) : wpList P ops Q (op :: rest) a w :=
  wpList_load_mid hgd ty x ho b o hx cs.toList d hc hu hd (by rw [Array.length_toList]; exact hi) (by rw [Array.toArray_toList]; exact h)
theorem LS.ent {w0 w : World} {g : Nat} {J M : Jb} {a ma : Option Addr} {n c mn mc : Nat} {v : Value} {L : List ByteArray} (h : LS w0 w g J a n c M ma mn mc v L) (hn : n = J.sh.length) (hm : mn = M.sh.length) {k : Nat} {e : Ent} (he : ([⟨J,a,n,c⟩,⟨M,ma,mn,mc⟩] : List Ent)[k]? = some e) : w.rangeAt g (k * 18) (jobC e.J (.slice e.a e.n e.c)).toList ∧ e.n = e.J.sh.length ∧ Rg w w.heap.size e.a e.J.sh := by
  refine ⟨fun j v hv => ?_,?_⟩
  · have h1 := flat_at (fun e : Ent => e.V.toList) Ent.V_len _ k e he j v hv
    exact h.arr.at_ (k * 18 + j) v (by simpa using h1)
  · obtain ⟨a',c',e1,-,hr⟩ := Rg.of_own h.mo
    cases e1
    have hj := (h.ja.below h.b0).keep h.b0.size (fun _ _ => rfl)
    match k,he with
    | 0, he => obtain rfl : (⟨J,a,n,c⟩ : Ent) = e := by simpa using he
               exact ⟨hn,hj⟩
    | 1, he => obtain rfl : (⟨M,ma,mn,mc⟩ : Ent) = e := by simpa using he
               exact ⟨hm,hr⟩
def LI (w0 : World) (X : ByteArray) (at_ kind by_ : Int) (g : Nat) (J : Jb) (a : Option Addr) (n c : Nat) (M : Jb) (ma : Option Addr) (mn mc : Nat) (a_ : Act) (wr : World) : Prop := ∃ (u0 u1 u2 u6 u7 u8 u9 A0 A1 A2 A6 A7 A8 A9 Aa Ab Ac Ad Ae Af Ag Ah Ai Aj Ak Al Am An Ao Ap Aq Ar As At Au Av Aw Ax Ay Az C0 C1 C2 C3 C4 C5 C6 C7 C8 C9 Ca Cb Cc Cd Ce Cf Cg Ch Ci Cj Ck Cl Cm Cn Co Cp Cq Cr Cs Ct Cu Cv Cw Cx Cy Cz D0 D1 D2 D3 D4 D5 D6 D7 D8 D9 Da Db Dc Dd De Df Dg Dh Di Dj Dk Dl Dm Dn Do Dp Dq Dr Ds Dt Du Dv Dw Dx Dy Dz E0 E1 E2 E3 E4 E5 E6 E7 E8 E9 Ea Eb Ec Ed : Value) (k : Nat) (v : Value) (L : List ByteArray),k ≤ 2 ∧ Hid (LS w0 wr g J a n c M ma mn mc v (X :: L)) ∧ Hid (L.length = k) ∧ Hid (∀ x ∈ L,x.size ≤ 300) ∧ a_ = ⟨#[u0,u1,u2,(.int .i64 at_),(.int .i64 kind),(.int .u8 by_),u6,u7,u8,u9,A0,A1,A2,(.slice (some ⟨g,0,none⟩) 2 2),v,(.int .i64 (k : Int)),A6,A7,A8,A9,Aa,Ab,Ac,Ad,Ae,Af,Ag,Ah,Ai,Aj,Ak,Al,Am,An,Ao,Ap,Aq,Ar,As,At,Au,Av,Aw,Ax,Ay,Az,C0,C1,C2,C3,C4,C5,C6,C7,C8,C9,Ca,Cb,Cc,Cd,Ce,Cf,Cg,Ch,Ci,Cj,Ck,Cl,Cm,Cn,Co,Cp,Cq,Cr,Cs,Ct,Cu,Cv,Cw,Cx,Cy,Cz,D0,D1,D2,D3,D4,D5,D6,D7,D8,D9,Da,Db,Dc,Dd,De,Df,Dg,Dh,Di,Dj,Dk,Dl,Dm,Dn,Do,Dp,Dq,Dr,Ds,Dt,Du,Dv,Dw,Dx,Dy,Dz,E0,E1,E2,E3,E4,E5,E6,E7,E8,E9,Ea,Eb,Ec,Ed],[]⟩
noncomputable def rlbody : Code := Tryz.f3.body.getD .skip
noncomputable def rlrest1 : Code := sndC rlbody
noncomputable def rlrest2 : Code := sndC rlrest1
noncomputable def rlrest3 : Code := sndC rlrest2
noncomputable def rlrest4 : Code := sndC rlrest3
noncomputable def rlrest5 : Code := sndC rlrest4
noncomputable def rlrest6 : Code := sndC rlrest5
set_option maxRecDepth 1000000 in
theorem rlbody_eq : rlbody = .seq (Code.region 0 #[⟨some 6,.box 30 (.tmp 0),0,"law.go:154",#[],none⟩,⟨some 12,.assign (.const (.bool false)),4,"law.go:154",#[],none⟩] false) rlrest1 := by kernel_rfl
set_option maxRecDepth 1000000 in
theorem rlrest1_eq : rlrest1 = .seq (.seq (Code.region 1 #[⟨some 27,.fieldAddr 30 (.tmp 6) 2,0,"law.go:155",#[],none⟩,⟨some 28,.load 28 (.tmp 27),28,"law.go:155",#[⟨0,.data⟩],none⟩,⟨some 29,.call { callee := .builtin .len,args := #[.tmp 28],argTypes := #[28] },3,"law.go:155",#[⟨1,.data⟩],none⟩,⟨some 30,.binOp .gtr 3 (.tmp 29) (.const (.int .i64 20)) 3,4,"law.go:155",#[⟨2,.data⟩],none⟩,⟨some 31,.move (.tmp 30),4,"law.go:155",#[⟨3,.data⟩],none⟩,⟨some 32,.move (.tmp 1),9,"law.go:155",#[⟨4,.guard⟩],some (4,false)⟩,⟨some 33,.call { callee := .builtin .len,args := #[.tmp 32],argTypes := #[9] },3,"law.go:155",#[⟨5,.data⟩,⟨4,.guard⟩],some (4,false)⟩,⟨some 34,.binOp .gtr 3 (.tmp 33) (.const (.int .i64 250)) 3,4,"law.go:155",#[⟨6,.data⟩,⟨4,.guard⟩],some (4,false)⟩,⟨some 35,.move (.tmp 34),4,"law.go:155",#[⟨7,.data⟩,⟨4,.chain⟩,⟨4,.guard⟩],some (4,false)⟩,⟨some 36,.move (.tmp 1),9,"law.go:155",#[⟨8,.guard⟩],some (8,true)⟩,⟨some 37,.call { callee := .builtin .len,args := #[.tmp 36],argTypes := #[9] },3,"law.go:155",#[⟨9,.data⟩,⟨8,.guard⟩],some (8,true)⟩,⟨some 38,.binOp .leq 3 (.tmp 37) (.const (.int .i64 300)) 3,4,"law.go:155",#[⟨10,.data⟩,⟨8,.guard⟩],some (8,true)⟩,⟨some 39,.pick (.tmp 35) (.tmp 38) (.const (.bool false)),4,"law.go:155",#[⟨8,.data⟩,⟨11,.data⟩,⟨4,.guard⟩],some (4,false)⟩,⟨some 40,.pick (.tmp 31) (.const (.bool true)) (.tmp 39),4,"law.go:155",#[⟨4,.data⟩,⟨12,.data⟩],none⟩] false) (.cond (.tmp 40) (.seq (Code.region 2 #[⟨some 41,.call { callee := .value (.func 5),args := #[],argTypes := #[] },4,"law.go:156",#[],none⟩,⟨some 12,.assign (.tmp 41),4,"law.go:156",#[⟨0,.data⟩,⟨0,.chain⟩,⟨0,.phase⟩],none⟩] false) .ret) .skip)) rlrest2 := by kernel_rfl
set_option maxRecDepth 1000000 in
theorem rlrest2_eq : rlrest2 = .seq (Code.region 3 #[⟨some 42,.load 30 (.tmp 6),30,"law.go:158",#[],none⟩,⟨some 43,.move (.tmp 2),31,"law.go:158",#[],none⟩,⟨some 44,.call { callee := .value (.func 7),args := #[.tmp 43],argTypes := #[31] },34,"law.go:158",#[⟨1,.data⟩],none⟩,⟨some 45,.call { callee := .value (.func 6),args := #[.tmp 44,.const (.int .i64 20),.const (.int .i64 5)],argTypes := #[34,3,3] },30,"law.go:158",#[⟨2,.data⟩,⟨2,.chain⟩],none⟩,⟨some 46,.buildSlice 36 2 #[(0,.tmp 42),(1,.tmp 45)],36,"law.go:158",#[⟨0,.data⟩,⟨3,.data⟩],none⟩,⟨some 47,.move (.tmp 1),9,"law.go:158",#[⟨7,.gcOnly .lateStores⟩],none⟩,⟨some 48,.buildSlice 37 1 #[(0,.tmp 47)],37,"law.go:158",#[⟨5,.data⟩,⟨7,.gcOnly .lateStores⟩],none⟩,⟨some 13,.assign (.tmp 46),36,"law.go:158",#[⟨4,.data⟩,⟨3,.chain⟩,⟨0,.phase⟩,⟨1,.phase⟩,⟨2,.phase⟩,⟨3,.phase⟩,⟨4,.phase⟩,⟨5,.textOnly .lateStores⟩,⟨6,.textOnly .lateStores⟩],none⟩,⟨some 14,.assign (.tmp 48),37,"law.go:158",#[⟨6,.data⟩,⟨7,.chain⟩,⟨0,.phase⟩,⟨1,.phase⟩,⟨2,.phase⟩,⟨3,.phase⟩,⟨4,.phase⟩,⟨5,.phase⟩,⟨6,.phase⟩,⟨7,.phase⟩],none⟩] true) rlrest3 := by kernel_rfl
set_option maxRecDepth 1000000 in
theorem rlrest3_eq : rlrest3 = .seq (.seq (Code.region 4 #[⟨some 15,.assign (.const (.int .i64 0)),3,"law.go:159",#[],none⟩] false) (.block 0 (.loop (.seq (.seq (Code.region 5 #[⟨some 49,.move (.tmp 15),3,"law.go:159",#[],none⟩,⟨some 50,.move (.tmp 13),36,"law.go:159",#[],none⟩,⟨some 51,.call { callee := .builtin .len,args := #[.tmp 50],argTypes := #[36] },3,"law.go:159",#[⟨1,.data⟩],none⟩,⟨some 52,.binOp .lss 3 (.tmp 49) (.tmp 51) 3,4,"law.go:159",#[⟨0,.data⟩,⟨2,.data⟩],none⟩] false) (.cond (.tmp 52) .skip (.exit 0))) (.seq (.block 1 (.seq (Code.region 7 #[⟨some 56,.move (.tmp 13),36,"law.go:160",#[],none⟩,⟨some 57,.move (.tmp 15),3,"law.go:160",#[],none⟩,⟨some 58,.indexAddr 36 (.tmp 56) (.tmp 57),0,"law.go:160",#[⟨0,.data⟩,⟨1,.data⟩],none⟩,⟨some 59,.load 30 (.tmp 58),30,"law.go:160",#[⟨2,.data⟩],none⟩,⟨some 60,.call { callee := .value (.func 8),args := #[.tmp 59],argTypes := #[30] },39,"law.go:160",#[⟨3,.data⟩],none⟩,⟨some 55,.move (.tmp 60),39,"law.go:160",#[⟨4,.data⟩],none⟩,⟨some 61,.extract (.tmp 55) 0,9,"law.go:160",#[⟨5,.data⟩],none⟩,⟨some 62,.extract (.tmp 55) 1,38,"law.go:160",#[⟨5,.data⟩,⟨8,.gcOnly .lateStores⟩],none⟩,⟨some 16,.assign (.tmp 61),9,"law.go:160",#[⟨6,.data⟩,⟨4,.chain⟩,⟨0,.phase⟩,⟨1,.phase⟩,⟨2,.phase⟩,⟨3,.phase⟩,⟨4,.phase⟩,⟨5,.phase⟩,⟨6,.phase⟩,⟨7,.textOnly .lateStores⟩],none⟩,⟨some 17,.assign (.tmp 62),38,"law.go:160",#[⟨7,.data⟩,⟨8,.chain⟩,⟨0,.phase⟩,⟨1,.phase⟩,⟨2,.phase⟩,⟨3,.phase⟩,⟨4,.phase⟩,⟨5,.phase⟩,⟨6,.phase⟩,⟨7,.phase⟩,⟨8,.phase⟩],none⟩] false) (.seq (Code.region 8 #[⟨some 64,.move (.tmp 13),36,"law.go:161",#[],none⟩,⟨some 65,.move (.tmp 15),3,"law.go:161",#[],none⟩,⟨some 66,.indexAddr 36 (.tmp 64) (.tmp 65),0,"law.go:161",#[⟨0,.data⟩,⟨1,.data⟩],none⟩,⟨some 67,.load 30 (.tmp 66),30,"law.go:161",#[⟨2,.data⟩],none⟩,⟨some 68,.call { callee := .value (.func 9),args := #[.tmp 67],argTypes := #[30] },39,"law.go:161",#[⟨3,.data⟩],none⟩,⟨some 63,.move (.tmp 68),39,"law.go:161",#[⟨4,.data⟩],none⟩,⟨some 69,.extract (.tmp 63) 0,9,"law.go:161",#[⟨5,.data⟩],none⟩,⟨some 70,.extract (.tmp 63) 1,38,"law.go:161",#[⟨5,.data⟩,⟨8,.gcOnly .lateStores⟩],none⟩,⟨some 18,.assign (.tmp 69),9,"law.go:161",#[⟨6,.data⟩,⟨4,.chain⟩,⟨0,.phase⟩,⟨1,.phase⟩,⟨2,.phase⟩,⟨3,.phase⟩,⟨4,.phase⟩,⟨5,.phase⟩,⟨6,.phase⟩,⟨7,.textOnly .lateStores⟩],none⟩,⟨some 19,.assign (.tmp 70),38,"law.go:161",#[⟨7,.data⟩,⟨8,.chain⟩,⟨0,.phase⟩,⟨1,.phase⟩,⟨2,.phase⟩,⟨3,.phase⟩,⟨4,.phase⟩,⟨5,.phase⟩,⟨6,.phase⟩,⟨7,.phase⟩,⟨8,.phase⟩],none⟩] false) (.seq (.seq (Code.region 9 #[⟨some 71,.move (.tmp 16),9,"law.go:162",#[],none⟩,⟨some 72,.move (.tmp 18),9,"law.go:162",#[],none⟩,⟨some 73,.binOp .neq 9 (.tmp 71) (.tmp 72) 9,4,"law.go:162",#[⟨0,.data⟩,⟨1,.data⟩],none⟩,⟨some 74,.move (.tmp 73),4,"law.go:162",#[⟨2,.data⟩],none⟩,⟨some 75,.move (.tmp 17),38,"law.go:162",#[⟨3,.guard⟩],some (3,false)⟩,⟨some 76,.move (.tmp 19),38,"law.go:162",#[⟨3,.guard⟩],some (3,false)⟩,⟨some 77,.binOp .neq 38 (.tmp 75) (.tmp 76) 38,4,"law.go:162",#[⟨4,.data⟩,⟨5,.data⟩,⟨3,.guard⟩],some (3,false)⟩,⟨some 78,.pick (.tmp 74) (.const (.bool true)) (.tmp 77),4,"law.go:162",#[⟨3,.data⟩,⟨6,.data⟩],none⟩] false) (.cond (.tmp 78) (.seq (Code.region 10 #[⟨some 12,.assign (.const (.bool false)),4,"law.go:163",#[],none⟩] false) .ret) .skip)) (Code.region 11 #[⟨some 79,.move (.tmp 14),37,"law.go:165",#[],none⟩,⟨some 80,.move (.tmp 18),9,"law.go:165",#[],none⟩,⟨some 81,.buildSlice 37 1 #[(0,.tmp 80)],37,"law.go:165",#[⟨1,.data⟩],none⟩,⟨some 82,.call { callee := .builtin .append,args := #[.tmp 79,.tmp 81],argTypes := #[37,37] },37,"law.go:165",#[⟨0,.data⟩,⟨2,.data⟩],none⟩,⟨some 14,.assign (.tmp 82),37,"law.go:165",#[⟨3,.data⟩,⟨3,.chain⟩,⟨0,.phase⟩,⟨1,.phase⟩,⟨2,.phase⟩,⟨3,.phase⟩],none⟩] false))))) (Code.region 6 #[⟨some 53,.move (.tmp 15),3,"law.go:159",#[],none⟩,⟨some 54,.binOp .add 3 (.tmp 53) (.const (.int .i64 1)) 3,3,"law.go:159",#[⟨0,.data⟩],none⟩,⟨some 15,.assign (.tmp 54),3,"law.go:159",#[⟨1,.data⟩,⟨0,.phase⟩,⟨1,.phase⟩],none⟩] false)))))) rlrest4 := by kernel_rfl
set_option maxRecDepth 1000000 in
theorem rlrest4_eq : rlrest4 = .seq (Code.region 12 #[⟨some 83,.move (.tmp 14),37,"law.go:167",#[],none⟩,⟨some 84,.move (.tmp 14),37,"law.go:167",#[],none⟩,⟨some 85,.indexAddr 37 (.tmp 84) (.const (.int .i64 2)),0,"law.go:167",#[⟨1,.data⟩],none⟩,⟨some 86,.load 9 (.tmp 85),9,"law.go:167",#[⟨2,.data⟩],none⟩,⟨some 87,.move (.tmp 3),3,"law.go:167",#[],none⟩,⟨some 88,.move (.tmp 4),3,"law.go:167",#[],none⟩,⟨some 89,.move (.tmp 5),5,"law.go:167",#[],none⟩,⟨some 90,.call { callee := .value (.func 10),args := #[.tmp 86,.tmp 87,.tmp 88,.tmp 89],argTypes := #[9,3,3,5] },9,"law.go:167",#[⟨3,.data⟩,⟨4,.data⟩,⟨5,.data⟩,⟨6,.data⟩],none⟩,⟨some 91,.buildSlice 37 1 #[(0,.tmp 90)],37,"law.go:167",#[⟨7,.data⟩],none⟩,⟨some 92,.call { callee := .builtin .append,args := #[.tmp 83,.tmp 91],argTypes := #[37,37] },37,"law.go:167",#[⟨0,.data⟩,⟨8,.data⟩,⟨7,.chain⟩],none⟩,⟨some 14,.assign (.tmp 92),37,"law.go:167",#[⟨9,.data⟩,⟨9,.chain⟩,⟨0,.phase⟩,⟨1,.phase⟩,⟨2,.phase⟩,⟨3,.phase⟩,⟨4,.phase⟩,⟨5,.phase⟩,⟨6,.phase⟩,⟨7,.phase⟩,⟨8,.phase⟩,⟨9,.phase⟩],none⟩] false) rlrest5 := by kernel_rfl
set_option maxRecDepth 1000000 in
theorem rlrest5_eq : rlrest5 = .seq (.seq (Code.region 13 #[⟨some 20,.assign (.const (.int .i64 0)),3,"law.go:168",#[],none⟩] false) (.block 2 (.loop (.seq (.seq (Code.region 14 #[⟨some 93,.move (.tmp 20),3,"law.go:168",#[],none⟩,⟨some 94,.move (.tmp 14),37,"law.go:168",#[],none⟩,⟨some 95,.call { callee := .builtin .len,args := #[.tmp 94],argTypes := #[37] },3,"law.go:168",#[⟨1,.data⟩],none⟩,⟨some 96,.binOp .lss 3 (.tmp 93) (.tmp 95) 3,4,"law.go:168",#[⟨0,.data⟩,⟨2,.data⟩],none⟩] false) (.cond (.tmp 96) .skip (.exit 2))) (.seq (.block 3 (.seq (Code.region 16 #[⟨some 100,.move (.tmp 14),37,"law.go:169",#[],none⟩,⟨some 101,.move (.tmp 20),3,"law.go:169",#[],none⟩,⟨some 102,.indexAddr 37 (.tmp 100) (.tmp 101),0,"law.go:169",#[⟨0,.data⟩,⟨1,.data⟩],none⟩,⟨some 103,.load 9 (.tmp 102),9,"law.go:169",#[⟨2,.data⟩],none⟩,⟨some 104,.call { callee := .value (.func 11),args := #[.tmp 103],argTypes := #[9] },42,"law.go:169",#[⟨3,.data⟩],none⟩,⟨some 99,.move (.tmp 104),42,"law.go:169",#[⟨4,.data⟩],none⟩,⟨some 105,.extract (.tmp 99) 0,30,"law.go:169",#[⟨5,.data⟩],none⟩,⟨some 106,.extract (.tmp 99) 1,3,"law.go:169",#[⟨5,.data⟩,⟨10,.gcOnly .lateStores⟩],none⟩,⟨some 107,.extract (.tmp 99) 2,38,"law.go:169",#[⟨5,.data⟩,⟨11,.gcOnly .lateStores⟩],none⟩,⟨some 21,.alloc 30,0,"law.go:169",#[],none⟩,⟨none,.store 30 (.tmp 21) (.tmp 105),0,"law.go:169",#[⟨9,.data⟩,⟨6,.data⟩,⟨4,.chain⟩,⟨0,.phase⟩,⟨1,.phase⟩,⟨2,.phase⟩,⟨3,.phase⟩,⟨4,.phase⟩,⟨5,.phase⟩,⟨6,.phase⟩,⟨7,.textOnly .lateStores⟩,⟨8,.textOnly .lateStores⟩,⟨9,.phase⟩],none⟩,⟨some 22,.assign (.tmp 106),3,"law.go:169",#[⟨7,.data⟩,⟨10,.chain⟩,⟨0,.phase⟩,⟨1,.phase⟩,⟨2,.phase⟩,⟨3,.phase⟩,⟨4,.phase⟩,⟨5,.phase⟩,⟨6,.phase⟩,⟨7,.phase⟩,⟨8,.textOnly .lateStores⟩,⟨9,.phase⟩,⟨10,.phase⟩],none⟩,⟨some 23,.assign (.tmp 107),38,"law.go:169",#[⟨8,.data⟩,⟨11,.chain⟩,⟨0,.phase⟩,⟨1,.phase⟩,⟨2,.phase⟩,⟨3,.phase⟩,⟨4,.phase⟩,⟨5,.phase⟩,⟨6,.phase⟩,⟨7,.phase⟩,⟨8,.phase⟩,⟨9,.phase⟩,⟨10,.phase⟩,⟨11,.phase⟩],none⟩] false) (.seq (Code.region 17 #[⟨some 109,.move (.tmp 14),37,"law.go:170",#[],none⟩,⟨some 110,.move (.tmp 20),3,"law.go:170",#[],none⟩,⟨some 111,.indexAddr 37 (.tmp 109) (.tmp 110),0,"law.go:170",#[⟨0,.data⟩,⟨1,.data⟩],none⟩,⟨some 112,.load 9 (.tmp 111),9,"law.go:170",#[⟨2,.data⟩],none⟩,⟨some 113,.call { callee := .value (.func 12),args := #[.tmp 112],argTypes := #[9] },42,"law.go:170",#[⟨3,.data⟩],none⟩,⟨some 108,.move (.tmp 113),42,"law.go:170",#[⟨4,.data⟩],none⟩,⟨some 114,.extract (.tmp 108) 0,30,"law.go:170",#[⟨5,.data⟩],none⟩,⟨some 115,.extract (.tmp 108) 1,3,"law.go:170",#[⟨5,.data⟩,⟨10,.gcOnly .lateStores⟩],none⟩,⟨some 116,.extract (.tmp 108) 2,38,"law.go:170",#[⟨5,.data⟩,⟨11,.gcOnly .lateStores⟩],none⟩,⟨some 24,.alloc 30,0,"law.go:170",#[],none⟩,⟨none,.store 30 (.tmp 24) (.tmp 114),0,"law.go:170",#[⟨9,.data⟩,⟨6,.data⟩,⟨4,.chain⟩,⟨0,.phase⟩,⟨1,.phase⟩,⟨2,.phase⟩,⟨3,.phase⟩,⟨4,.phase⟩,⟨5,.phase⟩,⟨6,.phase⟩,⟨7,.textOnly .lateStores⟩,⟨8,.textOnly .lateStores⟩,⟨9,.phase⟩],none⟩,⟨some 25,.assign (.tmp 115),3,"law.go:170",#[⟨7,.data⟩,⟨10,.chain⟩,⟨0,.phase⟩,⟨1,.phase⟩,⟨2,.phase⟩,⟨3,.phase⟩,⟨4,.phase⟩,⟨5,.phase⟩,⟨6,.phase⟩,⟨7,.phase⟩,⟨8,.textOnly .lateStores⟩,⟨9,.phase⟩,⟨10,.phase⟩],none⟩,⟨some 26,.assign (.tmp 116),38,"law.go:170",#[⟨8,.data⟩,⟨11,.chain⟩,⟨0,.phase⟩,⟨1,.phase⟩,⟨2,.phase⟩,⟨3,.phase⟩,⟨4,.phase⟩,⟨5,.phase⟩,⟨6,.phase⟩,⟨7,.phase⟩,⟨8,.phase⟩,⟨9,.phase⟩,⟨10,.phase⟩,⟨11,.phase⟩],none⟩] false) (.seq (Code.region 18 #[⟨some 117,.move (.tmp 22),3,"law.go:171",#[],none⟩,⟨some 118,.move (.tmp 25),3,"law.go:171",#[],none⟩,⟨some 119,.binOp .neq 3 (.tmp 117) (.tmp 118) 3,4,"law.go:171",#[⟨0,.data⟩,⟨1,.data⟩],none⟩,⟨some 120,.move (.tmp 119),4,"law.go:171",#[⟨2,.data⟩],none⟩,⟨some 121,.move (.tmp 23),38,"law.go:171",#[⟨3,.guard⟩],some (3,false)⟩,⟨some 122,.move (.tmp 26),38,"law.go:171",#[⟨3,.guard⟩],some (3,false)⟩,⟨some 123,.binOp .neq 38 (.tmp 121) (.tmp 122) 38,4,"law.go:171",#[⟨4,.data⟩,⟨5,.data⟩,⟨3,.guard⟩],some (3,false)⟩,⟨some 124,.pick (.tmp 120) (.const (.bool true)) (.tmp 123),4,"law.go:171",#[⟨3,.data⟩,⟨6,.data⟩],none⟩,⟨some 125,.move (.tmp 124),4,"law.go:171",#[⟨7,.data⟩,⟨3,.chain⟩],none⟩,⟨some 126,.load 30 (.tmp 21),30,"law.go:171",#[⟨8,.guard⟩],some (8,false)⟩,⟨some 127,.load 30 (.tmp 24),30,"law.go:171",#[⟨8,.guard⟩],some (8,false)⟩,⟨some 128,.call { callee := .value (.func 13),args := #[.tmp 126,.tmp 127],argTypes := #[30,30] },4,"law.go:171",#[⟨9,.data⟩,⟨10,.data⟩,⟨8,.chain⟩,⟨8,.guard⟩],some (8,false)⟩,⟨some 129,.unOp .not 4 (.tmp 128),4,"law.go:171",#[⟨11,.data⟩,⟨8,.guard⟩],some (8,false)⟩,⟨some 130,.pick (.tmp 125) (.const (.bool true)) (.tmp 129),4,"law.go:171",#[⟨8,.data⟩,⟨12,.data⟩],none⟩] false) (.cond (.tmp 130) (.seq (Code.region 19 #[⟨some 12,.assign (.const (.bool false)),4,"law.go:172",#[],none⟩] false) .ret) .skip))))) (Code.region 15 #[⟨some 97,.move (.tmp 20),3,"law.go:168",#[],none⟩,⟨some 98,.binOp .add 3 (.tmp 97) (.const (.int .i64 1)) 3,3,"law.go:168",#[⟨0,.data⟩],none⟩,⟨some 20,.assign (.tmp 98),3,"law.go:168",#[⟨1,.data⟩,⟨0,.phase⟩,⟨1,.phase⟩],none⟩] false)))))) rlrest6 := by kernel_rfl
set_option maxRecDepth 1000000 in
theorem rlrest6_eq : rlrest6 = .seq (Code.region 20 #[⟨some 131,.call { callee := .value (.func 5),args := #[],argTypes := #[] },4,"law.go:175",#[],none⟩,⟨some 12,.assign (.tmp 131),4,"law.go:175",#[⟨0,.data⟩,⟨0,.chain⟩,⟨0,.phase⟩],none⟩] false) .ret := by kernel_rfl

def R4 (w0 : World) (X : ByteArray) (at_ kind by_ : Int) : Prop := ∀ (u0 u1 u2 u6 u7 u8 u9 A0 A1 A2 A3 A5 A6 A7 A8 A9 Aa Ab Ac Ad Ae Af Ag Ah Ai Aj Ak Al Am An Ao Ap Aq Ar As At Au Av Aw Ax Ay Az C0 C1 C2 C3 C4 C5 C6 C7 C8 C9 Ca Cb Cc Cd Ce Cf Cg Ch Ci Cj Ck Cl Cm Cn Co Cp Cq Cr Cs Ct Cu Cv Cw Cx Cy Cz D0 D1 D2 D3 D4 D5 D6 D7 D8 D9 Da Db Dc Dd De Df Dg Dh Di Dj Dk Dl Dm Dn Do Dp Dq Dr Ds Dt Du Dv Dw Dx Dy Dz E0 E1 E2 E3 E4 E5 E6 E7 E8 E9 Ea Eb Ec Ed : Value) (w' : World) (v : Value) (L : List ByteArray),L.length = 2 → (∀ x ∈ L,x.size ≤ 300) → Below w0.heap.size w0 w' → w'.ownsRow w0.heap.size 9 1 v (X :: L).length ((X :: L).map Value.string) → Code.wp Tryz.prog rlrest4 (QRL w0) ⟨#[u0,u1,u2,(.int .i64 at_),(.int .i64 kind),(.int .u8 by_),u6,u7,u8,u9,A0,A1,A2,A3,v,A5,A6,A7,A8,A9,Aa,Ab,Ac,Ad,Ae,Af,Ag,Ah,Ai,Aj,Ak,Al,Am,An,Ao,Ap,Aq,Ar,As,At,Au,Av,Aw,Ax,Ay,Az,C0,C1,C2,C3,C4,C5,C6,C7,C8,C9,Ca,Cb,Cc,Cd,Ce,Cf,Cg,Ch,Ci,Cj,Ck,Cl,Cm,Cn,Co,Cp,Cq,Cr,Cs,Ct,Cu,Cv,Cw,Cx,Cy,Cz,D0,D1,D2,D3,D4,D5,D6,D7,D8,D9,Da,Db,Dc,Dd,De,Df,Dg,Dh,Di,Dj,Dk,Dl,Dm,Dn,Do,Dp,Dq,Dr,Ds,Dt,Du,Dv,Dw,Dx,Dy,Dz,E0,E1,E2,E3,E4,E5,E6,E7,E8,E9,Ea,Eb,Ec,Ed],[]⟩ w'
set_option maxHeartbeats 4000000 in
set_option maxRecDepth 1000000 in
theorem rlpart3 {w0 w : World} {X : ByteArray} {at_ kind by_ : Int} {g : Nat} {J M : Jb} {a ma : Option Addr} {n c mn mc : Nat} {v : Value} {u0 u1 u2 u6 u7 u8 u9 A0 A1 A2 A5 A6 A7 A8 A9 Aa Ab Ac Ad Ae Af Ag Ah Ai Aj Ak Al Am An Ao Ap Aq Ar As At Au Av Aw Ax Ay Az C0 C1 C2 C3 C4 C5 C6 C7 C8 C9 Ca Cb Cc Cd Ce Cf Cg Ch Ci Cj Ck Cl Cm Cn Co Cp Cq Cr Cs Ct Cu Cv Cw Cx Cy Cz D0 D1 D2 D3 D4 D5 D6 D7 D8 D9 Da Db Dc Dd De Df Dg Dh Di Dj Dk Dl Dm Dn Do Dp Dq Dr Ds Dt Du Dv Dw Dx Dy Dz E0 E1 E2 E3 E4 E5 E6 E7 E8 E9 Ea Eb Ec Ed : Value} (hl : LibW w0) (h4 : R4 w0 X at_ kind by_) (hs : LS w0 w g J a n c M ma mn mc v [X]) (hn : n = J.sh.length) (hn20 : n ≤ 20) (hm : mn = M.sh.length) (hm20 : mn ≤ 1000) : Code.wp Tryz.prog rlrest3 (QRL w0) ⟨#[u0,u1,u2,(.int .i64 at_),(.int .i64 kind),(.int .u8 by_),u6,u7,u8,u9,A0,A1,A2,(.slice (some ⟨g,0,none⟩) 2 2),v,A5,A6,A7,A8,A9,Aa,Ab,Ac,Ad,Ae,Af,Ag,Ah,Ai,Aj,Ak,Al,Am,An,Ao,Ap,Aq,Ar,As,At,Au,Av,Aw,Ax,Ay,Az,C0,C1,C2,C3,C4,C5,C6,C7,C8,C9,Ca,Cb,Cc,Cd,Ce,Cf,Cg,Ch,Ci,Cj,Ck,Cl,Cm,Cn,Co,Cp,Cq,Cr,Cs,Ct,Cu,Cv,Cw,Cx,Cy,Cz,D0,D1,D2,D3,D4,D5,D6,D7,D8,D9,Da,Db,Dc,Dd,De,Df,Dg,Dh,Di,Dj,Dk,Dl,Dm,Dn,Do,Dp,Dq,Dr,Ds,Dt,Du,Dv,Dw,Dx,Dy,Dz,E0,E1,E2,E3,E4,E5,E6,E7,E8,E9,Ea,Eb,Ec,Ed],[]⟩ w := by
  obtain ⟨ti,ti1,ti2,ti3,ti4⟩ := info_parts infoStr
  have Hi := hidMk ti1
  have Hz := hidMk ti2
  have Hs := hidMk ti3
  have Hb := hidMk ti4
  clear ti1 ti2 ti3 ti4
  have HL := hidMk hl
  have H4 := hidMk h4
  have HS := hidMk hs
  have HN := hidMk hn
  have HM := hidMk hm
  have HNM := hidMk (And.intro hn20 hm20)
  clear hl h4 hs hn hm hn20 hm20
  rw [rlrest3_eq]
  go_wp2_with fail
  refine wp_loop (LI w0 X at_ kind by_ g J a n c M ma mn mc) (fun a_ _ => 2 - (RowKit.intOf (a_.tmps.getD 15 undef)).toNat) ?_ ?_
  · unfold LI
    exact ⟨_,_,_,_,_,_,_,_,_,_,_,_,_,_,_,_,_,_,_,_,_,_,_,_,_,_,_,_,_,_,_,_,_,_,_,_,_,_,_,_,_,_,_,_,_,_,_,_,_,_,_,_,_,_,_,_,_,_,_,_,_,_,_,_,_,_,_,_,_,_,_,_,_,_,_,_,_,_,_,_,_,_,_,_,_,_,_,_,_,_,_,_,_,_,_,_,_,_,_,_,_,_,_,_,_,_,_,_,_,_,_,_,_,_,_,_,_,_,_,_,_,_,_,_,_,_,0,v,[],by omega,HS,hidMk rfl,hidMk (by simp),rfl⟩
  · intro a_ wr hx
    unfold LI at hx
    obtain ⟨u0,hx⟩ := hx
    obtain ⟨u1,hx⟩ := hx
    obtain ⟨u2,hx⟩ := hx
    obtain ⟨u6,hx⟩ := hx
    obtain ⟨u7,hx⟩ := hx
    obtain ⟨u8,hx⟩ := hx
    obtain ⟨u9,hx⟩ := hx
    obtain ⟨A0,hx⟩ := hx
    obtain ⟨A1,hx⟩ := hx
    obtain ⟨A2,hx⟩ := hx
    obtain ⟨A6,hx⟩ := hx
    obtain ⟨A7,hx⟩ := hx
    obtain ⟨A8,hx⟩ := hx
    obtain ⟨A9,hx⟩ := hx
    obtain ⟨Aa,hx⟩ := hx
    obtain ⟨Ab,hx⟩ := hx
    obtain ⟨Ac,hx⟩ := hx
    obtain ⟨Ad,hx⟩ := hx
    obtain ⟨Ae,hx⟩ := hx
    obtain ⟨Af,hx⟩ := hx
    obtain ⟨Ag,hx⟩ := hx
    obtain ⟨Ah,hx⟩ := hx
    obtain ⟨Ai,hx⟩ := hx
    obtain ⟨Aj,hx⟩ := hx
    obtain ⟨Ak,hx⟩ := hx
    obtain ⟨Al,hx⟩ := hx
    obtain ⟨Am,hx⟩ := hx
    obtain ⟨An,hx⟩ := hx
    obtain ⟨Ao,hx⟩ := hx
    obtain ⟨Ap,hx⟩ := hx
    obtain ⟨Aq,hx⟩ := hx
    obtain ⟨Ar,hx⟩ := hx
    obtain ⟨As,hx⟩ := hx
    obtain ⟨At,hx⟩ := hx
    obtain ⟨Au,hx⟩ := hx
    obtain ⟨Av,hx⟩ := hx
    obtain ⟨Aw,hx⟩ := hx
    obtain ⟨Ax,hx⟩ := hx
    obtain ⟨Ay,hx⟩ := hx
    obtain ⟨Az,hx⟩ := hx
    obtain ⟨C0,hx⟩ := hx
    obtain ⟨C1,hx⟩ := hx
    obtain ⟨C2,hx⟩ := hx
    obtain ⟨C3,hx⟩ := hx
    obtain ⟨C4,hx⟩ := hx
    obtain ⟨C5,hx⟩ := hx
    obtain ⟨C6,hx⟩ := hx
    obtain ⟨C7,hx⟩ := hx
    obtain ⟨C8,hx⟩ := hx
    obtain ⟨C9,hx⟩ := hx
    obtain ⟨Ca,hx⟩ := hx
    obtain ⟨Cb,hx⟩ := hx
    obtain ⟨Cc,hx⟩ := hx
    obtain ⟨Cd,hx⟩ := hx
    obtain ⟨Ce,hx⟩ := hx
    obtain ⟨Cf,hx⟩ := hx
    obtain ⟨Cg,hx⟩ := hx
    obtain ⟨Ch,hx⟩ := hx
    obtain ⟨Ci,hx⟩ := hx
    obtain ⟨Cj,hx⟩ := hx
    obtain ⟨Ck,hx⟩ := hx
    obtain ⟨Cl,hx⟩ := hx
    obtain ⟨Cm,hx⟩ := hx
    obtain ⟨Cn,hx⟩ := hx
    obtain ⟨Co,hx⟩ := hx
    obtain ⟨Cp,hx⟩ := hx
    obtain ⟨Cq,hx⟩ := hx
    obtain ⟨Cr,hx⟩ := hx
    obtain ⟨Cs,hx⟩ := hx
    obtain ⟨Ct,hx⟩ := hx
    obtain ⟨Cu,hx⟩ := hx
    obtain ⟨Cv,hx⟩ := hx
    obtain ⟨Cw,hx⟩ := hx
    obtain ⟨Cx,hx⟩ := hx
    obtain ⟨Cy,hx⟩ := hx
    obtain ⟨Cz,hx⟩ := hx
    obtain ⟨D0,hx⟩ := hx
    obtain ⟨D1,hx⟩ := hx
    obtain ⟨D2,hx⟩ := hx
    obtain ⟨D3,hx⟩ := hx
    obtain ⟨D4,hx⟩ := hx
    obtain ⟨D5,hx⟩ := hx
    obtain ⟨D6,hx⟩ := hx
    obtain ⟨D7,hx⟩ := hx
    obtain ⟨D8,hx⟩ := hx
    obtain ⟨D9,hx⟩ := hx
    obtain ⟨Da,hx⟩ := hx
    obtain ⟨Db,hx⟩ := hx
    obtain ⟨Dc,hx⟩ := hx
    obtain ⟨Dd,hx⟩ := hx
    obtain ⟨De,hx⟩ := hx
    obtain ⟨Df,hx⟩ := hx
    obtain ⟨Dg,hx⟩ := hx
    obtain ⟨Dh,hx⟩ := hx
    obtain ⟨Di,hx⟩ := hx
    obtain ⟨Dj,hx⟩ := hx
    obtain ⟨Dk,hx⟩ := hx
    obtain ⟨Dl,hx⟩ := hx
    obtain ⟨Dm,hx⟩ := hx
    obtain ⟨Dn,hx⟩ := hx
    obtain ⟨Do,hx⟩ := hx
    obtain ⟨Dp,hx⟩ := hx
    obtain ⟨Dq,hx⟩ := hx
    obtain ⟨Dr,hx⟩ := hx
    obtain ⟨Ds,hx⟩ := hx
    obtain ⟨Dt,hx⟩ := hx
    obtain ⟨Du,hx⟩ := hx
    obtain ⟨Dv,hx⟩ := hx
    obtain ⟨Dw,hx⟩ := hx
    obtain ⟨Dx,hx⟩ := hx
    obtain ⟨Dy,hx⟩ := hx
    obtain ⟨Dz,hx⟩ := hx
    obtain ⟨E0,hx⟩ := hx
    obtain ⟨E1,hx⟩ := hx
    obtain ⟨E2,hx⟩ := hx
    obtain ⟨E3,hx⟩ := hx
    obtain ⟨E4,hx⟩ := hx
    obtain ⟨E5,hx⟩ := hx
    obtain ⟨E6,hx⟩ := hx
    obtain ⟨E7,hx⟩ := hx
    obtain ⟨E8,hx⟩ := hx
    obtain ⟨E9,hx⟩ := hx
    obtain ⟨Ea,hx⟩ := hx
    obtain ⟨Eb,hx⟩ := hx
    obtain ⟨Ec,hx⟩ := hx
    obtain ⟨Ed,hx⟩ := hx
    obtain ⟨k,v,L,hk2,HS,HLK,HLZ,ha⟩ := hx
    subst ha
    have HWY := hidMk (show IntKind.i64.wrap ((k : Int) + 1) = (k : Int) + 1 from IntWalk.i64_in _ (by omega))
    have e1 : ((k + 1 : Nat) : Int) = (k : Int) + 1 := by push_cast; rfl
    have HLN := hidMk (show L.length ≤ 2 by have := HLK.out; omega)
    by_cases hk : k < 2
    · have z0 : (0 : Int) ≤ (k : Int) := by omega
      have z1 : (k : Int) < 2 := by omega
      obtain ⟨e,he⟩ : ∃ e,([⟨J,a,n,c⟩,⟨M,ma,mn,mc⟩] : List Ent)[k]? = some e := ⟨_,List.getElem?_eq_getElem (by simp; omega)⟩
      have HE := hidMk he
      have hen : e.n ≤ 1000 := by
        have := HNM.out
        match k,he with
        | 0, he => obtain rfl : (⟨J,a,n,c⟩ : Ent) = e := by simpa using he
                   show n ≤ 1000
                   omega
        | 1, he => obtain rfl : (⟨M,ma,mn,mc⟩ : Ent) = e := by simpa using he
                   show mn ≤ 1000
                   omega
      have HEN := hidMk (show e.n ≤ 9223372036854775807 by omega)
      have HR := hidMk (HS.out.ent HN.out HM.out he)
      clear he hen
      go_wp2_with (refine wpList_load_midA rfl 30 _ rfl g (k * 18) rfl (jobC e.J (.slice e.a e.n e.c)) _ HR.out.1 Tryz.underlying30 rfl szJob ?_)
      refine (write_any e.J e.a e.n e.c wr HR.out.2.1 HEN.out HR.out.2.2 (HL.out.up HS.out.b0)).mono ?_
      rintro e_ w2 ⟨rfl,hb2⟩
      have HS2 := hidMk (HS.out.next hb2)
      have HR2 := hidMk (HS2.out.ent HN.out HM.out HE.out)
      clear hb2
      go_wp2_with (refine wpList_load_midA rfl 30 _ rfl g (k * 18) rfl (jobC e.J (.slice e.a e.n e.c)) _ HR2.out.1 Tryz.underlying30 rfl szJob ?_)
      refine (rwrite_any e.J e.a e.n e.c w2 HR2.out.2.1 HEN.out HR2.out.2.2 (HL.out.up HS2.out.b0)).mono ?_
      rintro e_ w3 ⟨rfl,hb3⟩
      have HS3 := hidMk (HS2.out.next hb3)
      clear hb3
      have wy := HWY.out
      go_wp2_with (at_builtin; refine wpList_append_own_at _ rfl (.tmp 79) (.tmp 81) 37 rfl w0.heap.size 9 ti (.string ⟨#[]⟩) 1 16 Tryz.underlying37 Hi.out Hz.out Hs.out Hb.out rfl (by decide) v (X :: L).length ((X :: L).map Value.string) rfl (HS3.out.txt.alloc _) ⟨w3.heap.size,0,none⟩ 1 1 [.string (wTx e.J)] rfl rfl (fun j y hy => by rw [Addr.add_mid,Nat.zero_add]; exact (Bk.new w3 9 #[.string (wTx e.J)]).at_ j y (by simpa using hy)) (by intro y hy; simp at hy; subst hy; rfl) (by unfold maxLen; have := HLN.out; simp; omega) (by have := HLN.out; simp; omega) (by have := HS3.out.b0.size; simp; omega) ?_; intro v' w4 own' hg _ at_)
      have HS4 := hidMk (HS3.out.app hg own')
      clear own' hg at_
      refine ⟨?_,by first | (simp [RowKit.intOf]; done) | (simp [RowKit.intOf]; omega)⟩
      unfold LI
      refine ⟨_,_,_,_,_,_,_,_,_,_,_,_,_,_,_,_,_,_,_,_,_,_,_,_,_,_,_,_,_,_,_,_,_,_,_,_,_,_,_,_,_,_,_,_,_,_,_,_,_,_,_,_,_,_,_,_,_,_,_,_,_,_,_,_,_,_,_,_,_,_,_,_,_,_,_,_,_,_,_,_,_,_,_,_,_,_,_,_,_,_,_,_,_,_,_,_,_,_,_,_,_,_,_,_,_,_,_,_,_,_,_,_,_,_,_,_,_,_,_,_,_,_,_,_,_,_,k + 1,v',L ++ [wTx e.J],by omega,HS4,hidMk ?_,hidMk ?_,by rw [e1]⟩
      · rw [List.length_append,HLK.out]; rfl
      · intro x hx
        rcases List.mem_append.1 hx with hx | hx
        · exact HLZ.out x hx
        · rw [List.mem_singleton.1 hx]
          exact wTx_size _
    · have hk' : k = 2 := by omega
      subst hk'
      go_wp2_with fail
      exact H4.out _ _ _ _ _ _ _ _ _ _ _ _ _ _ _ _ _ _ _ _ _ _ _ _ _ _ _ _ _ _ _ _ _ _ _ _ _ _ _ _ _ _ _ _ _ _ _ _ _ _ _ _ _ _ _ _ _ _ _ _ _ _ _ _ _ _ _ _ _ _ _ _ _ _ _ _ _ _ _ _ _ _ _ _ _ _ _ _ _ _ _ _ _ _ _ _ _ _ _ _ _ _ _ _ _ _ _ _ _ _ _ _ _ _ _ _ _ _ _ _ _ _ _ _ _ _ _ _ _ v L HLK.out HLZ.out HS.out.b0 HS.out.txt
end Go.Proofs.YtljefjngmembkaaGreatDoor
namespace Go.Proofs.YtljefjngmembkaaGreatDoor
set_option linter.all false
open Go.RowKit Go.Lib Go.Tx
structure LT (w0 w : World) (q : Nat) (L : List ByteArray) : Prop where
  b0 : Below w0.heap.size w0 w
  cell : ∀ k x,L[k]? = some x → w.cell? ⟨q,k,none⟩ = some (.string x)
  lt : q < w.heap.size
theorem LT.next {w0 w w' : World} {q : Nat} {L : List ByteArray} (h : LT w0 w q L) (hb : Below w.heap.size w w') : LT w0 w' q L :=
  ⟨h.b0.trans (hb.mono h.b0.size),fun k x hx => (hb.cell h.lt).trans (h.cell k x hx),Nat.lt_of_lt_of_le h.lt hb.size⟩
def LJ (w0 : World) (q cp : Nat) (L : List ByteArray) (a_ : Act) (wr : World) : Prop := ∃ (u0 u1 u2 u3 u4 u5 u6 u7 u8 u9 A0 A1 A2 A3 A5 A6 A7 A8 A9 Ab Ac Ad Ae Af Ag Ah Ai Aj Ak Al Am An Ao Ap Aq Ar As At Au Av Aw Ax Ay Az C0 C1 C2 C3 C4 C5 C6 C7 C8 C9 Ca Cb Cc Cd Ce Cf Cg Ch Ci Cj Ck Cl Cm Cn Co Cp Cq Cr Cs Ct Cu Cv Cw Cx Cy Cz D0 D1 D2 D3 D4 D5 D6 D7 D8 D9 Da Db Dc Dd De Df Dg Dh Di Dj Dk Dl Dm Dn Do Dp Dq Dr Ds Dt Du Dv Dw Dx Dy Dz E0 E1 E2 E3 E4 E5 E6 E7 E8 E9 Ea Eb Ec Ed : Value) (k : Nat),k ≤ 4 ∧ Hid (LT w0 wr q L) ∧ a_ = ⟨#[u0,u1,u2,u3,u4,u5,u6,u7,u8,u9,A0,A1,A2,A3,(.slice (some ⟨q,0,none⟩) 4 cp),A5,A6,A7,A8,A9,(.int .i64 (k : Int)),Ab,Ac,Ad,Ae,Af,Ag,Ah,Ai,Aj,Ak,Al,Am,An,Ao,Ap,Aq,Ar,As,At,Au,Av,Aw,Ax,Ay,Az,C0,C1,C2,C3,C4,C5,C6,C7,C8,C9,Ca,Cb,Cc,Cd,Ce,Cf,Cg,Ch,Ci,Cj,Ck,Cl,Cm,Cn,Co,Cp,Cq,Cr,Cs,Ct,Cu,Cv,Cw,Cx,Cy,Cz,D0,D1,D2,D3,D4,D5,D6,D7,D8,D9,Da,Db,Dc,Dd,De,Df,Dg,Dh,Di,Dj,Dk,Dl,Dm,Dn,Do,Dp,Dq,Dr,Ds,Dt,Du,Dv,Dw,Dx,Dy,Dz,E0,E1,E2,E3,E4,E5,E6,E7,E8,E9,Ea,Eb,Ec,Ed],[]⟩
theorem read_len (T : List UInt8) : (readJ T).1.sh.length ≤ 1000 := by
  by_cases h : (readJ T).1.check = 0
  · exact Nat.le_trans (check_full h).len (by omega)
  · unfold readJ at h ⊢
    split
    · exact Nat.zero_le _
    · split
      · exact Nat.zero_le _
      · split
        · exact Nat.zero_le _
        · rename_i h1 h2 h3
          rw [if_neg h1,if_neg h2,if_neg h3] at h
          exact absurd (by simpa using h3) h
set_option maxHeartbeats 4000000 in
set_option maxRecDepth 1000000 in
theorem rlpart5 {w0 w : World} {q cp : Nat} {L : List ByteArray} {u0 u1 u2 u3 u4 u5 u6 u7 u8 u9 A0 A1 A2 A3 A5 A6 A7 A8 A9 Aa Ab Ac Ad Ae Af Ag Ah Ai Aj Ak Al Am An Ao Ap Aq Ar As At Au Av Aw Ax Ay Az C0 C1 C2 C3 C4 C5 C6 C7 C8 C9 Ca Cb Cc Cd Ce Cf Cg Ch Ci Cj Ck Cl Cm Cn Co Cp Cq Cr Cs Ct Cu Cv Cw Cx Cy Cz D0 D1 D2 D3 D4 D5 D6 D7 D8 D9 Da Db Dc Dd De Df Dg Dh Di Dj Dk Dl Dm Dn Do Dp Dq Dr Ds Dt Du Dv Dw Dx Dy Dz E0 E1 E2 E3 E4 E5 E6 E7 E8 E9 Ea Eb Ec Ed : Value} (HT : TunOK8) (h8 : 8 ≤ w0.heap.size) (hl : LibW w0) (hL : L.length = 4) (hs : LT w0 w q L) : Code.wp Tryz.prog rlrest5 (QRL w0) ⟨#[u0,u1,u2,u3,u4,u5,u6,u7,u8,u9,A0,A1,A2,A3,(.slice (some ⟨q,0,none⟩) 4 cp),A5,A6,A7,A8,A9,Aa,Ab,Ac,Ad,Ae,Af,Ag,Ah,Ai,Aj,Ak,Al,Am,An,Ao,Ap,Aq,Ar,As,At,Au,Av,Aw,Ax,Ay,Az,C0,C1,C2,C3,C4,C5,C6,C7,C8,C9,Ca,Cb,Cc,Cd,Ce,Cf,Cg,Ch,Ci,Cj,Ck,Cl,Cm,Cn,Co,Cp,Cq,Cr,Cs,Ct,Cu,Cv,Cw,Cx,Cy,Cz,D0,D1,D2,D3,D4,D5,D6,D7,D8,D9,Da,Db,Dc,Dd,De,Df,Dg,Dh,Di,Dj,Dk,Dl,Dm,Dn,Do,Dp,Dq,Dr,Ds,Dt,Du,Dv,Dw,Dx,Dy,Dz,E0,E1,E2,E3,E4,E5,E6,E7,E8,E9,Ea,Eb,Ec,Ed],[]⟩ w := by
  have HTN := hidMk HT
  have H8 := hidMk h8
  have HL := hidMk hl
  have HLL := hidMk hL
  have HS := hidMk hs
  clear HT h8 hl hL hs
  rw [rlrest5_eq]
  go_wp2_with fail
  refine wp_loop (LJ w0 q cp L) (fun a_ _ => 4 - (RowKit.intOf (a_.tmps.getD 20 undef)).toNat) ?_ ?_
  · unfold LJ
    exact ⟨_,_,_,_,_,_,_,_,_,_,_,_,_,_,_,_,_,_,_,_,_,_,_,_,_,_,_,_,_,_,_,_,_,_,_,_,_,_,_,_,_,_,_,_,_,_,_,_,_,_,_,_,_,_,_,_,_,_,_,_,_,_,_,_,_,_,_,_,_,_,_,_,_,_,_,_,_,_,_,_,_,_,_,_,_,_,_,_,_,_,_,_,_,_,_,_,_,_,_,_,_,_,_,_,_,_,_,_,_,_,_,_,_,_,_,_,_,_,_,_,_,_,_,_,_,_,_,_,_,_,0,by omega,HS,rfl⟩
  · intro a_ wr hx
    unfold LJ at hx
    obtain ⟨u0,hx⟩ := hx
    obtain ⟨u1,hx⟩ := hx
    obtain ⟨u2,hx⟩ := hx
    obtain ⟨u3,hx⟩ := hx
    obtain ⟨u4,hx⟩ := hx
    obtain ⟨u5,hx⟩ := hx
    obtain ⟨u6,hx⟩ := hx
    obtain ⟨u7,hx⟩ := hx
    obtain ⟨u8,hx⟩ := hx
    obtain ⟨u9,hx⟩ := hx
    obtain ⟨A0,hx⟩ := hx
    obtain ⟨A1,hx⟩ := hx
    obtain ⟨A2,hx⟩ := hx
    obtain ⟨A3,hx⟩ := hx
    obtain ⟨A5,hx⟩ := hx
    obtain ⟨A6,hx⟩ := hx
    obtain ⟨A7,hx⟩ := hx
    obtain ⟨A8,hx⟩ := hx
    obtain ⟨A9,hx⟩ := hx
    obtain ⟨Ab,hx⟩ := hx
    obtain ⟨Ac,hx⟩ := hx
    obtain ⟨Ad,hx⟩ := hx
    obtain ⟨Ae,hx⟩ := hx
    obtain ⟨Af,hx⟩ := hx
    obtain ⟨Ag,hx⟩ := hx
    obtain ⟨Ah,hx⟩ := hx
    obtain ⟨Ai,hx⟩ := hx
    obtain ⟨Aj,hx⟩ := hx
    obtain ⟨Ak,hx⟩ := hx
    obtain ⟨Al,hx⟩ := hx
    obtain ⟨Am,hx⟩ := hx
    obtain ⟨An,hx⟩ := hx
    obtain ⟨Ao,hx⟩ := hx
    obtain ⟨Ap,hx⟩ := hx
    obtain ⟨Aq,hx⟩ := hx
    obtain ⟨Ar,hx⟩ := hx
    obtain ⟨As,hx⟩ := hx
    obtain ⟨At,hx⟩ := hx
    obtain ⟨Au,hx⟩ := hx
    obtain ⟨Av,hx⟩ := hx
    obtain ⟨Aw,hx⟩ := hx
    obtain ⟨Ax,hx⟩ := hx
    obtain ⟨Ay,hx⟩ := hx
    obtain ⟨Az,hx⟩ := hx
    obtain ⟨C0,hx⟩ := hx
    obtain ⟨C1,hx⟩ := hx
    obtain ⟨C2,hx⟩ := hx
    obtain ⟨C3,hx⟩ := hx
    obtain ⟨C4,hx⟩ := hx
    obtain ⟨C5,hx⟩ := hx
    obtain ⟨C6,hx⟩ := hx
    obtain ⟨C7,hx⟩ := hx
    obtain ⟨C8,hx⟩ := hx
    obtain ⟨C9,hx⟩ := hx
    obtain ⟨Ca,hx⟩ := hx
    obtain ⟨Cb,hx⟩ := hx
    obtain ⟨Cc,hx⟩ := hx
    obtain ⟨Cd,hx⟩ := hx
    obtain ⟨Ce,hx⟩ := hx
    obtain ⟨Cf,hx⟩ := hx
    obtain ⟨Cg,hx⟩ := hx
    obtain ⟨Ch,hx⟩ := hx
    obtain ⟨Ci,hx⟩ := hx
    obtain ⟨Cj,hx⟩ := hx
    obtain ⟨Ck,hx⟩ := hx
    obtain ⟨Cl,hx⟩ := hx
    obtain ⟨Cm,hx⟩ := hx
    obtain ⟨Cn,hx⟩ := hx
    obtain ⟨Co,hx⟩ := hx
    obtain ⟨Cp,hx⟩ := hx
    obtain ⟨Cq,hx⟩ := hx
    obtain ⟨Cr,hx⟩ := hx
    obtain ⟨Cs,hx⟩ := hx
    obtain ⟨Ct,hx⟩ := hx
    obtain ⟨Cu,hx⟩ := hx
    obtain ⟨Cv,hx⟩ := hx
    obtain ⟨Cw,hx⟩ := hx
    obtain ⟨Cx,hx⟩ := hx
    obtain ⟨Cy,hx⟩ := hx
    obtain ⟨Cz,hx⟩ := hx
    obtain ⟨D0,hx⟩ := hx
    obtain ⟨D1,hx⟩ := hx
    obtain ⟨D2,hx⟩ := hx
    obtain ⟨D3,hx⟩ := hx
    obtain ⟨D4,hx⟩ := hx
    obtain ⟨D5,hx⟩ := hx
    obtain ⟨D6,hx⟩ := hx
    obtain ⟨D7,hx⟩ := hx
    obtain ⟨D8,hx⟩ := hx
    obtain ⟨D9,hx⟩ := hx
    obtain ⟨Da,hx⟩ := hx
    obtain ⟨Db,hx⟩ := hx
    obtain ⟨Dc,hx⟩ := hx
    obtain ⟨Dd,hx⟩ := hx
    obtain ⟨De,hx⟩ := hx
    obtain ⟨Df,hx⟩ := hx
    obtain ⟨Dg,hx⟩ := hx
    obtain ⟨Dh,hx⟩ := hx
    obtain ⟨Di,hx⟩ := hx
    obtain ⟨Dj,hx⟩ := hx
    obtain ⟨Dk,hx⟩ := hx
    obtain ⟨Dl,hx⟩ := hx
    obtain ⟨Dm,hx⟩ := hx
    obtain ⟨Dn,hx⟩ := hx
    obtain ⟨Do,hx⟩ := hx
    obtain ⟨Dp,hx⟩ := hx
    obtain ⟨Dq,hx⟩ := hx
    obtain ⟨Dr,hx⟩ := hx
    obtain ⟨Ds,hx⟩ := hx
    obtain ⟨Dt,hx⟩ := hx
    obtain ⟨Du,hx⟩ := hx
    obtain ⟨Dv,hx⟩ := hx
    obtain ⟨Dw,hx⟩ := hx
    obtain ⟨Dx,hx⟩ := hx
    obtain ⟨Dy,hx⟩ := hx
    obtain ⟨Dz,hx⟩ := hx
    obtain ⟨E0,hx⟩ := hx
    obtain ⟨E1,hx⟩ := hx
    obtain ⟨E2,hx⟩ := hx
    obtain ⟨E3,hx⟩ := hx
    obtain ⟨E4,hx⟩ := hx
    obtain ⟨E5,hx⟩ := hx
    obtain ⟨E6,hx⟩ := hx
    obtain ⟨E7,hx⟩ := hx
    obtain ⟨E8,hx⟩ := hx
    obtain ⟨E9,hx⟩ := hx
    obtain ⟨Ea,hx⟩ := hx
    obtain ⟨Eb,hx⟩ := hx
    obtain ⟨Ec,hx⟩ := hx
    obtain ⟨Ed,hx⟩ := hx
    obtain ⟨k,hk4,HS,ha⟩ := hx
    subst ha
    have HWY := hidMk (show IntKind.i64.wrap ((k : Int) + 1) = (k : Int) + 1 from IntWalk.i64_in _ (by omega))
    have e1 : ((k + 1 : Nat) : Int) = (k : Int) + 1 := by push_cast; rfl
    by_cases hk : k < 4
    · have z0 : (0 : Int) ≤ (k : Int) := by omega
      have z1 : (k : Int) < 4 := by omega
      obtain ⟨x,hx⟩ : ∃ x,L[k]? = some x := ⟨_,List.getElem?_eq_getElem (by have := HLL.out; omega)⟩
      have HX := hidMk hx
      have c0 := HS.out.cell k x hx
      clear hx
      go_wp2_with fail
      refine (read_any x wr (HL.out.up HS.out.b0)).mono ?_
      rintro e_ w2 ⟨ya,yc,rfl,hyc,hry,hb2⟩
      obtain ⟨Y,hY⟩ : ∃ y,y = (readJ x.data.toList).1 := ⟨_,rfl⟩
      obtain ⟨er,her⟩ : ∃ y,y = (readJ x.data.toList).2.2 := ⟨_,rfl⟩
      obtain ⟨li,hli⟩ : ∃ y,y = (readJ x.data.toList).2.1 := ⟨_,rfl⟩
      have HY := hidMk hY
      have HER := hidMk her
      have HLI := hidMk hli
      have HYL := hidMk (show Y.sh.length ≤ 1000 by rw [hY]; exact read_len _)
      rw [← hY] at hry
      rw [← hY,← her,← hli]
      obtain ⟨yn,hyn⟩ : ∃ y,y = Y.sh.length := ⟨_,rfl⟩
      rw [← hyn]
      have HYN := hidMk hyn
      have hby := below0 w2 (.cells (jobC Y (.slice ya yn yc)) 30)
      have HS3 := hidMk ((HS.out.next hb2).next hby)
      have HRY := hidMk (Rg.up hry hby)
      have HK3 := hidMk (Bk.new w2 30 (jobC Y (.slice ya yn yc)))
      have c3 := HS3.out.cell k x HX.out
      clear hY her hli hyn hyc hry hb2 hby c0
      go_wp2_with (refine wpList_store_row rfl 30 _ _ rfl w2.heap.size (jobC Y (.slice ya yn yc)) rfl rfl _ _ (Bk.new _ _ _) szJob rfl (oneJob _ _ _ _) ?_; rw [World.setRow_alloc_new])
      refine (rread_any x _ (HL.out.up HS3.out.b0)).mono ?_
      rintro e_ w4 ⟨za,zc,rfl,hzc,hrz,hb4⟩
      rw [← HY.out] at hrz
      rw [← HY.out,← HER.out,← HLI.out,← HYN.out]
      have hbz := below0 w4 (.cells (jobC Y (.slice za yn zc)) 30)
      have HS5 := hidMk ((HS3.out.next hb4).next hbz)
      have HRY5 := hidMk ((HRY.out.up hb4).up hbz)
      have HRZ5 := hidMk (Rg.up hrz hbz)
      have hk4' := HK3.out.below hb4 HK3.out.lt
      have HK5 := hidMk (hk4'.below hbz hk4'.lt)
      have HN5 := hidMk (Bk.new w4 30 (jobC Y (.slice za yn zc)))
      clear hzc hrz hb4 hbz hk4' c3
      go_wp2_with (first | (refine wpList_store_row rfl 30 _ _ rfl w4.heap.size (jobC Y (.slice za yn zc)) rfl rfl _ _ (Bk.new _ _ _) szJob rfl (oneJob _ _ _ _) ?_; rw [World.setRow_alloc_new]) | (refine wpList_load_rowW (by kernel_rfl) 30 _ rfl w2.heap.size rfl _ (jobC Y (.slice ya yn yc)) _ _ HK5.out Tryz.underlying30 rfl szJob ?_) | (refine wpList_load_rowW (by kernel_rfl) 30 _ rfl w4.heap.size rfl _ (jobC Y (.slice za yn zc)) _ _ HN5.out Tryz.underlying30 rfl szJob ?_))
      refine (sameJobs_any Y ya za yn yc zc _ HYN.out (by rw [HYN.out]; exact HYL.out) HRY5.out HRZ5.out).mono ?_
      rintro e_ w6 ⟨rfl,hb6⟩
      have HS6 := hidMk (HS5.out.next hb6)
      clear hb6
      have wy := HWY.out
      go_wp2_with fail
      refine ⟨?_,by first | (simp [RowKit.intOf]; done) | (simp [RowKit.intOf]; omega)⟩
      unfold LJ
      exact ⟨_,_,_,_,_,_,_,_,_,_,_,_,_,_,_,_,_,_,_,_,_,_,_,_,_,_,_,_,_,_,_,_,_,_,_,_,_,_,_,_,_,_,_,_,_,_,_,_,_,_,_,_,_,_,_,_,_,_,_,_,_,_,_,_,_,_,_,_,_,_,_,_,_,_,_,_,_,_,_,_,_,_,_,_,_,_,_,_,_,_,_,_,_,_,_,_,_,_,_,_,_,_,_,_,_,_,_,_,_,_,_,_,_,_,_,_,_,_,_,_,_,_,_,_,_,_,_,_,_,_,k + 1,by omega,HS6,by rw [e1]⟩
    · have hk' : k = 4 := by omega
      subst hk'
      go_wp2_with fail
      rw [rlrest6_eq]
      go_wp2_with fail
      refine (HTN.out _ (Nat.le_trans H8.out HS.out.b0.size)).mono ?_
      rintro e_ w2 ⟨rfl,hb2⟩
      have HB2 := hidMk (HS.out.b0.trans (hb2.mono HS.out.b0.size))
      clear hb2
      go_wp2_with fail
      refine bodyPost_ret (v := .bool true) (by simp [results,Tryz.results3,go_sem]) rfl ?_
      exact ⟨rfl,HB2.out⟩
end Go.Proofs.YtljefjngmembkaaGreatDoor
namespace Go.Proofs.YtljefjngmembkaaGreatDoor
set_option linter.all false
open Go.RowKit Go.Lib Go.Tx
set_option maxHeartbeats 4000000 in
set_option maxRecDepth 1000000 in
theorem rlpart4 {w0 w : World} {X : ByteArray} {at_ kind by_ : Int} {v : Value} {L : List ByteArray} {u0 u1 u2 u6 u7 u8 u9 A0 A1 A2 A3 A5 A6 A7 A8 A9 Aa Ab Ac Ad Ae Af Ag Ah Ai Aj Ak Al Am An Ao Ap Aq Ar As At Au Av Aw Ax Ay Az C0 C1 C2 C3 C4 C5 C6 C7 C8 C9 Ca Cb Cc Cd Ce Cf Cg Ch Ci Cj Ck Cl Cm Cn Co Cp Cq Cr Cs Ct Cu Cv Cw Cx Cy Cz D0 D1 D2 D3 D4 D5 D6 D7 D8 D9 Da Db Dc Dd De Df Dg Dh Di Dj Dk Dl Dm Dn Do Dp Dq Dr Ds Dt Du Dv Dw Dx Dy Dz E0 E1 E2 E3 E4 E5 E6 E7 E8 E9 Ea Eb Ec Ed : Value} (HT : TunOK8) (h8 : 8 ≤ w0.heap.size) (hl : LibW w0) (hat : -9223372036854775808 ≤ at_ ∧ at_ ≤ 9223372036854775807) (hby : 0 ≤ by_ ∧ by_ ≤ 255) (hL : L.length = 2) (hz : ∀ x ∈ L,x.size ≤ 300) (hb : Below w0.heap.size w0 w) (ho : w.ownsRow w0.heap.size 9 1 v (X :: L).length ((X :: L).map Value.string)) : Code.wp Tryz.prog rlrest4 (QRL w0) ⟨#[u0,u1,u2,(.int .i64 at_),(.int .i64 kind),(.int .u8 by_),u6,u7,u8,u9,A0,A1,A2,A3,v,A5,A6,A7,A8,A9,Aa,Ab,Ac,Ad,Ae,Af,Ag,Ah,Ai,Aj,Ak,Al,Am,An,Ao,Ap,Aq,Ar,As,At,Au,Av,Aw,Ax,Ay,Az,C0,C1,C2,C3,C4,C5,C6,C7,C8,C9,Ca,Cb,Cc,Cd,Ce,Cf,Cg,Ch,Ci,Cj,Ck,Cl,Cm,Cn,Co,Cp,Cq,Cr,Cs,Ct,Cu,Cv,Cw,Cx,Cy,Cz,D0,D1,D2,D3,D4,D5,D6,D7,D8,D9,Da,Db,Dc,Dd,De,Df,Dg,Dh,Di,Dj,Dk,Dl,Dm,Dn,Do,Dp,Dq,Dr,Ds,Dt,Du,Dv,Dw,Dx,Dy,Dz,E0,E1,E2,E3,E4,E5,E6,E7,E8,E9,Ea,Eb,Ec,Ed],[]⟩ w := by
  obtain ⟨ti,ti1,ti2,ti3,ti4⟩ := info_parts infoStr
  have Hi := hidMk ti1
  have Hz := hidMk ti2
  have Hs := hidMk ti3
  have Hb := hidMk ti4
  clear ti1 ti2 ti3 ti4
  obtain ⟨x1,x2,rfl⟩ : ∃ x1 x2,L = [x1,x2] := by
    match L,hL with
    | [x1,x2],_ => exact ⟨x1,x2,rfl⟩
  obtain ⟨q,cp,rfl,hq1,hq2,hcell,hq3⟩ := str_row ho (by simp)
  simp only [List.length_cons,List.length_nil,Nat.zero_add,Nat.reduceAdd] at ho hq2 ⊢
  have HTN := hidMk HT
  have H8 := hidMk h8
  have HL := hidMk hl
  have HAT := hidMk hat
  have HBY := hidMk hby
  have HZ := hidMk (show x2.size ≤ 300 from hz x2 (by simp))
  have HB := hidMk hb
  have HO := hidMk ho
  have c2 := hcell 2 x2 rfl
  clear HT h8 hl hat hby hz hb ho hL hcell hq1 hq2 hq3
  rw [rlrest4_eq]
  go_wp2_with fail
  refine (harmed_any x2 at_ kind by_ w (Nat.le_trans HZ.out (by omega)) HAT.out HBY.out).mono ?_
  rintro e w2 ⟨Y,rfl,hy,hb2⟩
  have HB2 := hidMk (HB.out.trans (hb2.mono HB.out.size))
  have HO2 := hidMk (own_up HO.out hb2)
  clear hb2 c2 hy
  go_wp2_with (at_builtin; refine wpList_append_own_at _ rfl (.tmp 83) (.tmp 91) 37 rfl w0.heap.size 9 ti (.string ⟨#[]⟩) 1 16 Tryz.underlying37 Hi.out Hz.out Hs.out Hb.out rfl (by decide) (.slice (some ⟨q,0,none⟩) 3 cp) 3 ([X,x1,x2].map Value.string) rfl (HO2.out.alloc _) ⟨w2.heap.size,0,none⟩ 1 1 [.string Y] rfl rfl (fun j y hy => by rw [Addr.add_mid,Nat.zero_add]; exact (Bk.new w2 9 #[.string Y]).at_ j y (by simpa using hy)) (by intro y hy; simp at hy; subst hy; rfl) (by unfold maxLen; omega) (by omega) (by have := HB2.out.size; simp; omega) ?_; intro v' w3 own' hg _ at_)
  have al_ : Below w2.heap.size w2 (w2.alloc (.cells #[.string Y] 9)) := (Below.refl _ _).alloc (Nat.le_refl _) _
  have HB3 := hidMk ((HB2.out.trans (al_.mono HB2.out.size)).grown hg (Nat.le_trans HB2.out.size al_.size) (fun k e => (own_block' (own_up HO2.out al_) k e).1))
  clear hg at_ al_
  have own2 : w3.ownsRow w0.heap.size 9 1 v' [X,x1,x2,Y].length ([X,x1,x2,Y].map Value.string) := own'
  clear own'
  obtain ⟨q',cp',rfl,hq1,hq2,hcell,hq3⟩ := str_row own2 (by simp)
  exact rlpart5 HTN.out H8.out HL.out rfl ⟨HB3.out,hcell,hq3⟩
set_option maxHeartbeats 4000000 in
set_option maxRecDepth 1000000 in
theorem rlpart2 {w0 w : World} {X : ByteArray} {at_ kind by_ : Int} {g2 : Nat} {J : Jb} {a : Option Addr} {n c : Nat} {na : Option Addr} {nn nc : Nat} {nl : List Int} {u0 u7 u8 u9 A0 A1 A2 A3 A4 A5 A6 A7 A8 A9 Aa Ab Ac Ad Ae Af Ag Ah Ai Aj Ak Al Am An Ao Ap Aq Ar As At Au Av Aw Ax Ay Az C0 C1 C2 C3 C4 C5 C6 C7 C8 C9 Ca Cb Cc Cd Ce Cf Cg Ch Ci Cj Ck Cl Cm Cn Co Cp Cq Cr Cs Ct Cu Cv Cw Cx Cy Cz D0 D1 D2 D3 D4 D5 D6 D7 D8 D9 Da Db Dc Dd De Df Dg Dh Di Dj Dk Dl Dm Dn Do Dp Dq Dr Ds Dt Du Dv Dw Dx Dy Dz E0 E1 E2 E3 E4 E5 E6 E7 E8 E9 Ea Eb Ec Ed : Value} (HT : TunOK8) (h8 : 8 ≤ w0.heap.size) (hl : LibW w0) (hat : -9223372036854775808 ≤ at_ ∧ at_ ≤ 9223372036854775807) (hby : 0 ≤ by_ ∧ by_ ≤ 255) (hs : TS w0 w g2 J a n c na nl) (hj : Rg w0 w0.heap.size a J.sh) (hnn : nn = nl.length ∧ nn ≤ 9223372036854775807) (hn : n = J.sh.length) (hn20 : n ≤ 20) : Code.wp Tryz.prog rlrest2 (QRL w0) ⟨#[u0,(.string X),(.slice na nn nc),(.int .i64 at_),(.int .i64 kind),(.int .u8 by_),(.pointer (some ⟨g2,0,none⟩)),u7,u8,u9,A0,A1,A2,A3,A4,A5,A6,A7,A8,A9,Aa,Ab,Ac,Ad,Ae,Af,Ag,Ah,Ai,Aj,Ak,Al,Am,An,Ao,Ap,Aq,Ar,As,At,Au,Av,Aw,Ax,Ay,Az,C0,C1,C2,C3,C4,C5,C6,C7,C8,C9,Ca,Cb,Cc,Cd,Ce,Cf,Cg,Ch,Ci,Cj,Ck,Cl,Cm,Cn,Co,Cp,Cq,Cr,Cs,Ct,Cu,Cv,Cw,Cx,Cy,Cz,D0,D1,D2,D3,D4,D5,D6,D7,D8,D9,Da,Db,Dc,Dd,De,Df,Dg,Dh,Di,Dj,Dk,Dl,Dm,Dn,Do,Dp,Dq,Dr,Ds,Dt,Du,Dv,Dw,Dx,Dy,Dz,E0,E1,E2,E3,E4,E5,E6,E7,E8,E9,Ea,Eb,Ec,Ed],[]⟩ w := by
  rw [rlrest2_eq]
  refine wp_seq_k fun K0 hKK => ?_
  refine rl3 hs hnn ?_
  intro w' g h M ma mn mc ⟨hb,hA,⟨hh,hT⟩,⟨_,hown⟩,hmn,hck⟩ v42 v43 v44 v45 v46 v47 v48
  refine hKK _ _ ?_
  have hm1 : mn ≤ 1000 := by have := (check_full hck).len; omega
  refine rlpart3 hl ?_ ⟨hb,hA,hj,hown,⟨rfl,.inr ⟨h,1,#[.string X],rfl,hh,hT,Nat.le_refl _,by unfold maxLen; omega,rfl,rfl⟩⟩⟩ hn hn20 hmn hm1
  intro u0 u1 u2 u6 u7 u8 u9 A0 A1 A2 A3 A5 A6 A7 A8 A9 Aa Ab Ac Ad Ae Af Ag Ah Ai Aj Ak Al Am An Ao Ap Aq Ar As At Au Av Aw Ax Ay Az C0 C1 C2 C3 C4 C5 C6 C7 C8 C9 Ca Cb Cc Cd Ce Cf Cg Ch Ci Cj Ck Cl Cm Cn Co Cp Cq Cr Cs Ct Cu Cv Cw Cx Cy Cz D0 D1 D2 D3 D4 D5 D6 D7 D8 D9 Da Db Dc Dd De Df Dg Dh Di Dj Dk Dl Dm Dn Do Dp Dq Dr Ds Dt Du Dv Dw Dx Dy Dz E0 E1 E2 E3 E4 E5 E6 E7 E8 E9 Ea Eb Ec Ed w' v L hL hz hb ho
  exact rlpart4 HT h8 hl hat hby hL hz hb ho
set_option maxHeartbeats 4000000 in
set_option maxRecDepth 1000000 in
theorem texts_law (HT : TunOK8) (J : Jb) (a : Option Addr) (n c : Nat) (X : ByteArray) (na : Option Addr) (nn nc : Nat) (nl : List Int) (at_ kind by_ : Int) (w : World)
    (hn : n = J.sh.length) (hm : n ≤ 9223372036854775807) (h : Rg w w.heap.size a J.sh) (hnn : nn = nl.length ∧ nn ≤ 9223372036854775807) (hnl : Is w w.heap.size na nl) (hat : -9223372036854775808 ≤ at_ ∧ at_ ≤ 9223372036854775807) (hby : 0 ≤ by_ ∧ by_ ≤ 255) (hl : LibW w) :
    Calls Tryz.prog 3 #[.agg (jobC J (.slice a n c)),.string X,.slice na nn nc,.int .i64 at_,.int .i64 kind,.int .u8 by_] w fun e w' => e = .returned (.bool true) ∧ Below w.heap.size w w' := by
  have HTN := hidMk HT
  have hr8 := hl.room
  have HR8 := hidMk hr8
  have HL := hidMk hl
  have HN := hidMk hn
  have HRG0 := hidMk h
  have HAT := hidMk hat
  have HBY := hidMk hby
  have HNN := hidMk hnn
  have hW : Below w.heap.size w (w.alloc (.cells (jobC J (.slice a n c)) 30)) := (Below.refl _ _).alloc (Nat.le_refl _) _
  have HW := hidMk hW
  have HTS := hidMk (show TS w (w.alloc (.cells (jobC J (.slice a n c)) 30)) w.heap.size J a n c na nl from ⟨hW,Bk.new _ _ _,h.up hW,hnl.up hW⟩)
  have c15 := HTS.out.job.at_ 15 (.slice a n c) rfl
  clear HT hr8 hl hn h hnn hnl hW hat hby
  go_enter Tryz.func3,Tryz.ntmps3
  show Code.wp Tryz.prog rlbody (QRL w) _ _
  rw [rlbody_eq]
  go_wp2_with fail
  rw [rlrest1_eq]
  by_cases h20 : 20 < n
  · have h20' : (20 : Int) < (n : Int) := by omega
    go_wp2_with fail
    refine (HTN.out _ (Nat.le_trans HR8.out HW.out.size)).mono ?_
    rintro e w' ⟨rfl,hb⟩
    have HB := hidMk (HW.out.trans (hb.mono HW.out.size))
    clear hb
    unfold QRL
    go_wp2_with fail
    refine bodyPost_ret (v := .bool true) (by simp [results,Tryz.results3,go_sem]) rfl ?_
    exact ⟨rfl,HB.out⟩
  have h20' : ¬ (20 : Int) < (n : Int) := by omega
  by_cases h250 : 250 < X.size ∧ X.size ≤ 300
  · have h250' : (250 : Int) < (X.size : Int) := by omega
    have h300' : (X.size : Int) ≤ (300 : Int) := by omega
    go_wp2_with fail
    refine (HTN.out _ (Nat.le_trans HR8.out HW.out.size)).mono ?_
    rintro e w' ⟨rfl,hb⟩
    have HB := hidMk (HW.out.trans (hb.mono HW.out.size))
    clear hb
    unfold QRL
    go_wp2_with fail
    refine bodyPost_ret (v := .bool true) (by simp [results,Tryz.results3,go_sem]) rfl ?_
    exact ⟨rfl,HB.out⟩
  by_cases h25 : 250 < X.size
  · have h250' : (250 : Int) < (X.size : Int) := by omega
    have h300' : ¬ (X.size : Int) ≤ (300 : Int) := by omega
    clear h250
    go_wp2_with fail
    exact rlpart2 HTN.out HR8.out HL.out HAT.out HBY.out HTS.out HRG0.out HNN.out HN.out (by omega)
  · have h250' : ¬ (250 : Int) < (X.size : Int) := by omega
    clear h250
    go_wp2_with fail
    exact rlpart2 HTN.out HR8.out HL.out HAT.out HBY.out HTS.out HRG0.out HNN.out HN.out (by omega)
end Go.Proofs.YtljefjngmembkaaGreatDoor
