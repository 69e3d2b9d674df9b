/- Part 12 of the proof: BkA, BkB, BkC, Pots. -/
import Derived.Deep.MidRow
import Derived.Deep.WholeRow
import Derived.Test.YtadmcafbffjjbaaB11
import Derived.Test.YtadmcafbffjjbaaB06
import Derived.Test.YtadmcafbffjjbaaB01
import Derived.Test.YtadmcafbffjjbaaB00
/- Lists of jobs in memory, and what Blank says of them. -/
namespace Go.Proofs.Ytadmcafbffjjbaa
set_option linter.all false
open Go.RowKit
/-- A job and where its shifts lie. -/
structure Ent where
  J : Jb
  a : Option Addr
  n : Nat
  c : Nat
def Ent.V (e : Ent) : Array Value := jobC e.J (.slice e.a e.n e.c)
theorem Ent.V_len (e : Ent) : e.V.toList.length = 18 := rfl
theorem flat_at {α β : Type} (F : α → List β) (hF : ∀ x,(F x).length = 18) : ∀ (es : List α) (k : Nat) (e : α),es[k]? = some e → ∀ (j : Nat) (v : β),(F e)[j]? = some v → (es.flatMap F)[k * 18 + j]? = some v
  | e0 :: es,0,e,h,j,v,hv => by
    obtain rfl : e0 = e := by simpa using h
    have hj := (List.getElem?_eq_some_iff.1 hv).1
    rw [List.flatMap_cons,Nat.zero_mul,Nat.zero_add,List.getElem?_append_left hj]
    exact hv
  | e0 :: es,k + 1,e,h,j,v,hv => by
    have ih := flat_at F hF es k e (by simpa using h) j v hv
    rw [List.flatMap_cons,List.getElem?_append_right (by rw [hF]; omega),hF]
    have : (k + 1) * 18 + j - 18 = k * 18 + j := by omega
    rw [this]
    exact ih

/-- The cells of a list of jobs. -/
def flatE (es : List Ent) : List Value := es.flatMap fun e => e.V.toList
theorem flatE_len : ∀ es : List Ent,(flatE es).length = es.length * 18
  | [] => rfl
  | e :: r => by
    have ih := flatE_len r
    unfold flatE at ih ⊢
    rw [List.flatMap_cons,List.length_append,ih,Ent.V_len,List.length_cons]
    omega
theorem flatE_snoc (es : List Ent) (e : Ent) : flatE (es ++ [e]) = flatE es ++ e.V.toList := by
  unfold flatE
  rw [List.flatMap_append]
  simp
theorem flatE_one (es : List Ent) : ∀ u ∈ flatE es,u.oneCell' = true := by
  intro u hu
  unfold flatE at hu
  rw [List.mem_flatMap] at hu
  obtain ⟨e,_,h⟩ := hu
  have := oneJob e.J e.a e.n e.c
  exact (Array.all_eq_true_iff_forall_mem.1 this) u (by simpa [Ent.V] using h)
/-- A slice of jobs lies below block B, and so do their shifts. -/
structure Js (w : World) (B : Nat) (a : Option Addr) (n : Nat) (es : List Ent) : Prop where
  len : n = es.length
  row : ∀ (k : Nat) (e : Ent),es[k]? = some e → ∃ b off,a = some ⟨b,off,none⟩ ∧ b < B ∧ w.rangeAt b (off + k * 18) e.V.toList
  each : ∀ e ∈ es,Rg w B e.a e.J.sh ∧ e.n = e.J.sh.length ∧ e.n ≤ 9223372036854775807
section
variable {w w' : World} {B : Nat} {a : Option Addr} {n : Nat} {es : List Ent}
theorem rangeAt_keep {b o : Nat} {cs : List Value} (h : w.rangeAt b o cs) (hk : ∀ p : Addr,p.block = b → w'.cell? p = w.cell? p) : w'.rangeAt b o cs := fun j v hv => (hk _ rfl).trans (h j v hv)
theorem Js.up (h : Js w w.heap.size a n es) (hb : Below w.heap.size w w') : Js w' w'.heap.size a n es := by
  refine ⟨h.len,fun k e hk => ?_,fun e he => ?_⟩
  · obtain ⟨b,off,ha,hlt,hr⟩ := h.row k e hk
    exact ⟨b,off,ha,Nat.lt_of_lt_of_le hlt hb.size,rangeAt_keep hr fun p hp => hb.cell (by rw [hp]; exact hlt)⟩
  · obtain ⟨h1,h2⟩ := h.each e he
    exact ⟨h1.up hb,h2⟩
theorem Js.nil (w : World) (B : Nat) (a : Option Addr) : Js w B a 0 [] := ⟨rfl,fun k e h => by simp at h,fun e h => by cases h⟩
theorem Js.pb {b : Nat} (h : Js w w.heap.size a n es) (hp : Pt w b) (hk : PB b w.heap.size w w') : Js w' w'.heap.size a n es := by
  refine ⟨h.len,fun k e he => ?_,fun e he => ?_⟩
  · obtain ⟨q,off,ha,hlt,hr⟩ := h.row k e he
    refine ⟨q,off,ha,Nat.lt_of_lt_of_le hlt hk.size,rangeAt_keep hr fun p hq => hk.cell (by rw [hq]; exact hlt) ?_⟩
    intro e2
    have h0 := hr 0 (.int .i64 e.J.p1) rfl
    rw [← hq,e2] at h0
    obtain ⟨s,hs⟩ := hp.cell h0
    cases hs
  · obtain ⟨h1,h2⟩ := h.each e he
    exact ⟨h1.pb hp hk,h2⟩
/-- A row of one's own holds its jobs. -/
theorem Js.of_own {base : Nat} {v : Value} (h : w.ownsRow base 30 18 v n (flatE es)) (he : ∀ e ∈ es,Rg w w.heap.size e.a e.J.sh ∧ e.n = e.J.sh.length ∧ e.n ≤ 9223372036854775807) : ∃ a c,v = .slice a n c ∧ Js w w.heap.size a n es := by
  have hl := h.1
  rw [flatE_len] at hl
  rcases h.2 with ⟨rfl,rfl⟩ | ⟨g,cap,cur,rfl,hb,hg,hnc,hcm,hcs,htk⟩
  · have e : es = [] := List.length_eq_zero_iff.1 (by omega)
    subst e
    exact ⟨none,0,rfl,Js.nil _ _ _⟩
  · refine ⟨some ⟨g,0,none⟩,cap,rfl,by omega,fun k e hk => ⟨g,0,rfl,(Array.getElem?_eq_some_iff.1 hg).1,fun j v hv => ?_⟩,he⟩
    have hkl := (List.getElem?_eq_some_iff.1 hk).1
    have hj := (List.getElem?_eq_some_iff.1 hv).1
    rw [Ent.V_len] at hj
    have h1 := flat_at (fun e : Ent => e.V.toList) Ent.V_len es k e hk j v hv
    rw [cell_of_row w g (0 + k * 18 + j) cur 30 (0,0) hg,Nat.zero_add,← Array.getElem?_toList]
    have h2 : (cur.toList.take (n * 18))[k * 18 + j]? = some v := by rw [htk]; exact h1
    rw [List.getElem?_take_of_lt (by omega)] at h2
    exact h2
end
/-- The first error of some jobs. -/
def firstErr : List Jb → Int
  | [] => 0
  | j :: r => if j.check = 0 then firstErr r else j.check
theorem firstErr_ok : ∀ l : List Jb,(∀ j ∈ l,j.check = 0) → firstErr l = 0
  | [],_ => rfl
  | j :: r,h => by
    unfold firstErr
    rw [if_pos (h j List.mem_cons_self)]
    exact firstErr_ok r fun x hx => h x (List.mem_cons_of_mem _ hx)
theorem firstErr_at : ∀ (l : List Jb) (i : Nat) (j : Jb),l[i]? = some j → (∀ x ∈ l.take i,x.check = 0) → j.check ≠ 0 → firstErr l = j.check
  | [],i,j,h,_,_ => by simp at h
  | x :: r,0,j,h,_,hj => by
    simp at h
    subst h
    unfold firstErr
    rw [if_neg hj]
  | x :: r,i + 1,j,h,ht,hj => by
    unfold firstErr
    rw [if_pos (ht x (by simp))]
    exact firstErr_at r i j (by simpa using h) (fun y hy => ht y (by simp [hy])) hj
/-- The cheapest of the first so many jobs: where it is, what it costs, and whether there is one. -/
def cheapK (l : List Jb) : Nat → Int × Int × Bool
  | 0 => (0,0,false)
  | i + 1 => match l[i]? with
    | none => cheapK l i
    | some j => if (guidedI j).2 = 0 ∧ ((cheapK l i).2.2 = false ∨ (guidedI j).1 < (cheapK l i).2.1) then ((i : Int),(guidedI j).1,true) else cheapK l i
theorem cheapK_step {l : List Jb} {i : Nat} {j : Jb} (h : l[i]? = some j) : cheapK l (i + 1) = if (guidedI j).2 = 0 ∧ ((cheapK l i).2.2 = false ∨ (guidedI j).1 < (cheapK l i).2.1) then ((i : Int),(guidedI j).1,true) else cheapK l i := by
  show (match l[i]? with
    | none => cheapK l i
    | some j => if (guidedI j).2 = 0 ∧ ((cheapK l i).2.2 = false ∨ (guidedI j).1 < (cheapK l i).2.1) then ((i : Int),(guidedI j).1,true) else cheapK l i) = _
  rw [h]
theorem cheapK_nn (l : List Jb) : ∀ i : Nat,0 ≤ (cheapK l i).1 ∧ (cheapK l i).1 ≤ (i : Int) ∧ ((cheapK l i).2.2 = false → (cheapK l i).1 = 0 ∧ (cheapK l i).2.1 = 0)
  | 0 => ⟨Int.le_refl _,Int.le_refl _,fun _ => ⟨rfl,rfl⟩⟩
  | i + 1 => by
    have ih := cheapK_nn l i
    cases h : l[i]? with
    | none =>
      have e : cheapK l (i + 1) = cheapK l i := by
        show (match l[i]? with
          | none => cheapK l i
          | some j => if (guidedI j).2 = 0 ∧ ((cheapK l i).2.2 = false ∨ (guidedI j).1 < (cheapK l i).2.1) then ((i : Int),(guidedI j).1,true) else cheapK l i) = _
        rw [h]
      rw [e]
      exact ⟨ih.1,by push_cast; omega,ih.2.2⟩
    | some j =>
      rw [cheapK_step h]
      split
      · exact ⟨by simp only; omega,by simp only; push_cast; omega,fun h => by cases h⟩
      · exact ⟨ih.1,by push_cast; omega,ih.2.2⟩
/-- What Blank says. -/
def blankI (l : List Jb) : Int × Int × Int :=
  if l.length = 0 then (0,0,7) else if 6 < l.length then (0,0,6) else if firstErr l ≠ 0 then (0,0,firstErr l) else
    if (cheapK l l.length).2.2 = true then ((cheapK l l.length).1,(cheapK l l.length).2.1,0) else (0,0,11)
end Go.Proofs.Ytadmcafbffjjbaa
/- The cost of a blank. -/
namespace Go.Proofs.Ytadmcafbffjjbaa
set_option linter.all false
open Go.RowKit
noncomputable def bcbody : Code := Try.f56.body.getD .skip
noncomputable def bcrest1 : Code := sndB bcbody
noncomputable def bcrest2 : Code := sndB bcrest1
set_option maxRecDepth 1000000 in
theorem bcbody_eq : bcbody = .seq (Code.region 0 #[⟨some 1,.box 30 (.tmp 0),0,"game.go:64",#[],none⟩,⟨some 2,.assign (.const (.int .i64 0)),3,"game.go:64",#[],none⟩,⟨some 3,.assign (.const (.bool false)),4,"game.go:64",#[⟨1,.chain⟩],none⟩] false) bcrest1 := by kernel_rfl
set_option maxRecDepth 1000000 in
theorem bcrest1_eq : bcrest1 = .seq (Code.region 1 #[⟨some 7,.load 30 (.tmp 1),30,"game.go:65",#[],none⟩,⟨some 8,.call { callee := .value (.func 12),args := #[.tmp 7],argTypes := #[30] },40,"game.go:65",#[⟨0,.data⟩],none⟩,⟨some 6,.move (.tmp 8),40,"game.go:65",#[⟨1,.data⟩],none⟩,⟨some 9,.extract (.tmp 6) 0,3,"game.go:65",#[⟨2,.data⟩],none⟩,⟨some 10,.extract (.tmp 6) 1,39,"game.go:65",#[⟨2,.data⟩,⟨5,.gcOnly .lateStores⟩],none⟩,⟨some 4,.assign (.tmp 9),3,"game.go:65",#[⟨3,.data⟩,⟨1,.chain⟩,⟨0,.phase⟩,⟨1,.phase⟩,⟨2,.phase⟩,⟨3,.phase⟩,⟨4,.textOnly .lateStores⟩],none⟩,⟨some 5,.assign (.tmp 10),39,"game.go:65",#[⟨4,.data⟩,⟨5,.chain⟩,⟨0,.phase⟩,⟨1,.phase⟩,⟨2,.phase⟩,⟨3,.phase⟩,⟨4,.phase⟩,⟨5,.phase⟩],none⟩] false) bcrest2 := by kernel_rfl
set_option maxRecDepth 1000000 in
theorem bcrest2_eq : bcrest2 = .seq (Code.region 2 #[⟨some 11,.move (.tmp 4),3,"game.go:66",#[],none⟩,⟨some 12,.move (.tmp 5),39,"game.go:66",#[⟨3,.gcOnly .lateStores⟩],none⟩,⟨some 13,.binOp .eql 39 (.tmp 12) (.const (.int .i64 0)) 39,4,"game.go:66",#[⟨1,.data⟩,⟨3,.gcOnly .lateStores⟩],none⟩,⟨some 2,.assign (.tmp 11),3,"game.go:66",#[⟨0,.data⟩,⟨0,.phase⟩,⟨1,.textOnly .lateStores⟩,⟨2,.textOnly .lateStores⟩],none⟩,⟨some 3,.assign (.tmp 13),4,"game.go:66",#[⟨2,.data⟩,⟨3,.chain⟩,⟨0,.phase⟩,⟨1,.phase⟩,⟨2,.phase⟩,⟨3,.phase⟩],none⟩] false) .ret := by kernel_rfl
theorem wpList_load_midA {P : Program} {ops : Array Oper} {rest : List Oper} {op : Oper} {a : Act} {w : World} {Q : Exit → Act → World → Prop} (hgd : op.guard = none) (ty : TypeId) (x : Operand) (ho : op.op = .load ty x)
    (b o : Nat) (hx : a.eval x = .pointer (some ⟨b,o,none⟩)) (cs : Array Value) (d : TypeDesc) (hc : w.rangeAt b o cs.toList)
    (hu : P.underlying ty = some d) (hd : d.isRow = true) (hi : (P.info? ty).map (·.size) = some cs.size)
    (h : wpList P ops Q rest (a.put op.dst (.agg cs)) w) : wpList P ops Q (op :: rest) a w :=
  wpList_load_mid hgd ty x ho b o hx cs.toList d hc hu hd (by rw [Array.length_toList]; exact hi) (by rw [Array.toArray_toList]; exact h)

def QBC (J : Jb) (w0 : World) : Exit → Act → World → Prop := bodyPost Try.prog Try.f56 fun e w' => e = .returned (.tuple #[.int .i64 (guidedI J).1,.bool (decide ((guidedI J).2 = 0))]) ∧ Below w0.heap.size w0 w'
set_option maxHeartbeats 4000000 in
set_option maxRecDepth 1000000 in
theorem bcost_any (J : Jb) (a : Option Addr) (n c : Nat) (w : World) (hn : n = J.sh.length) (hm : n ≤ 9223372036854775807) (h : Rg w w.heap.size a J.sh) :
    Calls Try.prog 56 #[.agg (jobC J (.slice a n c))] w fun e w' => e = .returned (.tuple #[.int .i64 (guidedI J).1,.bool (decide ((guidedI J).2 = 0))]) ∧ Below w.heap.size w w' := by
  have q0 : Below w.heap.size w (w.alloc (.cells (jobC J (.slice a n c)) 30)) := (Below.refl _ _).alloc (Nat.le_refl _) _
  have HQ := hidMk q0
  have HB := hidMk (Bk.new w 30 (jobC J (.slice a n c)))
  have HR := hidMk (h.up q0)
  have HN := hidMk hn
  clear q0 h hn
  go_enter Try.func56,Try.ntmps56
  show Code.wp Try.prog bcbody (QBC J w) _ _
  rw [bcbody_eq]
  go_wp2_with fail
  generalize hW : (w.alloc (.cells (jobC J (.slice a n c)) 30)) = w1 at HQ HB HR ⊢
  rw [bcrest1_eq]
  go_wp2_with (refine wpList_load_row rfl 30 _ rfl w.heap.size rfl _ (jobC J (.slice a n c)) _ _ HB.out Try.underlying30 rfl szJob ?_)
  refine (guided_any J a n c _ HN.out hm HR.out).mono ?_
  rintro e w2 ⟨rfl,hb⟩
  have HB2 := hidMk (HQ.out.trans (hb.mono HQ.out.size))
  obtain ⟨gv,hgv⟩ : ∃ x,x = (guidedI J).1 := ⟨_,rfl⟩
  obtain ⟨ge,hge⟩ : ∃ x,x = (guidedI J).2 := ⟨_,rfl⟩
  rw [← hgv,← hge]
  have HG := hidMk (And.intro hgv hge)
  clear hb HB HR hgv hge hW
  go_wp2_with fail
  rw [bcrest2_eq]
  go_wp2_with fail
  go_ret2
  refine ⟨?_,HB2.out⟩
  rw [← HG.out.1,← HG.out.2,show decide (ge = 0) = (ge == 0) from (by by_cases h : ge = 0 <;> simp [h])]
  rfl
noncomputable def chbody : Code := Try.f55.body.getD .skip
noncomputable def chrest1 : Code := sndB chbody
noncomputable def chrest2 : Code := sndB chrest1
set_option maxRecDepth 1000000 in
theorem chbody_eq : chbody = .seq (Code.region 0 #[⟨some 4,.assign (.const (.int .i64 0)),3,"game.go:75",#[],none⟩,⟨some 5,.assign (.const (.int .i64 0)),3,"game.go:75",#[⟨0,.chain⟩],none⟩,⟨some 6,.assign (.const (.bool false)),4,"game.go:75",#[⟨1,.chain⟩],none⟩] false) chrest1 := by kernel_rfl
set_option maxRecDepth 1000000 in
theorem chrest1_eq : chrest1 = .seq (.seq (Code.region 1 #[⟨some 11,.move (.tmp 0),37,"game.go:76",#[],none⟩,⟨some 12,.call { callee := .builtin .len,args := #[.tmp 11],argTypes := #[37] },3,"game.go:76",#[⟨0,.data⟩],none⟩,⟨some 13,.move (.const (.int .i64 0)),3,"game.go:76",#[],none⟩] false) (.block 0 (.loop (.seq (Code.region 2 #[⟨some 14,.binOp .lss 3 (.tmp 13) (.tmp 12) 3,0,"game.go:76",#[],none⟩] false) (.seq (.cond (.tmp 14) .skip (.exit 0)) (.seq (.block 1 (.seq (Code.region 3 #[⟨some 15,.move (.tmp 13),3,"game.go:76",#[],none⟩,⟨some 16,.indexAddr 37 (.tmp 11) (.tmp 13),0,"game.go:76",#[],none⟩,⟨some 17,.load 30 (.tmp 16),30,"game.go:76",#[⟨1,.data⟩],none⟩,⟨some 8,.alloc 30,0,"game.go:76",#[],none⟩,⟨some 7,.assign (.tmp 15),3,"game.go:76",#[⟨0,.data⟩,⟨0,.phase⟩,⟨1,.phase⟩,⟨2,.phase⟩,⟨3,.phase⟩],none⟩,⟨none,.store 30 (.tmp 8) (.tmp 17),0,"game.go:76",#[⟨3,.data⟩,⟨2,.data⟩,⟨4,.chain⟩,⟨0,.phase⟩,⟨1,.phase⟩,⟨2,.phase⟩,⟨3,.phase⟩,⟨4,.phase⟩],none⟩] false) (.seq (Code.region 4 #[⟨some 19,.move (.tmp 1),98,"game.go:77",#[],none⟩,⟨some 20,.load 30 (.tmp 8),30,"game.go:77",#[],none⟩,⟨some 21,.call { callee := .value (.tmp 19),args := #[.tmp 20],argTypes := #[30] },129,"game.go:77",#[⟨0,.data⟩,⟨1,.data⟩],none⟩,⟨some 18,.move (.tmp 21),129,"game.go:77",#[⟨2,.data⟩],none⟩,⟨some 22,.extract (.tmp 18) 0,3,"game.go:77",#[⟨3,.data⟩],none⟩,⟨some 23,.extract (.tmp 18) 1,4,"game.go:77",#[⟨3,.data⟩,⟨6,.gcOnly .lateStores⟩],none⟩,⟨some 9,.assign (.tmp 22),3,"game.go:77",#[⟨4,.data⟩,⟨2,.chain⟩,⟨0,.phase⟩,⟨1,.phase⟩,⟨2,.phase⟩,⟨3,.phase⟩,⟨4,.phase⟩,⟨5,.textOnly .lateStores⟩],none⟩,⟨some 10,.assign (.tmp 23),4,"game.go:77",#[⟨5,.data⟩,⟨6,.chain⟩,⟨0,.phase⟩,⟨1,.phase⟩,⟨2,.phase⟩,⟨3,.phase⟩,⟨4,.phase⟩,⟨5,.phase⟩,⟨6,.phase⟩],none⟩] false) (.seq (Code.region 5 #[⟨some 24,.move (.tmp 10),4,"game.go:78",#[],none⟩,⟨some 25,.move (.tmp 24),4,"game.go:78",#[⟨0,.data⟩],none⟩,⟨some 26,.move (.tmp 6),4,"game.go:78",#[⟨1,.guard⟩],some (1,true)⟩,⟨some 27,.unOp .not 4 (.tmp 26),4,"game.go:78",#[⟨2,.data⟩,⟨1,.guard⟩],some (1,true)⟩,⟨some 28,.move (.tmp 27),4,"game.go:78",#[⟨3,.data⟩,⟨1,.chain⟩,⟨1,.guard⟩],some (1,true)⟩,⟨some 29,.move (.tmp 9),3,"game.go:78",#[⟨4,.guard⟩],some (4,false)⟩,⟨some 30,.move (.tmp 5),3,"game.go:78",#[⟨4,.guard⟩],some (4,false)⟩,⟨some 31,.binOp .lss 3 (.tmp 29) (.tmp 30) 3,4,"game.go:78",#[⟨5,.data⟩,⟨6,.data⟩,⟨4,.guard⟩],some (4,false)⟩,⟨some 32,.pick (.tmp 28) (.const (.bool true)) (.tmp 31),4,"game.go:78",#[⟨4,.data⟩,⟨7,.data⟩,⟨1,.guard⟩],some (1,true)⟩,⟨some 33,.pick (.tmp 25) (.tmp 32) (.const (.bool false)),4,"game.go:78",#[⟨1,.data⟩,⟨8,.data⟩],none⟩] false) (.cond (.tmp 33) (Code.region 6 #[⟨some 34,.move (.tmp 7),3,"game.go:79",#[],none⟩,⟨some 35,.move (.tmp 9),3,"game.go:79",#[⟨2,.gcOnly .lateStores⟩],none⟩,⟨some 4,.assign (.tmp 34),3,"game.go:79",#[⟨0,.data⟩,⟨0,.phase⟩,⟨1,.textOnly .lateStores⟩],none⟩,⟨some 5,.assign (.tmp 35),3,"game.go:79",#[⟨1,.data⟩,⟨2,.chain⟩,⟨0,.phase⟩,⟨1,.phase⟩,⟨2,.phase⟩],none⟩,⟨some 6,.assign (.const (.bool true)),4,"game.go:79",#[⟨3,.chain⟩,⟨0,.phase⟩,⟨1,.phase⟩,⟨2,.phase⟩,⟨3,.phase⟩],none⟩] false) .skip))))) (Code.region 7 #[⟨some 36,.binOp .add 3 (.tmp 13) (.const (.int .i64 1)) 3,3,"game.go:76",#[],none⟩,⟨some 13,.move (.tmp 36),3,"game.go:76",#[⟨0,.data⟩],none⟩] false))))))) chrest2 := by kernel_rfl
set_option maxRecDepth 1000000 in
theorem chrest2_eq : chrest2 = .seq (Code.region 8 #[⟨some 37,.move (.tmp 4),3,"game.go:82",#[],none⟩,⟨some 38,.move (.tmp 5),3,"game.go:82",#[⟨3,.gcOnly .lateStores⟩],none⟩,⟨some 39,.move (.tmp 6),4,"game.go:82",#[⟨4,.gcOnly .lateStores⟩],none⟩,⟨some 4,.assign (.tmp 37),3,"game.go:82",#[⟨0,.data⟩,⟨0,.phase⟩,⟨1,.textOnly .lateStores⟩,⟨2,.textOnly .lateStores⟩],none⟩,⟨some 5,.assign (.tmp 38),3,"game.go:82",#[⟨1,.data⟩,⟨3,.chain⟩,⟨0,.phase⟩,⟨1,.phase⟩,⟨2,.textOnly .lateStores⟩,⟨3,.phase⟩],none⟩,⟨some 6,.assign (.tmp 39),4,"game.go:82",#[⟨2,.data⟩,⟨4,.chain⟩,⟨0,.phase⟩,⟨1,.phase⟩,⟨2,.phase⟩,⟨3,.phase⟩,⟨4,.phase⟩],none⟩] false) .ret := by kernel_rfl

def QCH (es : List Ent) (w0 : World) : Exit → Act → World → Prop := bodyPost Try.prog Try.f55 fun e w' => e = .returned (.tuple #[.int .i64 (cheapK (es.map Ent.J) es.length).1,.int .i64 (cheapK (es.map Ent.J) es.length).2.1,.bool (cheapK (es.map Ent.J) es.length).2.2]) ∧ Below w0.heap.size w0 w'
set_option maxHeartbeats 4000000 in
set_option maxRecDepth 1000000 in
theorem cheapest_any (a : Option Addr) (n c : Nat) (es : List Ent) (w : World) (hjs : Js w w.heap.size a n es) (hm : n ≤ 1000) :
    Calls Try.prog 55 #[.slice a n c,(.func (.func 56) #[] #[])] w fun e w' => e = .returned (.tuple #[.int .i64 (cheapK (es.map Ent.J) es.length).1,.int .i64 (cheapK (es.map Ent.J) es.length).2.1,.bool (cheapK (es.map Ent.J) es.length).2.2]) ∧ Below w.heap.size w w' := by
  have HJS := hidMk hjs
  clear hjs
  go_enter Try.func55,Try.ntmps55
  show Code.wp Try.prog chbody (QCH es w) _ _
  rw [chbody_eq]
  go_wp2_with fail
  rw [chrest1_eq]
  refine wp_seq_k fun K0 hK0 => ?_
  go_wp2_with fail
  go_loopw [4,5,6,13] (fun pv lv kv iv wr => ∃ i : Nat,i ≤ n ∧ iv = .int .i64 i ∧ pv = .int .i64 (cheapK (es.map Ent.J) i).1 ∧ lv = .int .i64 (cheapK (es.map Ent.J) i).2.1 ∧ kv = .bool (cheapK (es.map Ent.J) i).2.2 ∧ Below w.heap.size w wr) (fun _ _ _ iv _ => n - (intOf iv).toNat)
  case atStart => exact ⟨0,Nat.zero_le _,rfl,rfl,rfl,rfl,Below.refl _ _⟩
  case round =>
    obtain ⟨i,hi,rfl,rfl,rfl,rfl,hB⟩ := hrel
    obtain ⟨s1,hs1⟩ : ∃ x,x = (cheapK (es.map Ent.J) i).1 := ⟨_,rfl⟩
    obtain ⟨s2,hs2⟩ : ∃ x,x = (cheapK (es.map Ent.J) i).2.1 := ⟨_,rfl⟩
    obtain ⟨s3,hs3⟩ : ∃ x,x = (cheapK (es.map Ent.J) i).2.2 := ⟨_,rfl⟩
    rw [← hs1,← hs2,← hs3]
    have HS := hidMk (And.intro hs1 (And.intro hs2 hs3))
    clear hs1 hs2 hs3
    by_cases hlt : i < n
    · skip
      have hil : i < es.length := by rw [← HJS.out.len]; exact hlt
      obtain ⟨e,he⟩ : ∃ e,es[i]? = some e := ⟨es[i]'hil,List.getElem?_eq_getElem hil⟩
      obtain ⟨b,off,rfl,hbB,hrow⟩ := HJS.out.row i e he
      obtain ⟨hrg,hen,hem⟩ := HJS.out.each e (List.mem_of_getElem? he)
      have HROW := hidMk (rangeAt_keep hrow (fun p hp => hB.cell (by rw [hp]; exact hbB)))
      have HRG := hidMk (hrg.up hB)
      have HE := hidMk he
      have HEN := hidMk hen
      have HB := hidMk hB
      have hz := hB.size
      have hgj : (es.map Ent.J)[i]? = some e.J := by rw [List.getElem?_map,he]; rfl
      have HGJ := hidMk hgj
      clear hrow hrg he hen hB hgj

      go_wp2_with (first | (refine wpList_load_midA rfl 30 _ rfl b (off + i * 18) rfl (jobC e.J (.slice e.a e.n e.c)) _ HROW.out Try.underlying30 rfl szJob ?_) | (first | (refine wpList_store_row rfl 30 _ _ rfl wr.heap.size (jobC e.J (.slice e.a e.n e.c)) rfl rfl _ _ (Bk.new _ _ _) szJob rfl (oneJob _ _ _ _) ?_; rw [World.setRow_alloc_new])) | (refine wpList_load_row rfl 30 _ rfl wr.heap.size rfl _ (jobC e.J (.slice e.a e.n e.c)) _ _ (Bk.new _ _ _) Try.underlying30 rfl szJob ?_))
      refine (bcost_any e.J e.a e.n e.c _ HEN.out hem (HRG.out.up ((Below.refl _ _).alloc (Nat.le_refl _) _))).mono ?_
      rintro e' w2 ⟨rfl,hb2⟩
      have HB2 := hidMk (HB.out.trans (((Below.refl _ _).alloc (Nat.le_refl _) _).trans (hb2.mono (by simp)) |>.mono hz))
      clear hb2
      obtain ⟨gv,hgv⟩ : ∃ x,x = (guidedI e.J).1 := ⟨_,rfl⟩
      obtain ⟨ge,hge⟩ : ∃ x,x = (guidedI e.J).2 := ⟨_,rfl⟩
      rw [← hgv,← hge]
      have HST := hidMk (cheapK_step HGJ.out)
      rw [← hgv,← hge,← HS.out.2.1,← HS.out.2.2] at HST
      have HG := hidMk (And.intro hgv hge)
      clear hgv hge
      by_cases hg0 : ge = 0
      · subst hg0
        cases s3 with
        | true =>
          by_cases hgl : gv < s2
          · go_wp2_with fail
            go_roundw
            case rel =>
              refine ⟨i + 1,by omega,by go_num,?_,?_,?_,HB2.out⟩ <;> rw [show cheapK (es.map Ent.J) (i + 1) = ((i : Int),gv,true) from by rw [HST.out,if_pos (by simp [hgl])]]
            case measure => simp [intOf]; omega
          · go_wp2_with fail
            go_roundw
            case rel =>
              have E : cheapK (es.map Ent.J) (i + 1) = cheapK (es.map Ent.J) i := by rw [HST.out,if_neg (by simp [hgl])]
              exact ⟨i + 1,by omega,by go_num,by rw [E,← HS.out.1],by rw [E,← HS.out.2.1],by rw [E,← HS.out.2.2],HB2.out⟩
            case measure => simp [intOf]; omega
        | false =>
          go_wp2_with fail
          go_roundw
          case rel =>
            refine ⟨i + 1,by omega,by go_num,?_,?_,?_,HB2.out⟩ <;> rw [show cheapK (es.map Ent.J) (i + 1) = ((i : Int),gv,true) from by rw [HST.out,if_pos (by simp [])]]
          case measure => simp [intOf]; omega
      · go_wp2_with fail
        go_roundw
        case rel =>
          have E : cheapK (es.map Ent.J) (i + 1) = cheapK (es.map Ent.J) i := by rw [HST.out,if_neg (by simp [hg0])]
          exact ⟨i + 1,by omega,by go_num,by rw [E,← HS.out.1],by rw [E,← HS.out.2.1],by rw [E,← HS.out.2.2],HB2.out⟩
        case measure => simp [intOf]; omega
    · have hin : i = n := by omega
      go_wp2_with fail
      rw [chrest2_eq]
      go_wp2_with fail
      go_ret3
      have e : i = es.length := by rw [hin]; exact HJS.out.len
      rw [HS.out.1,HS.out.2.1,HS.out.2.2,e]
      exact ⟨rfl,hB⟩
noncomputable def blbody : Code := Try.f19.body.getD .skip
noncomputable def blrest1 : Code := sndB blbody
noncomputable def blrest2 : Code := sndB blrest1
noncomputable def blrest3 : Code := sndB blrest2
noncomputable def blrest4 : Code := sndB blrest3
noncomputable def blrest5 : Code := sndB blrest4
noncomputable def blrest6 : Code := sndB blrest5
set_option maxRecDepth 1000000 in
theorem blbody_eq : blbody = .seq (Code.region 0 #[⟨some 2,.assign (.const (.int .i64 0)),3,"game.go:52",#[],none⟩,⟨some 3,.assign (.const (.int .i64 0)),3,"game.go:52",#[⟨0,.chain⟩],none⟩,⟨some 4,.assign (.const (.int .i64 0)),39,"game.go:52",#[⟨1,.chain⟩],none⟩] false) blrest1 := by kernel_rfl
set_option maxRecDepth 1000000 in
theorem blrest1_eq : blrest1 = .seq (.seq (Code.region 1 #[⟨some 9,.move (.tmp 0),37,"game.go:53",#[],none⟩,⟨some 10,.call { callee := .builtin .len,args := #[.tmp 9],argTypes := #[37] },3,"game.go:53",#[⟨0,.data⟩],none⟩,⟨some 11,.binOp .eql 3 (.tmp 10) (.const (.int .i64 0)) 3,4,"game.go:53",#[⟨1,.data⟩],none⟩] false) (.cond (.tmp 11) (.seq (Code.region 2 #[⟨some 2,.assign (.const (.int .i64 0)),3,"game.go:54",#[],none⟩,⟨some 3,.assign (.const (.int .i64 0)),3,"game.go:54",#[⟨0,.chain⟩,⟨0,.phase⟩],none⟩,⟨some 4,.assign (.const (.int .i64 7)),39,"game.go:54",#[⟨1,.chain⟩,⟨0,.phase⟩,⟨1,.phase⟩],none⟩] false) .ret) .skip)) blrest2 := by kernel_rfl
set_option maxRecDepth 1000000 in
theorem blrest2_eq : blrest2 = .seq (.seq (Code.region 3 #[⟨some 12,.move (.tmp 0),37,"game.go:56",#[],none⟩,⟨some 13,.call { callee := .builtin .len,args := #[.tmp 12],argTypes := #[37] },3,"game.go:56",#[⟨0,.data⟩],none⟩,⟨some 14,.binOp .gtr 3 (.tmp 13) (.const (.int .i64 6)) 3,4,"game.go:56",#[⟨1,.data⟩],none⟩] false) (.cond (.tmp 14) (.seq (Code.region 4 #[⟨some 2,.assign (.const (.int .i64 0)),3,"game.go:57",#[],none⟩,⟨some 3,.assign (.const (.int .i64 0)),3,"game.go:57",#[⟨0,.chain⟩,⟨0,.phase⟩],none⟩,⟨some 4,.assign (.const (.int .i64 6)),39,"game.go:57",#[⟨1,.chain⟩,⟨0,.phase⟩,⟨1,.phase⟩],none⟩] false) .ret) .skip)) blrest3 := by kernel_rfl
set_option maxRecDepth 1000000 in
theorem blrest3_eq : blrest3 = .seq (.seq (Code.region 5 #[⟨some 15,.move (.tmp 0),37,"game.go:59",#[],none⟩,⟨some 16,.call { callee := .builtin .len,args := #[.tmp 15],argTypes := #[37] },3,"game.go:59",#[⟨0,.data⟩],none⟩,⟨some 17,.move (.const (.int .i64 0)),3,"game.go:59",#[],none⟩] false) (.block 0 (.loop (.seq (Code.region 6 #[⟨some 18,.binOp .lss 3 (.tmp 17) (.tmp 16) 3,0,"game.go:59",#[],none⟩] false) (.seq (.cond (.tmp 18) .skip (.exit 0)) (.seq (.block 1 (.seq (Code.region 7 #[⟨some 19,.indexAddr 37 (.tmp 15) (.tmp 17),0,"game.go:59",#[],none⟩,⟨some 20,.load 30 (.tmp 19),30,"game.go:59",#[⟨0,.data⟩],none⟩,⟨some 6,.alloc 30,0,"game.go:59",#[],none⟩,⟨none,.store 30 (.tmp 6) (.tmp 20),0,"game.go:59",#[⟨2,.data⟩,⟨1,.data⟩,⟨0,.phase⟩,⟨1,.phase⟩,⟨2,.phase⟩],none⟩] false) (.seq (Code.region 8 #[⟨some 21,.load 30 (.tmp 6),30,"game.go:60",#[],none⟩,⟨some 22,.call { callee := .value (.func 47),args := #[.tmp 21],argTypes := #[30] },39,"game.go:60",#[⟨0,.data⟩],none⟩,⟨some 7,.assign (.tmp 22),39,"game.go:60",#[⟨1,.data⟩,⟨1,.chain⟩,⟨0,.phase⟩,⟨1,.phase⟩],none⟩] false) (.seq (Code.region 9 #[⟨some 23,.move (.tmp 7),39,"game.go:60",#[],none⟩,⟨some 24,.binOp .neq 39 (.tmp 23) (.const (.int .i64 0)) 39,4,"game.go:60",#[⟨0,.data⟩],none⟩] false) (.cond (.tmp 24) (.seq (Code.region 10 #[⟨some 25,.move (.tmp 7),39,"game.go:61",#[⟨2,.gcOnly .lateStores⟩],none⟩,⟨some 2,.assign (.const (.int .i64 0)),3,"game.go:61",#[⟨0,.textOnly .lateStores⟩],none⟩,⟨some 3,.assign (.const (.int .i64 0)),3,"game.go:61",#[⟨1,.chain⟩,⟨0,.textOnly .lateStores⟩,⟨1,.phase⟩],none⟩,⟨some 4,.assign (.tmp 25),39,"game.go:61",#[⟨0,.data⟩,⟨2,.chain⟩,⟨0,.phase⟩,⟨1,.phase⟩,⟨2,.phase⟩],none⟩] false) .ret) .skip))))) (Code.region 11 #[⟨some 26,.binOp .add 3 (.tmp 17) (.const (.int .i64 1)) 3,3,"game.go:59",#[],none⟩,⟨some 17,.move (.tmp 26),3,"game.go:59",#[⟨0,.data⟩],none⟩] false))))))) blrest4 := by kernel_rfl
set_option maxRecDepth 1000000 in
theorem blrest4_eq : blrest4 = .seq (Code.region 12 #[⟨some 28,.move (.tmp 0),37,"game.go:64",#[],none⟩,⟨some 29,.call { callee := .value (.func 55),args := #[.tmp 28,.func 56],argTypes := #[37,98] },96,"game.go:64",#[⟨0,.data⟩],none⟩,⟨some 27,.move (.tmp 29),96,"game.go:64",#[⟨1,.data⟩],none⟩,⟨some 30,.extract (.tmp 27) 0,3,"game.go:64",#[⟨2,.data⟩],none⟩,⟨some 31,.extract (.tmp 27) 1,3,"game.go:64",#[⟨2,.data⟩,⟨6,.gcOnly .lateStores⟩],none⟩,⟨some 32,.extract (.tmp 27) 2,4,"game.go:64",#[⟨2,.data⟩,⟨7,.gcOnly .lateStores⟩],none⟩,⟨some 2,.assign (.tmp 30),3,"game.go:64",#[⟨3,.data⟩,⟨1,.chain⟩,⟨0,.phase⟩,⟨1,.phase⟩,⟨2,.phase⟩,⟨3,.phase⟩,⟨4,.textOnly .lateStores⟩,⟨5,.textOnly .lateStores⟩],none⟩,⟨some 3,.assign (.tmp 31),3,"game.go:64",#[⟨4,.data⟩,⟨6,.chain⟩,⟨0,.phase⟩,⟨1,.phase⟩,⟨2,.phase⟩,⟨3,.phase⟩,⟨4,.phase⟩,⟨5,.textOnly .lateStores⟩,⟨6,.phase⟩],none⟩,⟨some 8,.assign (.tmp 32),4,"game.go:64",#[⟨5,.data⟩,⟨7,.chain⟩,⟨0,.phase⟩,⟨1,.phase⟩,⟨2,.phase⟩,⟨3,.phase⟩,⟨4,.phase⟩,⟨5,.phase⟩,⟨6,.phase⟩,⟨7,.phase⟩],none⟩] false) blrest5 := by kernel_rfl
set_option maxRecDepth 1000000 in
theorem blrest5_eq : blrest5 = .seq (.seq (Code.region 13 #[⟨some 33,.move (.tmp 8),4,"game.go:68",#[],none⟩,⟨some 34,.unOp .not 4 (.tmp 33),4,"game.go:68",#[⟨0,.data⟩],none⟩] false) (.cond (.tmp 34) (.seq (Code.region 14 #[⟨some 2,.assign (.const (.int .i64 0)),3,"game.go:69",#[],none⟩,⟨some 3,.assign (.const (.int .i64 0)),3,"game.go:69",#[⟨0,.chain⟩,⟨0,.phase⟩],none⟩,⟨some 4,.assign (.const (.int .i64 11)),39,"game.go:69",#[⟨1,.chain⟩,⟨0,.phase⟩,⟨1,.phase⟩],none⟩] false) .ret) .skip)) blrest6 := by kernel_rfl
set_option maxRecDepth 1000000 in
theorem blrest6_eq : blrest6 = .seq (Code.region 15 #[⟨some 35,.move (.tmp 2),3,"game.go:71",#[],none⟩,⟨some 36,.move (.tmp 3),3,"game.go:71",#[⟨2,.gcOnly .lateStores⟩],none⟩,⟨some 2,.assign (.tmp 35),3,"game.go:71",#[⟨0,.data⟩,⟨0,.phase⟩,⟨1,.textOnly .lateStores⟩],none⟩,⟨some 3,.assign (.tmp 36),3,"game.go:71",#[⟨1,.data⟩,⟨2,.chain⟩,⟨0,.phase⟩,⟨1,.phase⟩,⟨2,.phase⟩],none⟩,⟨some 4,.assign (.const (.int .i64 0)),39,"game.go:71",#[⟨3,.chain⟩,⟨0,.phase⟩,⟨1,.phase⟩,⟨2,.phase⟩,⟨3,.phase⟩],none⟩] false) .ret := by kernel_rfl

def QBL (es : List Ent) (w0 : World) : Exit → Act → World → Prop := bodyPost Try.prog Try.f19 fun e w' => e = .returned (.tuple #[.int .i64 (blankI (es.map Ent.J)).1,.int .i64 (blankI (es.map Ent.J)).2.1,.int .i64 (blankI (es.map Ent.J)).2.2]) ∧ Below w0.heap.size w0 w'
theorem blank_0 {l : List Jb} (h : l.length = 0) : blankI l = (0,0,7) := by unfold blankI; rw [if_pos h]
theorem blank_6 {l : List Jb} (h : 6 < l.length) : blankI l = (0,0,6) := by unfold blankI; rw [if_neg (by omega),if_pos h]
theorem blank_e {l : List Jb} (h0 : l.length ≠ 0) (h6 : ¬ 6 < l.length) (h : firstErr l ≠ 0) : blankI l = (0,0,firstErr l) := by unfold blankI; rw [if_neg h0,if_neg h6,if_pos h]
theorem blank_k {l : List Jb} (h0 : l.length ≠ 0) (h6 : ¬ 6 < l.length) (h : firstErr l = 0) : blankI l = if (cheapK l l.length).2.2 = true then ((cheapK l l.length).1,(cheapK l l.length).2.1,0) else (0,0,11) := by unfold blankI; rw [if_neg h0,if_neg h6,if_neg (by simp [h])]
set_option maxHeartbeats 4000000 in
set_option maxRecDepth 1000000 in
theorem blank_any (a : Option Addr) (n c : Nat) (es : List Ent) (w : World) (hjs : Js w w.heap.size a n es) (hm : n ≤ 1000) :
    Calls Try.prog 19 #[.slice a n c] w fun e w' => e = .returned (.tuple #[.int .i64 (blankI (es.map Ent.J)).1,.int .i64 (blankI (es.map Ent.J)).2.1,.int .i64 (blankI (es.map Ent.J)).2.2]) ∧ Below w.heap.size w w' := by
  have HJS := hidMk hjs
  have HL := hidMk (show (es.map Ent.J).length = n by rw [List.length_map]; exact hjs.len.symm)
  clear hjs
  go_enter Try.func19,Try.ntmps19
  show Code.wp Try.prog blbody (QBL es w) _ _
  rw [blbody_eq]
  go_wp2_with fail
  rw [blrest1_eq]
  by_cases h0 : n = 0
  · go_wp2_with fail
    go_ret3
    rw [blank_0 (HL.out.trans h0)]
    exact ⟨rfl,Below.refl _ _⟩
  go_wp2_with fail
  rw [blrest2_eq]
  by_cases h6 : 6 < n
  · go_wp2_with fail
    go_ret3
    rw [blank_6 (by rw [HL.out]; exact h6)]
    exact ⟨rfl,Below.refl _ _⟩
  go_wp2_with fail
  have H0 := hidMk (show (es.map Ent.J).length ≠ 0 by rw [HL.out]; exact h0)
  have H6 := hidMk (show ¬ 6 < (es.map Ent.J).length by rw [HL.out]; exact h6)
  rw [blrest3_eq]
  refine wp_seq_k fun K0 hK0 => ?_
  go_wp2_with fail
  generalize ((n : Int) == 0) = q0
  generalize decide (6 < (n : Int)) = q6
  go_loopw [2,3,4,17] (fun _ _ _ iv wr => ∃ i : Nat,i ≤ n ∧ iv = .int .i64 i ∧ Hid (∀ j ∈ (es.map Ent.J).take i,j.check = 0) ∧ Below w.heap.size w wr) (fun _ _ _ iv _ => n - (intOf iv).toNat)
  case atStart => exact ⟨0,Nat.zero_le _,rfl,hidMk (by simp),Below.refl _ _⟩
  case round =>
    obtain ⟨i,hi,rfl,HA,hB⟩ := hrel
    by_cases hlt : i < n
    · skip
      have hil : i < es.length := by rw [← HJS.out.len]; exact hlt
      obtain ⟨e,he⟩ : ∃ e,es[i]? = some e := ⟨es[i]'hil,List.getElem?_eq_getElem hil⟩
      obtain ⟨b,off,rfl,hbB,hrow⟩ := HJS.out.row i e he
      obtain ⟨hrg,hen,hem⟩ := HJS.out.each e (List.mem_of_getElem? he)
      have HROW := hidMk (rangeAt_keep hrow (fun p hp => hB.cell (by rw [hp]; exact hbB)))
      have HRG := hidMk (hrg.up hB)
      have HE := hidMk he
      have HEN := hidMk hen
      have HB := hidMk hB
      have hz := hB.size
      have hgj : (es.map Ent.J)[i]? = some e.J := by rw [List.getElem?_map,he]; rfl
      have HGJ := hidMk hgj
      clear hrow hrg he hen hB hgj

      go_wp2_with (first | (refine wpList_load_midA rfl 30 _ rfl b (off + i * 18) rfl (jobC e.J (.slice e.a e.n e.c)) _ HROW.out Try.underlying30 rfl szJob ?_) | (first | (refine wpList_store_row rfl 30 _ _ rfl wr.heap.size (jobC e.J (.slice e.a e.n e.c)) rfl rfl _ _ (Bk.new _ _ _) szJob rfl (oneJob _ _ _ _) ?_; rw [World.setRow_alloc_new])) | (refine wpList_load_row rfl 30 _ rfl wr.heap.size rfl _ (jobC e.J (.slice e.a e.n e.c)) _ _ (Bk.new _ _ _) Try.underlying30 rfl szJob ?_))
      refine (check_any e.J e.a e.n e.c _ HEN.out hem (HRG.out.up ((Below.refl _ _).alloc (Nat.le_refl _) _))).mono ?_
      rintro e' w2 ⟨rfl,hb2⟩
      have HB2 := hidMk (HB.out.trans (((Below.refl _ _).alloc (Nat.le_refl _) _).trans (hb2.mono (by simp)) |>.mono hz))
      clear hb2
      by_cases hc : e.J.check = 0
      · have HC := hidMk hc
        rw [hc]
        clear hc
        go_wp2_with fail
        go_roundw
        case rel =>
          refine ⟨i + 1,by omega,by go_num,hidMk ?_,HB2.out⟩
          intro j hj
          rw [List.take_add_one,HGJ.out,Option.toList_some,List.mem_append,List.mem_singleton] at hj
          rcases hj with hj | rfl
          · exact HA.out j hj
          · exact HC.out
        case measure => simp [intOf]; omega
      · have HC := hidMk hc
        obtain ⟨ck,hck⟩ : ∃ x,x = e.J.check := ⟨_,rfl⟩
        rw [← hck] at hc ⊢
        have HF := hidMk (firstErr_at _ i e.J HGJ.out HA.out HC.out)
        rw [← hck] at HF
        clear hck
        go_wp2_with fail
        go_ret3
        rw [blank_e H0.out H6.out (by rw [HF.out]; exact hc),HF.out]
        exact ⟨rfl,HB2.out⟩
    · have hin : i = n := by omega
      have HF := hidMk (firstErr_ok (es.map Ent.J) (fun j hj => HA.out j (by rw [List.take_of_length_le (by rw [HL.out]; omega)]; exact hj)))
      have HBK := hidMk (blank_k H0.out H6.out HF.out)
      have HB := hidMk hB
      clear hB
      go_wp2_with fail
      rw [blrest4_eq]
      go_wp2_with fail
      refine (cheapest_any a n c es _ (HJS.out.up HB.out) hm).mono ?_
      rintro e' w2 ⟨rfl,hb2⟩
      have HB2 := hidMk (HB.out.trans (hb2.mono HB.out.size))
      clear hb2
      obtain ⟨s1,hs1⟩ : ∃ x,x = (cheapK (es.map Ent.J) es.length).1 := ⟨_,rfl⟩
      obtain ⟨s2,hs2⟩ : ∃ x,x = (cheapK (es.map Ent.J) es.length).2.1 := ⟨_,rfl⟩
      obtain ⟨s3,hs3⟩ : ∃ x,x = (cheapK (es.map Ent.J) es.length).2.2 := ⟨_,rfl⟩
      rw [List.length_map,← hs1,← hs2,← hs3] at HBK
      rw [← hs1,← hs2,← hs3]
      clear hs1 hs2 hs3
      go_wp2_with fail
      rw [blrest5_eq]
      cases s3 with
      | true =>
        go_wp2_with fail
        rw [blrest6_eq]
        go_wp2_with fail
        go_ret3
        rw [HBK.out,if_pos (by trivial)]
        exact ⟨rfl,HB2.out⟩
      | false =>
        go_wp2_with fail
        go_ret3
        rw [HBK.out,if_neg (by simp)]
        exact ⟨rfl,HB2.out⟩
end Go.Proofs.Ytadmcafbffjjbaa
/- Blank of the reference. -/
namespace Go.Proofs.Ytadmcafbffjjbaa
set_option linter.all false
open Go.RowKit
noncomputable def rbbody : Code := Try.f20.body.getD .skip
noncomputable def rbrest1 : Code := sndB rbbody
noncomputable def rbrest2 : Code := sndB rbrest1
noncomputable def rbrest3 : Code := sndB rbrest2
noncomputable def rbrest4 : Code := sndB rbrest3
noncomputable def rbrest5 : Code := sndB rbrest4
noncomputable def rbrest6 : Code := sndB rbrest5
noncomputable def rbrest7 : Code := sndB rbrest6
set_option maxRecDepth 1000000 in
theorem rbbody_eq : rbbody = .seq (Code.region 0 #[⟨some 2,.assign (.const (.int .i64 0)),3,"game.go:77",#[],none⟩,⟨some 3,.assign (.const (.int .i64 0)),3,"game.go:77",#[⟨0,.chain⟩],none⟩,⟨some 4,.assign (.const (.int .i64 0)),39,"game.go:77",#[⟨1,.chain⟩],none⟩] false) rbrest1 := by kernel_rfl
set_option maxRecDepth 1000000 in
theorem rbrest1_eq : rbrest1 = .seq (.seq (Code.region 1 #[⟨some 11,.move (.tmp 0),37,"game.go:78",#[],none⟩,⟨some 12,.call { callee := .builtin .len,args := #[.tmp 11],argTypes := #[37] },3,"game.go:78",#[⟨0,.data⟩],none⟩,⟨some 13,.binOp .eql 3 (.tmp 12) (.const (.int .i64 0)) 3,4,"game.go:78",#[⟨1,.data⟩],none⟩] false) (.cond (.tmp 13) (.seq (Code.region 2 #[⟨some 2,.assign (.const (.int .i64 0)),3,"game.go:79",#[],none⟩,⟨some 3,.assign (.const (.int .i64 0)),3,"game.go:79",#[⟨0,.chain⟩,⟨0,.phase⟩],none⟩,⟨some 4,.assign (.const (.int .i64 7)),39,"game.go:79",#[⟨1,.chain⟩,⟨0,.phase⟩,⟨1,.phase⟩],none⟩] false) .ret) .skip)) rbrest2 := by kernel_rfl
set_option maxRecDepth 1000000 in
theorem rbrest2_eq : rbrest2 = .seq (.seq (Code.region 3 #[⟨some 14,.move (.tmp 0),37,"game.go:81",#[],none⟩,⟨some 15,.call { callee := .builtin .len,args := #[.tmp 14],argTypes := #[37] },3,"game.go:81",#[⟨0,.data⟩],none⟩,⟨some 16,.binOp .gtr 3 (.tmp 15) (.const (.int .i64 6)) 3,4,"game.go:81",#[⟨1,.data⟩],none⟩] false) (.cond (.tmp 16) (.seq (Code.region 4 #[⟨some 2,.assign (.const (.int .i64 0)),3,"game.go:82",#[],none⟩,⟨some 3,.assign (.const (.int .i64 0)),3,"game.go:82",#[⟨0,.chain⟩,⟨0,.phase⟩],none⟩,⟨some 4,.assign (.const (.int .i64 6)),39,"game.go:82",#[⟨1,.chain⟩,⟨0,.phase⟩,⟨1,.phase⟩],none⟩] false) .ret) .skip)) rbrest3 := by kernel_rfl
set_option maxRecDepth 1000000 in
theorem rbrest3_eq : rbrest3 = .seq (.seq (Code.region 5 #[⟨some 5,.assign (.const (.int .i64 0)),3,"game.go:84",#[],none⟩] false) (.block 0 (.loop (.seq (.seq (Code.region 6 #[⟨some 17,.move (.tmp 5),3,"game.go:84",#[],none⟩,⟨some 18,.move (.tmp 0),37,"game.go:84",#[],none⟩,⟨some 19,.call { callee := .builtin .len,args := #[.tmp 18],argTypes := #[37] },3,"game.go:84",#[⟨1,.data⟩],none⟩,⟨some 20,.binOp .lss 3 (.tmp 17) (.tmp 19) 3,4,"game.go:84",#[⟨0,.data⟩,⟨2,.data⟩],none⟩] false) (.cond (.tmp 20) .skip (.exit 0))) (.seq (.block 1 (.seq (Code.region 8 #[⟨some 23,.move (.tmp 0),37,"game.go:85",#[],none⟩,⟨some 24,.move (.tmp 5),3,"game.go:85",#[],none⟩,⟨some 25,.indexAddr 37 (.tmp 23) (.tmp 24),0,"game.go:85",#[⟨0,.data⟩,⟨1,.data⟩],none⟩,⟨some 26,.load 30 (.tmp 25),30,"game.go:85",#[⟨2,.data⟩],none⟩,⟨some 27,.call { callee := .value (.func 39),args := #[.tmp 26],argTypes := #[30] },39,"game.go:85",#[⟨3,.data⟩],none⟩,⟨some 6,.assign (.tmp 27),39,"game.go:85",#[⟨4,.data⟩,⟨4,.chain⟩,⟨0,.phase⟩,⟨1,.phase⟩,⟨2,.phase⟩,⟨3,.phase⟩,⟨4,.phase⟩],none⟩] false) (.seq (Code.region 9 #[⟨some 28,.move (.tmp 6),39,"game.go:85",#[],none⟩,⟨some 29,.binOp .neq 39 (.tmp 28) (.const (.int .i64 0)) 39,4,"game.go:85",#[⟨0,.data⟩],none⟩] false) (.cond (.tmp 29) (.seq (Code.region 10 #[⟨some 30,.move (.tmp 6),39,"game.go:86",#[⟨2,.gcOnly .lateStores⟩],none⟩,⟨some 2,.assign (.const (.int .i64 0)),3,"game.go:86",#[⟨0,.textOnly .lateStores⟩],none⟩,⟨some 3,.assign (.const (.int .i64 0)),3,"game.go:86",#[⟨1,.chain⟩,⟨0,.textOnly .lateStores⟩,⟨1,.phase⟩],none⟩,⟨some 4,.assign (.tmp 30),39,"game.go:86",#[⟨0,.data⟩,⟨2,.chain⟩,⟨0,.phase⟩,⟨1,.phase⟩,⟨2,.phase⟩],none⟩] false) .ret) .skip)))) (Code.region 7 #[⟨some 21,.move (.tmp 5),3,"game.go:84",#[],none⟩,⟨some 22,.binOp .add 3 (.tmp 21) (.const (.int .i64 1)) 3,3,"game.go:84",#[⟨0,.data⟩],none⟩,⟨some 5,.assign (.tmp 22),3,"game.go:84",#[⟨1,.data⟩,⟨0,.phase⟩,⟨1,.phase⟩],none⟩] false)))))) rbrest4 := by kernel_rfl
set_option maxRecDepth 1000000 in
theorem rbrest4_eq : rbrest4 = .seq (Code.region 11 #[⟨some 7,.assign (.const (.int .i64 (-1))),3,"game.go:89",#[],none⟩,⟨some 8,.assign (.const (.int .i64 0)),3,"game.go:89",#[⟨0,.chain⟩,⟨0,.phase⟩],none⟩] false) rbrest5 := by kernel_rfl
set_option maxRecDepth 1000000 in
theorem rbrest5_eq : rbrest5 = .seq (.seq (Code.region 12 #[⟨some 9,.assign (.const (.int .i64 0)),3,"game.go:90",#[],none⟩] false) (.block 2 (.loop (.seq (.seq (Code.region 13 #[⟨some 31,.move (.tmp 9),3,"game.go:90",#[],none⟩,⟨some 32,.move (.tmp 0),37,"game.go:90",#[],none⟩,⟨some 33,.call { callee := .builtin .len,args := #[.tmp 32],argTypes := #[37] },3,"game.go:90",#[⟨1,.data⟩],none⟩,⟨some 34,.binOp .lss 3 (.tmp 31) (.tmp 33) 3,4,"game.go:90",#[⟨0,.data⟩,⟨2,.data⟩],none⟩] false) (.cond (.tmp 34) .skip (.exit 2))) (.seq (.block 3 (.seq (Code.region 15 #[⟨some 37,.move (.tmp 0),37,"game.go:91",#[],none⟩,⟨some 38,.move (.tmp 9),3,"game.go:91",#[],none⟩,⟨some 39,.indexAddr 37 (.tmp 37) (.tmp 38),0,"game.go:91",#[⟨0,.data⟩,⟨1,.data⟩],none⟩,⟨some 40,.load 30 (.tmp 39),30,"game.go:91",#[⟨2,.data⟩],none⟩,⟨some 41,.call { callee := .value (.func 50),args := #[.tmp 40],argTypes := #[30] },3,"game.go:91",#[⟨3,.data⟩],none⟩,⟨some 10,.assign (.tmp 41),3,"game.go:91",#[⟨4,.data⟩,⟨4,.chain⟩,⟨0,.phase⟩,⟨1,.phase⟩,⟨2,.phase⟩,⟨3,.phase⟩,⟨4,.phase⟩],none⟩] false) (.seq (Code.region 16 #[⟨some 42,.move (.tmp 10),3,"game.go:91",#[],none⟩,⟨some 43,.binOp .geq 3 (.tmp 42) (.const (.int .i64 0)) 3,4,"game.go:91",#[⟨0,.data⟩],none⟩,⟨some 44,.move (.tmp 43),4,"game.go:91",#[⟨1,.data⟩],none⟩,⟨some 45,.move (.tmp 7),3,"game.go:91",#[⟨2,.guard⟩],some (2,true)⟩,⟨some 46,.binOp .lss 3 (.tmp 45) (.const (.int .i64 0)) 3,4,"game.go:91",#[⟨3,.data⟩,⟨2,.guard⟩],some (2,true)⟩,⟨some 47,.move (.tmp 46),4,"game.go:91",#[⟨4,.data⟩,⟨2,.chain⟩,⟨2,.guard⟩],some (2,true)⟩,⟨some 48,.move (.tmp 10),3,"game.go:91",#[⟨5,.guard⟩],some (5,false)⟩,⟨some 49,.move (.tmp 8),3,"game.go:91",#[⟨5,.guard⟩],some (5,false)⟩,⟨some 50,.binOp .lss 3 (.tmp 48) (.tmp 49) 3,4,"game.go:91",#[⟨6,.data⟩,⟨7,.data⟩,⟨5,.guard⟩],some (5,false)⟩,⟨some 51,.pick (.tmp 47) (.const (.bool true)) (.tmp 50),4,"game.go:91",#[⟨5,.data⟩,⟨8,.data⟩,⟨2,.guard⟩],some (2,true)⟩,⟨some 52,.pick (.tmp 44) (.tmp 51) (.const (.bool false)),4,"game.go:91",#[⟨2,.data⟩,⟨9,.data⟩],none⟩] false) (.cond (.tmp 52) (Code.region 17 #[⟨some 53,.move (.tmp 9),3,"game.go:92",#[],none⟩,⟨some 54,.move (.tmp 10),3,"game.go:92",#[⟨2,.gcOnly .lateStores⟩],none⟩,⟨some 7,.assign (.tmp 53),3,"game.go:92",#[⟨0,.data⟩,⟨0,.phase⟩,⟨1,.textOnly .lateStores⟩],none⟩,⟨some 8,.assign (.tmp 54),3,"game.go:92",#[⟨1,.data⟩,⟨2,.chain⟩,⟨0,.phase⟩,⟨1,.phase⟩,⟨2,.phase⟩],none⟩] false) .skip)))) (Code.region 14 #[⟨some 35,.move (.tmp 9),3,"game.go:90",#[],none⟩,⟨some 36,.binOp .add 3 (.tmp 35) (.const (.int .i64 1)) 3,3,"game.go:90",#[⟨0,.data⟩],none⟩,⟨some 9,.assign (.tmp 36),3,"game.go:90",#[⟨1,.data⟩,⟨0,.phase⟩,⟨1,.phase⟩],none⟩] false)))))) rbrest6 := by kernel_rfl
set_option maxRecDepth 1000000 in
theorem rbrest6_eq : rbrest6 = .seq (.seq (Code.region 18 #[⟨some 55,.move (.tmp 7),3,"game.go:95",#[],none⟩,⟨some 56,.binOp .lss 3 (.tmp 55) (.const (.int .i64 0)) 3,4,"game.go:95",#[⟨0,.data⟩],none⟩] false) (.cond (.tmp 56) (.seq (Code.region 19 #[⟨some 2,.assign (.const (.int .i64 0)),3,"game.go:96",#[],none⟩,⟨some 3,.assign (.const (.int .i64 0)),3,"game.go:96",#[⟨0,.chain⟩,⟨0,.phase⟩],none⟩,⟨some 4,.assign (.const (.int .i64 11)),39,"game.go:96",#[⟨1,.chain⟩,⟨0,.phase⟩,⟨1,.phase⟩],none⟩] false) .ret) .skip)) rbrest7 := by kernel_rfl
set_option maxRecDepth 1000000 in
theorem rbrest7_eq : rbrest7 = .seq (Code.region 20 #[⟨some 57,.move (.tmp 7),3,"game.go:98",#[],none⟩,⟨some 58,.move (.tmp 8),3,"game.go:98",#[⟨2,.gcOnly .lateStores⟩],none⟩,⟨some 2,.assign (.tmp 57),3,"game.go:98",#[⟨0,.data⟩,⟨0,.phase⟩,⟨1,.textOnly .lateStores⟩],none⟩,⟨some 3,.assign (.tmp 58),3,"game.go:98",#[⟨1,.data⟩,⟨2,.chain⟩,⟨0,.phase⟩,⟨1,.phase⟩,⟨2,.phase⟩],none⟩,⟨some 4,.assign (.const (.int .i64 0)),39,"game.go:98",#[⟨3,.chain⟩,⟨0,.phase⟩,⟨1,.phase⟩,⟨2,.phase⟩,⟨3,.phase⟩],none⟩] false) .ret := by kernel_rfl

def QRB (es : List Ent) (w0 : World) : Exit → Act → World → Prop := bodyPost Try.prog Try.f20 fun e w' => e = .returned (.tuple #[.int .i64 (blankI (es.map Ent.J)).1,.int .i64 (blankI (es.map Ent.J)).2.1,.int .i64 (blankI (es.map Ent.J)).2.2]) ∧ Below w0.heap.size w0 w'
/-- Where the best one is, as the reference keeps it. -/
def bestP (s : Int × Int × Bool) : Int := if s.2.2 = true then s.1 else -1
set_option maxHeartbeats 4000000 in
set_option maxRecDepth 1000000 in
theorem refBlank_any (a : Option Addr) (n c : Nat) (es : List Ent) (w : World) (hjs : Js w w.heap.size a n es) (hm : n ≤ 1000) :
    Calls Try.prog 20 #[.slice a n c] w fun e w' => e = .returned (.tuple #[.int .i64 (blankI (es.map Ent.J)).1,.int .i64 (blankI (es.map Ent.J)).2.1,.int .i64 (blankI (es.map Ent.J)).2.2]) ∧ Below w.heap.size w w' := by
  have HJS := hidMk hjs
  have HL := hidMk (show (es.map Ent.J).length = n by rw [List.length_map]; exact hjs.len.symm)
  clear hjs
  go_enter Try.func20,Try.ntmps20
  show Code.wp Try.prog rbbody (QRB es w) _ _
  rw [rbbody_eq]
  go_wp2_with fail
  rw [rbrest1_eq]
  by_cases h0 : n = 0
  · go_wp2_with fail
    go_ret3
    rw [blank_0 (HL.out.trans h0)]
    exact ⟨rfl,Below.refl _ _⟩
  go_wp2_with fail
  rw [rbrest2_eq]
  by_cases h6 : 6 < n
  · go_wp2_with fail
    go_ret3
    rw [blank_6 (by rw [HL.out]; exact h6)]
    exact ⟨rfl,Below.refl _ _⟩
  go_wp2_with fail
  have H0 := hidMk (show (es.map Ent.J).length ≠ 0 by rw [HL.out]; exact h0)
  have H6 := hidMk (show ¬ 6 < (es.map Ent.J).length by rw [HL.out]; exact h6)
  rw [rbrest3_eq]
  refine wp_seq_k fun K0 hK0 => ?_
  go_wp2_with fail
  generalize ((n : Int) == 0) = q0
  generalize decide (6 < (n : Int)) = q6
  go_loopw [2,3,4,5] (fun _ _ _ iv wr => ∃ i : Nat,i ≤ n ∧ iv = .int .i64 i ∧ Hid (∀ j ∈ (es.map Ent.J).take i,j.check = 0) ∧ Below w.heap.size w wr) (fun _ _ _ iv _ => n - (intOf iv).toNat)
  case atStart => exact ⟨0,Nat.zero_le _,rfl,hidMk (by simp),Below.refl _ _⟩
  case round =>
    obtain ⟨i,hi,rfl,HA,hB⟩ := hrel
    by_cases hlt : i < n
    · skip
      have hil : i < es.length := by rw [← HJS.out.len]; exact hlt
      obtain ⟨e,he⟩ : ∃ e,es[i]? = some e := ⟨es[i]'hil,List.getElem?_eq_getElem hil⟩
      obtain ⟨b,off,rfl,hbB,hrow⟩ := HJS.out.row i e he
      obtain ⟨hrg,hen,hem⟩ := HJS.out.each e (List.mem_of_getElem? he)
      have HROW := hidMk (rangeAt_keep hrow (fun p hp => hB.cell (by rw [hp]; exact hbB)))
      have HRG := hidMk (hrg.up hB)
      have HE := hidMk he
      have HEN := hidMk hen
      have HB := hidMk hB
      have hz := hB.size
      have hgj : (es.map Ent.J)[i]? = some e.J := by rw [List.getElem?_map,he]; rfl
      have HGJ := hidMk hgj
      clear hrow hrg he hen hB hgj

      go_wp2_with (refine wpList_load_midA rfl 30 _ rfl b (off + i * 18) rfl (jobC e.J (.slice e.a e.n e.c)) _ HROW.out Try.underlying30 rfl szJob ?_)
      refine (refCheck_any e.J e.a e.n e.c _ HEN.out hem HRG.out).mono ?_
      rintro e' w2 ⟨rfl,hb2⟩
      have HB2 := hidMk (HB.out.trans (hb2.mono hz))
      clear hb2
      by_cases hc : e.J.check = 0
      · have HC := hidMk hc
        rw [hc]
        clear hc
        go_wp2_with fail
        go_roundw
        case rel =>
          refine ⟨i + 1,by omega,by go_num,hidMk ?_,HB2.out⟩
          intro j hj
          rw [List.take_add_one,HGJ.out,Option.toList_some,List.mem_append,List.mem_singleton] at hj
          rcases hj with hj | rfl
          · exact HA.out j hj
          · exact HC.out
        case measure => simp [intOf]; omega
      · have HC := hidMk hc
        obtain ⟨ck,hck⟩ : ∃ x,x = e.J.check := ⟨_,rfl⟩
        rw [← hck] at hc ⊢
        have HF := hidMk (firstErr_at _ i e.J HGJ.out HA.out HC.out)
        rw [← hck] at HF
        clear hck
        go_wp2_with fail
        go_ret3
        rw [blank_e H0.out H6.out (by rw [HF.out]; exact hc),HF.out]
        exact ⟨rfl,HB2.out⟩
    · have hin : i = n := by omega
      have HALL := hidMk (show ∀ j ∈ es.map Ent.J,j.check = 0 from fun j hj => HA.out j (by rw [List.take_of_length_le (by rw [HL.out]; omega)]; exact hj))
      have HF := hidMk (firstErr_ok (es.map Ent.J) HALL.out)
      have HBK := hidMk (blank_k H0.out H6.out HF.out)
      have HB := hidMk hB
      clear hB
      go_wp2_with fail
      subst hin
      rw [rbrest4_eq]
      go_wp2_with fail
      rw [rbrest5_eq]
      refine wp_seq_k fun K1 hK1 => ?_
      go_wp2_with fail
      generalize decide ((i : Int) < (i : Int)) = qz
      generalize decide False = qy
      go_loopw [7,8,9] (fun bv lv iv wr => ∃ k : Nat,k ≤ i ∧ iv = .int .i64 k ∧ bv = .int .i64 (bestP (cheapK (es.map Ent.J) k)) ∧ lv = .int .i64 (cheapK (es.map Ent.J) k).2.1 ∧ Below w.heap.size w wr) (fun _ _ iv _ => i - (intOf iv).toNat)
      case atStart => exact ⟨0,Nat.zero_le _,rfl,rfl,rfl,HB.out⟩
      case round =>
        obtain ⟨k,hk,rfl,rfl,rfl,hB⟩ := hrel
        obtain ⟨s1,hs1⟩ : ∃ x,x = (cheapK (es.map Ent.J) k).1 := ⟨_,rfl⟩
        obtain ⟨s2,hs2⟩ : ∃ x,x = (cheapK (es.map Ent.J) k).2.1 := ⟨_,rfl⟩
        obtain ⟨s3,hs3⟩ : ∃ x,x = (cheapK (es.map Ent.J) k).2.2 := ⟨_,rfl⟩
        obtain ⟨bp,hbp⟩ : ∃ x,x = bestP (cheapK (es.map Ent.J) k) := ⟨_,rfl⟩
        rw [← hs2,← hbp]
        have HBP := hidMk (show bp = if s3 = true then s1 else -1 by rw [hbp,hs3,hs1]; rfl)
        have HNN := hidMk (show 0 ≤ s1 by rw [hs1]; exact (cheapK_nn _ k).1)
        have HS := hidMk (And.intro hbp (And.intro hs2 hs3))
        have HS1 := hidMk hs1
        clear hs1 hs2 hs3 hbp
        by_cases hlt : k < i
        · skip
          have hkl : k < es.length := by rw [← HJS.out.len]; exact hlt
          obtain ⟨e,he⟩ : ∃ e,es[k]? = some e := ⟨es[k]'hkl,List.getElem?_eq_getElem hkl⟩
          obtain ⟨b,off,rfl,hbB,hrow⟩ := HJS.out.row k e he
          obtain ⟨hrg,hen,hem⟩ := HJS.out.each e (List.mem_of_getElem? he)
          have HROW := hidMk (rangeAt_keep hrow (fun p hp => hB.cell (by rw [hp]; exact hbB)))
          have HRG := hidMk (hrg.up hB)
          have HE := hidMk he
          have HEN := hidMk hen
          have HB := hidMk hB
          have hz := hB.size
          have hgj : (es.map Ent.J)[k]? = some e.J := by rw [List.getElem?_map,he]; rfl
          have HGJ := hidMk hgj
          clear hrow hrg he hen hB hgj

          have HC := hidMk (HALL.out e.J (List.mem_of_getElem? HGJ.out))
          go_wp2_with (refine wpList_load_midA rfl 30 _ rfl b (off + k * 18) rfl (jobC e.J (.slice e.a e.n e.c)) _ HROW.out Try.underlying30 rfl szJob ?_)
          refine (rguided_any (G := e.J) HC.out HEN.out _ HRG.out).mono ?_
          rintro e' w2 ⟨rfl,hb2⟩
          have HB2 := hidMk (HB.out.trans (hb2.mono hz))
          clear hb2
          have HST := hidMk (cheapK_step HGJ.out)
          rw [← HS.out.2.1,← HS.out.2.2,show guidedI e.J = if guideI e.J = 5 then (0,11) else (guideI e.J,0) from by unfold guidedI; rw [if_pos HC.out]] at HST
          have hnn := guide_nn e.J
          obtain ⟨gi,hgi⟩ : ∃ x,x = guideI e.J := ⟨_,rfl⟩
          rw [← hgi] at HST hnn
          rw [show rguide e.J = if gi = 5 then -1 else gi from by rw [hgi]; rfl]
          clear hgi
          by_cases h5 : gi = 5
          · rw [if_pos h5]
            rw [if_pos h5] at HST
            clear h5 hnn
            go_wp2_with fail
            go_roundw
            case rel =>
              have E : cheapK (es.map Ent.J) (k + 1) = cheapK (es.map Ent.J) k := by rw [HST.out,if_neg (by simp)]
              exact ⟨k + 1,by omega,by go_num,by rw [E,← HS.out.1],by rw [E,← HS.out.2.1],HB2.out⟩
            case measure => simp [intOf]; omega
          · rw [if_neg h5]
            rw [if_neg h5] at HST
            cases s3 with
            | true =>
              have hbp : bp = s1 := by rw [HBP.out]; rfl
              have hp0 : ¬ bp < 0 := by have := HNN.out; omega
              clear hbp
              by_cases hgl : gi < s2
              · go_wp2_with fail
                go_roundw
                case rel =>
                  have E : cheapK (es.map Ent.J) (k + 1) = ((k : Int),gi,true) := by rw [HST.out,if_pos (by simp [hgl])]
                  exact ⟨k + 1,by omega,by go_num,by rw [E]; rfl,by rw [E],HB2.out⟩
                case measure => simp [intOf]; omega
              · go_wp2_with fail
                go_roundw
                case rel =>
                  have E : cheapK (es.map Ent.J) (k + 1) = cheapK (es.map Ent.J) k := by rw [HST.out,if_neg (by simp [hgl])]
                  exact ⟨k + 1,by omega,by go_num,by rw [E,← HS.out.1],by rw [E,← HS.out.2.1],HB2.out⟩
                case measure => simp [intOf]; omega
            | false =>
              have hp0 : bp < 0 := by rw [HBP.out,if_neg (by simp)]; decide
              go_wp2_with fail
              go_roundw
              case rel =>
                have E : cheapK (es.map Ent.J) (k + 1) = ((k : Int),gi,true) := by rw [HST.out,if_pos (by simp)]
                exact ⟨k + 1,by omega,by go_num,by rw [E]; rfl,by rw [E],HB2.out⟩
              case measure => simp [intOf]; omega
        · have hki : k = i := by omega
          subst hki
          have HB := hidMk hB
          clear hB
          rw [HL.out] at HBK
          rw [← HS1.out,← HS.out.2.1,← HS.out.2.2] at HBK
          clear HS HS1
          go_wp2_with fail
          rw [rbrest6_eq]
          cases s3 with
          | true =>
            have hbp : bp = s1 := by rw [HBP.out]; rfl
            clear HBP
            subst hbp
            have hp0 : ¬ bp < 0 := by have := HNN.out; omega
            go_wp2_with fail
            rw [rbrest7_eq]
            go_wp2_with fail
            go_ret3
            rw [HBK.out,if_pos (by trivial)]
            exact ⟨rfl,HB.out⟩
          | false =>
            have hp0 : bp < 0 := by rw [HBP.out,if_neg (by simp)]; decide
            go_wp2_with fail
            go_ret3
            rw [HBK.out,if_neg (by simp)]
            exact ⟨rfl,HB.out⟩
end Go.Proofs.Ytadmcafbffjjbaa
/- The contract of NewPot: a new block with one number; nothing else is changed. -/
namespace Go.Proofs.Ytadmcafbffjjbaa
set_option linter.all false
open Go.RowKit
set_option maxHeartbeats 1000000 in
theorem newPot_any (a : Option Addr) (n c : Nat) (l : List Int) (w : World) (hn : n = l.length) (hm : n ≤ 9223372036854775807) (h : Is w w.heap.size a l) :
    Calls Try.prog 9 #[.slice a n c] w fun e w' => ∃ s t,e = .returned (.pointer (some ⟨w.heap.size,0,none⟩)) ∧ Bk w' w.heap.size t #[.int .u64 s] ∧ Below w.heap.size w w' := by
  have Hn : Hid (n = l.length) := hn
  have Hh : Hid (Is w w.heap.size a l) := h
  clear hn h
  go_enter Try.func9,Try.ntmps9
  go_wp2
  go_loopw [4] (fun i wr => ∃ (k : Nat) (s : Int) (t : TypeId),k ≤ n ∧ i = .int .i64 k ∧ Bk wr w.heap.size t #[.int .u64 s] ∧ Below w.heap.size w wr) (fun i _ => n - (intOf i).toNat)
  case atStart => exact ⟨0,_,_,Nat.zero_le _,rfl,Bk.new w _ _,(Below.refl _ _).alloc (Nat.le_refl _) _⟩
  case round =>
    obtain ⟨k,s,t,hk,rfl,hb,hB⟩ := hrel
    have c0 := hb.at_ 0 _ rfl
    have f0 := hb.free 0
    have hl := hb.lt
    by_cases hlt : k < n
    · have hkl : k < l.length := by rw [← Hn.out]; exact hlt
      obtain ⟨b,off,rfl,hbl,e0⟩ := Hh.out k l[k] (List.getElem?_eq_getElem hkl)
      replace e0 := (hB.cell (p := ⟨b,off + k,none⟩) hbl).trans e0
      obtain ⟨x,hx⟩ : ∃ x,l[k] = x := ⟨_,rfl⟩
      rw [hx] at e0
      have hne : b ≠ w.heap.size := by omega
      have hne' : w.heap.size ≠ b := by omega
      have i0 : (0 : Int) ≤ ↑k := by omega
      have i1 : (↑k : Int) < ↑n := by omega
      have HB := hidMk hB
      have Hb := hidMk hb
      clear hB hb hx hbl Hh Hn hkl
      go_wp2
      go_region
      clear e0 hne hne'
      obtain ⟨s1,hs1⟩ : ∃ s1,IntKind.u64.wrap (bits BinOp.xor IntKind.u64 s (IntKind.u64.wrap x) * 15485907386658061715) = s1 := ⟨_,rfl⟩
      rw [hs1]
      clear hs1
      go_wp2
      go_region
      go_wp2
      go_roundw
      case rel =>
        exact ⟨k + 1,_,t,by omega,by go_num,((Hb.out.put1 _).put1 _),((HB.out.setCell (Nat.le_refl _) _).setCell (Nat.le_refl _) _).drew.drew⟩
      case measure => simp [intOf]; omega
    · obtain rfl : k = n := by omega
      go_wp2
      go_ret
      exact ⟨s,t,rfl,hb,hB⟩
end Go.Proofs.Ytadmcafbffjjbaa
