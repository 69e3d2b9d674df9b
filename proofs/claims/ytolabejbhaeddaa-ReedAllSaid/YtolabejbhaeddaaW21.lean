/- Part 21 of the proof: SimH, SimI, SimJ, SimL, SimM. -/
import Derived.Laws.Tables
import Derived.Laws.CopyRow
import Derived.Laws.Append
import Derived.Test.YtolabejbhaeddaaW20
/- Loads and lookups. -/
namespace Go.Sim
set_option linter.all false
open Go
variable [Rho] [Asm] [SymOK]

section
variable {P : Program} {ι : Io} {T : Tm} {a : Act} {s : St} {w : World}

theorem getObj_run {r : Nat} {o : Obj} (h : w.heap[r]? = some o) (hn : ∀ c t f,o ≠ .cells c t f) : (getObj r).run P w = .ok o w := by
  cases o <;> first | (exact absurd rfl (hn _ _ _)) | (simp only [getObj,Sem.run,h])
theorem setObj_run {r : Nat} {o x : Obj} (h : w.heap[r]? = some o) (hn : ∀ c t f,o ≠ .cells c t f) : (setObj r x).run P w = .ok () { w with heap := w.heap.setIfInBounds r x } := by
  cases o <;> first | (exact absurd rfl (hn _ _ _)) | (simp only [setObj,Sem.run,h])
theorem upd_set {r : Nat} {x : Obj} (h : r < w.heap.size) : Upd w { w with heap := w.heap.setIfInBounds r x } r x :=
  ⟨by simp [h],fun k hk => by simp [Ne.symm hk],by simp,rfl,rfl,rfl⟩

theorem loadCells_ok {r o n : Nat} {cs : Array Value} {t : TypeId} {l : List Value} (hg : w.heap[r]? = some (.cells cs t (0,0))) (hl : (cs.toList.drop o).take n = l) (hn : l.length = n) : (loadCells ⟨r,o,none⟩ n).run P w = .ok l.toArray w := by
  subst hn
  refine run_loadCells_list (P := P) w ⟨r,o,none⟩ l fun j v hv => ?_
  have hadd : (⟨r,o,none⟩ : Addr).add j = ⟨r,o + j,none⟩ := by unfold Addr.add; split <;> simp_all
  rw [hadd,cell_of_row w r (o + j) cs t (0,0) hg]
  rw [← hl] at hv
  rw [List.getElem?_take] at hv
  split at hv
  · rw [List.getElem?_drop] at hv; simpa using hv
  · cases hv

/-- A load of one cell, and of many. -/
theorem load1_ok (hW : WR P ι s w) {b o : Nat} {c : List Value} {v x : Value} {t : TypeId} (hx : VR ι (.pointer (some ⟨b,o,none⟩)) x) (hb : s.h.get b = some (.cells c)) (hv : nth c o = some v) (ht : aggB P t = some false) :
    ∃ v',VR ι v v' ∧ (Instr.loadAt t x).run P w = .ok v' w := by
  obtain ⟨r,k,rfl,hr⟩ := hx.ptrI
  obtain ⟨r',k',y,h1,h2,cs,ty,rfl,hc,l',tl,h3,h4⟩ := hW.obj _ _ hb
  rw [hr] at h1
  cases h1
  obtain ⟨v',hv',hvr⟩ := LR.nth (tl := tl) h4 hv
  refine ⟨v',hvr,?_⟩
  have hcell : w.cell? ⟨r,o,none⟩ = some v' := by
    rw [cell_of_row w r o cs ty (0,0) h2]
    rw [← h3] at hv'
    simpa using hv'
  simp [Instr.loadAt,Instr.sureAddr,loadVar,run_agg ht,hcell]
theorem loadN_ok (hW : WR P ι s w) {b o n : Nat} {c l : List Value} {x : Value} {t : TypeId} (hx : VR ι (.pointer (some ⟨b,o,none⟩)) x) (hb : s.h.get b = some (.cells c)) (hv : sub c o n = some l) (ht : aggB P t = some true) (hs : szOf P t = some n) :
    ∃ v',VR ι (.agg ⟨l⟩) v' ∧ (Instr.loadAt t x).run P w = .ok v' w := by
  obtain ⟨r,k,rfl,hr⟩ := hx.ptrI
  obtain ⟨r',k',y,h1,h2,cs,ty,rfl,hc,l',tl,h3,h4⟩ := hW.obj _ _ hb
  rw [hr] at h1
  cases h1
  obtain ⟨q,hq1,hq2,hq3,hq4⟩ := LR.sub (tl := tl) h4 hv
  refine ⟨.agg ⟨q⟩,.agg hq1,?_⟩
  rw [← h3] at hq3
  simp [Instr.loadAt,Instr.sureAddr,loadVar,run_agg ht,run_sz hs,loadCells_ok h2 hq3 hq2]

/-! ### keys -/
theorem keyFs_ok {eq : TypeId → Option Nat} {D : Nat} {emp : Bool} (ih : ∀ t n,eq t = some n → (aggB P t).isSome ∧ (aggB P t = some false → n = 1) ∧ ∀ l x w,Holds P t l x → l.length = n → (Instr.checkKey emp D t x).run P w = .ok () w) :
    ∀ {fs : List Field} {off n : Nat} {l : List Value} {w : World},eqFs P eq fs off = some n → l.length = n →
      (forIn fs PUnit.unit (fun f (_ : PUnit) => if f.name ≠ "_" then (do
            let x ← part f.type ⟨l⟩ f.offset
            Instr.checkKey emp D f.type x
            pure (ForInStep.yield PUnit.unit) : Sem (ForInStep PUnit))
          else pure (ForInStep.yield PUnit.unit))).run P w = .ok PUnit.unit w
  | [],off,n,l,w,_,_ => rfl
  | f :: fs,off,n,l,w,h,hl => by
    simp only [eqFs] at h
    cases he : eq f.type with
    | none => rw [he] at h; cases h
    | some k =>
      rw [he] at h
      simp only at h
      split at h
      · rename_i hc
        obtain ⟨h1,h2,h3⟩ := hc
        obtain ⟨i1,i2,i3⟩ := ih _ _ he
        have hk : off + k ≤ n := by
          have : ∀ {fs : List Field} {o : Nat},eqFs P eq fs o = some n → o ≤ n := by
            intro fs
            induction fs with
            | nil => intro o h; simp only [eqFs,Option.some.injEq] at h; omega
            | cons f fs ihf =>
              intro o h
              simp only [eqFs] at h
              split at h
              · cases h
              · split at h
                · have := ihf h; omega
                · cases h
          exact this h
        obtain ⟨x,hx,hx2⟩ := part_holds (off := off) (l := l) i1 h3 i2 (by omega) w
        have r := i3 _ x w hx2 (by simp; omega)
        simp only [List.forIn_cons,h2,ne_eq,not_false_eq_true,if_true,Sem.run_bind,h1,hx,Result.andThen_ok,r,Sem.run_pure]
        exact keyFs_ok ih h hl
      · cases h
theorem key_ok {emp : Bool} : ∀ {d : Nat} {t : TypeId} {n : Nat},eqT P d t = some n → ∀ {D : Nat} {l : List Value} {x : Value} {w : World},Holds P t l x → l.length = n → (Instr.checkKey emp (d + D) t x).run P w = .ok () w
  | 0,_,_,h,_,_,_,_,_,_ => by simp [eqT] at h
  | d + 1,t,n,h,D,l,x,w,hx,hl => by
    unfold eqT at h
    rw [show d + 1 + D = (d + D) + 1 from by omega]
    split at h
    · rename_i k hu
      cases h
      have ha : aggB P t = some false := by simp [aggB,hu]
      simp only [Instr.checkKey,Sem.run_bind,run_und hu,Result.andThen_ok]
      rfl
    · rename_i fs hu
      split at h
      · cases h
      · have ha : aggB P t = some true := by simp [aggB,hu]
        obtain ⟨b1,hb1,hx⟩ := hx
        rw [ha] at hb1
        cases hb1
        simp only [if_true] at hx
        subst hx
        simp only [Instr.checkKey,Sem.run_bind,run_und hu,Result.andThen_ok]
        rw [← Array.forIn_toList]
        have := keyFs_ok (emp := emp) (D := d + D) (w := w) (fun t n he => ⟨(eqT_agg he).1,(eqT_agg he).2,fun l x w h1 h2 => key_ok he h1 h2⟩) h hl
        rw [this]
        rfl
    · cases h

/-- A key fits its type. -/
theorem keyed_holds {t : TypeId} {n : Nat} {ag : Bool} {v v' : Value} (hag : aggB P t = some ag) (hk : keyed n ag v = true) (hv : VR ι v v') : Holds P t v'.cells.toList v' ∧ v'.cells.toList.length = n ∧ LR ι (cellsOf v) v'.cells.toList := by
  have hc := hv.cells
  unfold keyed at hk
  split at hk
  · rename_i l
    obtain ⟨l',rfl,hl⟩ := hv.aggI
    have e := Nat.eq_of_beq_eq_true hk
    rw [len_eq,hl.length] at e
    exact ⟨⟨true,hag,rfl⟩,e,hc⟩
  · rw [hv.intI] at hc ⊢
    have e := Nat.eq_of_beq_eq_true hk
    exact ⟨⟨false,hag,rfl⟩,e,hc⟩
  · cases hk

/-- How a key is told from another one, and what is found. -/
theorem tell_ok {t : TypeId} {n : Nat} {ag b : Bool} {k x k' x' : Value} (ht : eqT P 6 t = some n) (hag : aggB P t = some ag) (hk : keyed n ag k = true) (hx : keyed n ag x = true) (hkv : VR ι k k') (hxv : VR ι x x') (hs : sameL (cellsOf k) (cellsOf x) = some b) (w : World) :
    (Op.equal t k' x').run P w = .ok b w := by
  obtain ⟨h1,h2,h3⟩ := keyed_holds (P := P) hag hk hkv
  obtain ⟨h4,h5,h6⟩ := keyed_holds (P := P) hag hx hxv
  exact eqT_ok (D := 9994) ht h1 h4 h2 h5 (sameL_real hs h3 h6)
theorem tellNow_ok {t : TypeId} {n : Nat} {ag b : Bool} {k x k' x' : Value} {kk : IntKind} (hu : P.underlying t = some (.int kk)) (hag : aggB P t = some ag) (hk : keyed n ag k = true) (hx : keyed n ag x = true) (hkv : VR ι k k') (hxv : VR ι x x') (hs : sameL (cellsOf k) (cellsOf x) = some b) :
    Instr.sameNow (.int kk) k' x' = some b := by
  have e : ag = false := by
    have : aggB P t = some false := by simp [aggB,hu]
    rw [hag] at this; cases this; rfl
  subst e
  unfold keyed at hk hx
  split at hk <;> first | (cases hk; done) | skip
  · rename_i h; cases h
  · split at hx <;> first | (cases hx; done) | skip
    · rename_i h; cases h
    · rw [hkv.intI,hxv.intI]
      obtain ⟨c,hc,hd⟩ := sameL_cons hs
      obtain ⟨k',p,q,e1,e2,e3⟩ := same1_plain hc
      have hb : b = c := by
        rcases hd with ⟨rfl,hd⟩ | ⟨rfl,rfl⟩
        · simp only [sameL,Option.some.injEq] at hd
          exact hd.symm
        · rfl
      cases e1
      cases e2
      simp [Instr.sameNow,hb,e3]

/-- The place of a key. -/
def idxL (kl : List Value) : List (Value × Value) → Nat
  | [] => 0
  | (x,_) :: es => if sameL kl (cellsOf x) = some true then 0 else idxL kl es + 1
/-- What is found: nothing, or the value at a place. -/
def Found (ι : Io) (i : Nat) (kl : List Value) (es : List (Value × Value)) (r : Option Value) (r' : Option (Nat × Value)) : Prop := match r with
  | none => r' = none
  | some v => ∃ v',r' = some (i + idxL kl es,v') ∧ VR ι v v'
theorem look_now {t : TypeId} {n : Nat} {ag : Bool} {k k' : Value} {kk : IntKind} (hu : P.underlying t = some (.int kk)) (hag : aggB P t = some ag) (hk : keyed n ag k = true) (hkv : VR ι k k') :
    ∀ {es : List (Value × Value)} {en : List MapEntry} {r : Option Value} {i : Nat},ER ι es en → (∀ p ∈ es,keyed n ag p.1 = true) → look (cellsOf k) es = some r → ∃ r',Instr.findNow (.int kk) k' en i = some r' ∧ Found ι i (cellsOf k) es r r'
  | [],en,r,i,h,_,e => by
    cases h
    simp only [look,Option.some.injEq] at e
    subst e
    exact ⟨none,rfl,rfl⟩
  | (x,v) :: es,en,r,i,h,hp,e => by
    cases h with
    | cons hx hv hes =>
      simp only [look] at e
      split at e
      · rename_i hs
        cases e
        have := tellNow_ok hu hag hk (hp _ List.mem_cons_self) hkv hx hs
        exact ⟨_,by simp only [Instr.findNow,this]; rfl,_,by simp only [idxL,hs,if_true]; rfl,hv⟩
      · rename_i hs
        have := tellNow_ok hu hag hk (hp _ List.mem_cons_self) hkv hx hs
        obtain ⟨r',h1,h2⟩ := look_now hu hag hk hkv (i := i + 1) hes (fun p hp' => hp p (List.mem_cons_of_mem _ hp')) e
        refine ⟨r',by simp only [Instr.findNow,this,h1],?_⟩
        cases r with
        | none => exact h2
        | some u =>
          obtain ⟨v',e1,e2⟩ := h2
          refine ⟨v',?_,e2⟩
          rw [e1]
          simp only [idxL,hs]
          simp
          omega
      · cases e
theorem look_ask {t : TypeId} {n : Nat} {ag : Bool} {k k' : Value} (ht : eqT P 6 t = some n) (hag : aggB P t = some ag) (hk : keyed n ag k = true) (hkv : VR ι k k') (w : World) :
    ∀ {es : List (Value × Value)} {en : List MapEntry} {r : Option Value} {i : Nat},ER ι es en → (∀ p ∈ es,keyed n ag p.1 = true) → look (cellsOf k) es = some r → ∃ r',(Instr.findAsking t k' en i).run P w = .ok r' w ∧ Found ι i (cellsOf k) es r r'
  | [],en,r,i,h,_,e => by
    cases h
    simp only [look,Option.some.injEq] at e
    subst e
    exact ⟨none,rfl,rfl⟩
  | (x,v) :: es,en,r,i,h,hp,e => by
    cases h with
    | cons hx hv hes =>
      simp only [look] at e
      split at e
      · rename_i hs
        cases e
        have := tell_ok ht hag hk (hp _ List.mem_cons_self) hkv hx hs w
        exact ⟨_,by simp only [Instr.findAsking,Sem.run_bind,this,Result.andThen_ok,if_true,Sem.run_pure]; rfl,_,by simp only [idxL,hs,if_true]; rfl,hv⟩
      · rename_i hs
        have := tell_ok ht hag hk (hp _ List.mem_cons_self) hkv hx hs w
        obtain ⟨r',h1,h2⟩ := look_ask ht hag hk hkv w (i := i + 1) hes (fun p hp' => hp p (List.mem_cons_of_mem _ hp')) e
        refine ⟨r',by simp only [Instr.findAsking,Sem.run_bind,this,Result.andThen_ok,Bool.false_eq_true,if_false,h1],?_⟩
        cases r with
        | none => exact h2
        | some u =>
          obtain ⟨v',e1,e2⟩ := h2
          refine ⟨v',?_,e2⟩
          rw [e1]
          simp only [idxL,hs]
          simp
          omega
      · cases e
theorem find_ok {t : TypeId} {n : Nat} {ag : Bool} {k k' : Value} (ht : eqT P 6 t = some n) (hag : aggB P t = some ag) (hk : keyed n ag k = true) (hkv : VR ι k k') (w : World)
    {es : List (Value × Value)} {en : List MapEntry} {r : Option Value} (h : ER ι es en) (hp : ∀ p ∈ es,keyed n ag p.1 = true) (e : look (cellsOf k) es = some r) : ∃ r',(Instr.findKey t k' en).run P w = .ok r' w ∧ Found ι 0 (cellsOf k) es r r' := by
  have ht' := ht
  unfold eqT at ht'
  split at ht'
  · rename_i kk hu
    obtain ⟨r',h1,h2⟩ := look_now hu hag hk hkv (i := 0) h hp e
    exact ⟨r',by simp only [Instr.findKey,Sem.run_bind,run_und hu,Result.andThen_ok,h1,Sem.run_pure],h2⟩
  · rename_i fs hu
    cases en with
    | nil =>
      cases h
      simp only [look,Option.some.injEq] at e
      subst e
      exact ⟨none,by simp only [Instr.findKey,Sem.run_bind,run_und hu,Result.andThen_ok,Instr.findNow,Sem.run_pure],rfl⟩
    | cons x en =>
      obtain ⟨r',h1,h2⟩ := look_ask ht hag hk hkv w (i := 0) h hp e
      refine ⟨r',?_,h2⟩
      have hn : Instr.findNow (.struct fs) k' (x :: en) 0 = none := by simp [Instr.findNow,Instr.sameNow]
      simp only [Instr.findKey,Sem.run_bind,run_und hu,Result.andThen_ok,hn,h1]
  · cases ht'
end
end Go.Sim
/- Operations that read, and that make new blocks. -/
namespace Go.Sim
set_option linter.all false
open Go
variable [Rho] [Asm] [SymOK]

section
variable {P : Program} {ι : Io} {T : Tm} {a : Act} {s : St} {w : World}

theorem mapOf_ok {n : Nat} {ag : Bool} {v v' : Value} {es : List (Value × Value)} (hW : WR P ι s w) (hv : VR ι v v') (he : mapOf s.h n ag v = some es) :
    (v = .map none ∧ v' = .map none ∧ es = []) ∨ ∃ b r c en ck,v = .map (some b) ∧ v' = .map (some r) ∧ ι b = some (r,c) ∧ s.h.get b = some (.map n ag es) ∧ w.heap[r]? = some (.map en ck) ∧ ER ι es en.toList ∧ ∀ p ∈ es,keyed n ag p.1 = true := by
  unfold mapOf at he
  split at he
  · cases he; exact .inl ⟨rfl,hv.map0I,rfl⟩
  · rename_i b
    split at he
    · rename_i n' ag' es' hb
      split at he
      · rename_i h1 h2
        cases he
        have e1 := Nat.eq_of_beq_eq_true h1
        have e2 : ag = ag' := by cases ag <;> cases ag' <;> first | rfl | (simp [sameB] at h2)
        subst e1
        subst e2
        obtain ⟨r,c,rfl,hr⟩ := hv.mapI
        obtain ⟨r',c',x,h3,h4,en,ck,rfl,h5,h6⟩ := hW.obj _ _ hb
        rw [hr] at h3
        cases h3
        exact .inr ⟨b,r,c,en,ck,rfl,rfl,hr,hb,h4,h5,h6⟩
      · cases he
    · cases he
  · cases he

theorem found_ok {ok : Bool} {v v' : Value} {b : Bool} (h : VR ι v v') : VR ι (found ok v b) (if ok then .tuple #[v',.bool b] else v') := by
  cases ok
  · exact h
  · exact .tup (.cons h (.cons (.bool b) .nil))

theorem evR_ok {o : Oper} {r : ROp} {v : Value} (hc : compR P o = some r) (hT : TR ι T a.tmps) (hW : WR P ι s w) (he : evR T s.h r = some v) : ∃ v',VR ι v v' ∧ (execOp a.eval o).run P w = .ok (.value v') w := by
  obtain ⟨dst,op,type,pos,after,guard⟩ := o
  cases op <;> simp only [compR] at hc <;> try (cases hc; done)
  case load t x =>
    simp only [bind] at hc
    split at hc
    · rename_i hag
      simp only [Option.bind_eq_some_iff,Option.some.injEq] at hc
      obtain ⟨n,hn,x',hx,rfl⟩ := hc
      have h1 := compX_ok hx hT
      simp only [evR,evRd,r_ldn] at he
      split at he
      · rename_i b o e1
        rw [e1] at h1
        split at he
        · rename_i c hb
          split at he
          · rename_i l hl
            cases he
            obtain ⟨v',hv,hr⟩ := loadN_ok hW h1 hb hl hag hn
            exact ⟨v',hv,by simp [execOp,hr]⟩
          · cases he
        · cases he
      · cases he
    · rename_i hag
      simp only [Option.bind_eq_some_iff,Option.some.injEq] at hc
      obtain ⟨x',hx,rfl⟩ := hc
      have h1 := compX_ok hx hT
      simp only [evR,evRd,r_ld1] at he
      split at he
      · rename_i b o e1
        rw [e1] at h1
        split at he
        · rename_i c hb
          obtain ⟨v',hv,hr⟩ := load1_ok hW h1 hb he hag
          exact ⟨v',hv,by simp [execOp,hr]⟩
        · cases he
      · cases he
    · cases hc
  case lookup t m k ok =>
    split at hc
    · rename_i key elem hu
      simp only [bind,Option.bind_eq_some_iff,Option.some.injEq] at hc
      obtain ⟨n,hn,ag,hag,z,hz,m',hm,k',hk,rfl⟩ := hc
      have h1 := compX_ok hm hT
      have h2 := compX_ok hk hT
      simp only [evR,evRd,r_lkp] at he
      split at he
      · rename_i es hkey hes
        have hcheck : ∀ emp,(Instr.checkKey emp 10000 key (a.eval k)).run P w = .ok () w := fun emp => by
          obtain ⟨q1,q2,q3⟩ := keyed_holds (P := P) hag hkey h2
          exact key_ok (D := 9994) hn q1 q2
        rcases mapOf_ok hW h1 hes with ⟨_,hm',rfl⟩ | ⟨b,r,c,en,ck,_,hm',hb,_,hheap,her,hps⟩
        · simp only [look] at he
          cases he
          refine ⟨_,found_ok (b := false) (zeroV_konst hz),?_⟩
          obtain ⟨r',hf,hr'⟩ := find_ok (es := []) (en := []) hn hag hkey h2 w .nil (by simp) rfl
          have hr'' : r' = none := hr'
          subst hr''
          simp only [execOp,Instr.lookup,Sem.run_bind,run_und hu,Result.andThen_ok,hm',Sem.run_pure,hcheck,hf,run_zeroV hz]
        · have hg : (getObj r).run P w = .ok (.map en ck) w := getObj_run hheap (fun _ _ _ h => by cases h)
          split at he
          · cases he
          · rename_i val hl
            cases he
            obtain ⟨r',hf,v',e1,e2⟩ := find_ok hn hag hkey h2 w her hps hl
            subst e1
            refine ⟨_,found_ok (b := true) e2,?_⟩
            simp only [execOp,Instr.lookup,Sem.run_bind,run_und hu,Result.andThen_ok,hm',Sem.run_pure,hg,hcheck,hf]
          · rename_i hl
            cases he
            obtain ⟨r',hf,hr'⟩ := find_ok hn hag hkey h2 w her hps hl
            have hr'' : r' = none := hr'
            subst hr''
            refine ⟨_,found_ok (b := false) (zeroV_konst hz),?_⟩
            simp only [execOp,Instr.lookup,Sem.run_bind,run_und hu,Result.andThen_ok,hm',Sem.run_pure,hg,hcheck,hf,run_zeroV hz]
      · cases he
    · cases hc

/-! ### new blocks -/
theorem zeroOf_ok {t : TypeId} {z : List Value} (h : zeroOf P t = some z) : ∃ v : Value,(∀ w,(Go.zeroValue t).run P w = .ok v w) ∧ cellsOf v = z ∧ (∀ ι,VR ι v v) ∧ ones z = true := by
  unfold zeroOf at h
  cases hi : P.info? t with
  | none => rw [hi] at h; cases h
  | some i =>
    rw [hi] at h
    cases hz : i.zero with
    | none => simp [hz] at h
    | some v =>
      simp only [Option.bind_some,hz] at h
      split at h
      · rename_i hk
        cases h
        simp only [Bool.and_eq_true] at hk
        exact ⟨v,fun w => by simp [Go.zeroValue,run_info hi,hz],rfl,fun ι => konst_refl _ _ hk.1,hk.2⟩
      · cases h
theorem rep_ok {l l' : List Value} (h : LR ι l l') : ∀ n,LR ι (rep n l) (List.replicate n l').flatten
  | 0 => .nil
  | n + 1 => by
    simp only [rep,app_eq,List.replicate_succ,List.flatten_cons]
    exact h.append (rep_ok h n)
theorem rep_length (l : List Value) : ∀ n,(rep n l).length = n * l.length
  | 0 => by simp [rep]
  | n + 1 => by simp [rep,app_eq,rep_length l n,Nat.add_mul]; omega
theorem range_rep (z : Array Value) : ∀ n,((Array.range (n * z.size)).map (z[· % z.size]!)).toList = (List.replicate n z.toList).flatten := by
  intro n
  simp only [Array.toList_map,Array.toList_range]
  induction n with
  | zero => simp
  | succ n ih =>
    rw [Nat.add_mul,Nat.one_mul,List.range_add,List.map_append,ih,List.replicate_succ',List.flatten_append]
    congr 1
    simp only [List.map_map,List.flatten_cons,List.flatten_nil,List.append_nil]
    apply List.ext_getElem
    · simp
    · intro i h1 h2
      simp only [List.length_map,List.length_range] at h1
      have e : (n * z.size + i) % z.size = i := by rw [Nat.mul_comm,Nat.mul_add_mod,Nat.mod_eq_of_lt h1]
      simp [e,h1]

/-- What a new block is on both sides. -/
theorem evA_ok {o : Oper} {r : AOp} {lo : LO} {f : Nat → Value} (hc : compA P o = some r) (hT : TR ι T a.tmps) (he : evA T r = some (lo,f)) :
    ∃ (c : Nat) (x : Obj) (g : Nat → Value),(∀ w,(execOp a.eval o).run P w = .ok (.value (g w.heap.size)) { w with heap := w.heap.push x }) ∧ (∀ ι',Ext ι ι' → OR P ι' c lo x) ∧ ∀ (ι' : Io) b r,ι' b = some (r,c) → VR ι' (f b) (g r) := by
  obtain ⟨dst,op,type,pos,after,guard⟩ := o
  have hrow : ∀ (l : List Value) (cs : Array Value) (t : TypeId),LR ι l cs.toList → ∀ ι',Ext ι ι' → OR P ι' cs.size (.cells l) (.cells cs t) := fun l cs t h ι' he => ⟨cs,t,rfl,rfl,cs.toList,[],by simp,h.mono he⟩
  cases op <;> simp only [compA] at hc <;> try (cases hc; done)
  case alloc t =>
    cases hz : zeroOf P t with
    | none => rw [hz] at hc; cases hc
    | some z =>
      rw [hz] at hc
      cases hc
      simp only [evA,evAd,a_new,Option.some.injEq,Prod.mk.injEq] at he
      obtain ⟨rfl,rfl⟩ := he
      obtain ⟨v,hv,rfl,hvr,_⟩ := zeroOf_ok hz
      refine ⟨v.cells.size,.cells v.cells t,ptrAt,fun w => ?_,hrow _ _ _ (hvr ι).cells,fun ι' b r h => .ptr h⟩
      simp [execOp,Instr.alloc,hv,newVar,newRow,ptrAt]
  case box t x =>
    cases hx : compX x with
    | none => rw [hx] at hc; cases hc
    | some y =>
      rw [hx] at hc
      cases hc
      simp only [evA,evAd,a_box] at he
      split at he
      · cases he
        have h1 := compX_ok hx hT
        refine ⟨(a.eval x).cells.size,.cells (a.eval x).cells t,ptrAt,fun w => ?_,hrow _ _ _ h1.cells,fun ι' b r h => .ptr h⟩
        simp [execOp,Instr.box,newVar,newRow,ptrAt]
      · cases he
  case buildSlice t n parts =>
    split at hc
    · rename_i e hu
      simp only [bind,Option.bind_eq_some_iff] at hc
      obtain ⟨size,hsz,z,hz,hc⟩ := hc
      split at hc
      · cases hc
      · rename_i hcond
        simp only [Option.bind_eq_some_iff,Option.some.injEq] at hc
        obtain ⟨ps,hps,rfl⟩ := hc
        simp only [Bool.or_eq_true,bne_iff_ne,ne_eq,decide_eq_true_eq,not_or,Decidable.not_not,Nat.not_lt] at hcond
        obtain ⟨⟨hzl,hlim⟩,hlim2⟩ := hcond
        obtain ⟨v,hv,hvz,hvr,_⟩ := zeroOf_ok hz
        simp only [evA,evAd,a_bsl] at he
        split at he
        · rename_i cs hlay
          split at he
          · cases he
            have hzc : LR ι z v.cells.toList := hvz ▸ (hvr ι).cells
            have hvs : v.cells.size = size := by rw [← hzl,hzc.length]; simp
            obtain ⟨z0,hz0⟩ : ∃ z0 : Array Value,z0 = if n * size = 0 then #[] else v.cells := ⟨_,rfl⟩
            have hLR : LR ι (rep n z) ((Array.range (n * size)).map (z0[· % z0.size]!)).toList := by
              by_cases h0 : n * size = 0
              · have : rep n z = [] := List.length_eq_zero_iff.1 (by rw [rep_length,hzl]; exact h0)
                rw [this,h0]
                simp only [Array.toList_map,Array.toList_range,List.range_zero,List.map_nil]
                exact .nil
              · have hs0 : v.cells.size ≠ 0 := by
                  intro e
                  rw [hvs] at e
                  rw [e] at h0
                  simp at h0
                rw [if_neg h0] at hz0
                subst hz0
                have := range_rep v.cells n
                rw [hvs] at this
                rw [hvs,this]
                exact rep_ok hzc n
            obtain ⟨r',hf,hr'⟩ := lay_ok hT hps hlay hLR
            rw [Array.toArray_toList] at hf
            refine ⟨r'.length,.cells ⟨r'⟩ e,sliceAt n n,fun w => ?_,hrow _ ⟨r'⟩ _ hr',fun ι' b r h => .sl h ?_⟩
            · have hle : ¬ n * size > 2 ^ 24 := by omega
              have hz1 : (if n * size = 0 then (Result.ok #[] w : Result (Array Value)) else Result.ok v.cells w) = .ok z0 w := by rw [hz0]; split <;> rfl
              simp only [execOp,Instr.buildSlice,Sem.run_bind,run_und hu,run_sz hsz,Result.andThen_ok,Sem.run_ite,if_neg hle,Sem.run_pure,hv,Array.toList_map]
              by_cases h0 : n * size = 0
              · rw [if_pos h0] at hz0
                subst hz0
                simp only [if_pos h0,Result.andThen_ok,hf,newRow,Sem.run_bind,run_newObj,Sem.run_pure]
                rfl
              · rw [if_neg h0] at hz0
                subst hz0
                simp only [if_neg h0,Result.andThen_ok,hf,newRow,Sem.run_bind,run_newObj,Sem.run_pure]
                rfl
            · omega
          · cases he
        · cases he
    · cases hc
  case makeMap t rv =>
    cases rv with
    | some x => cases hc
    | none =>
      simp only at hc
      split at hc
      · rename_i key elem hu
        simp only [bind,Option.bind_eq_some_iff,Option.some.injEq] at hc
        obtain ⟨n,hn,ag,hag,rfl⟩ := hc
        simp only [evA,evAd,a_mkm,Option.some.injEq,Prod.mk.injEq] at he
        obtain ⟨rfl,rfl⟩ := he
        refine ⟨0,.map #[] 0,mapAt,fun w => ?_,fun ι' _ => ⟨#[],0,rfl,.nil,by simp⟩,fun ι' b r h => .map h⟩
        simp [execOp,Instr.makeMap,mapAt]
      · cases hc
  case makeSlice t l c =>
    split at hc
    · rename_i e hu
      simp only [bind,Option.bind_eq_some_iff] at hc
      obtain ⟨size,hsz,z,hz,bytes,hby,hc⟩ := hc
      split at hc
      · cases hc
      · rename_i hcond
        simp only [Option.bind_eq_some_iff,Option.some.injEq] at hc
        obtain ⟨l',hl,c',hcx,rfl⟩ := hc
        simp only [Bool.or_eq_true,bne_iff_ne,ne_eq,decide_eq_true_eq,not_or,Decidable.not_not] at hcond
        obtain ⟨hzl,hs0⟩ := hcond
        obtain ⟨v,hv,hvz,hvr,_⟩ := zeroOf_ok hz
        simp only [evA,evAd,a_mks] at he
        split at he
        · rename_i ln cn hln hcn
          split at he
          · rename_i h1 h2 h3
            have h1' := Nat.le_of_ble_eq_true h1
            have h2' : bytes * cn ≤ 1048576 := Nat.le_of_ble_eq_true h2
            have h3' := Nat.le_of_ble_eq_true h3
            cases he
            obtain ⟨k1,hk1⟩ := place_inv hln (compX_ok hl hT)
            obtain ⟨k2,hk2⟩ := place_inv hcn (compX_ok hcx hT)
            have hzc : LR ι z v.cells.toList := hvz ▸ (hvr ι).cells
            have hvs : v.cells.size = size := by rw [← hzl,hzc.length]; simp
            cases hi : P.info? e with
            | none => rw [hi] at hby; cases hby
            | some i =>
              rw [hi] at hby
              cases hby
              have hLR : LR ι (rep cn z) ((Array.range (cn * size)).map (v.cells[· % v.cells.size]!)).toList := by
                have := range_rep v.cells cn
                rw [hvs] at this
                rw [hvs,this]
                exact rep_ok hzc cn
              have hw1 : IntKind.i64.wrap (ln : Int) = ln := IntWalk.i64_in _ (by omega)
              have hw2 : IntKind.i64.wrap (cn : Int) = cn := IntWalk.i64_in _ (by omega)
              have hb : ¬ ((i.bytes : Int) * (cn : Int) > 2 ^ 48) := by
                have h5 : ((i.bytes * cn : Nat) : Int) ≤ ((1048576 : Nat) : Int) := Int.ofNat_le.2 h2'
                rw [Int.natCast_mul] at h5
                intro h6
                have h7 : (2 : Int) ^ 48 = 281474976710656 := by decide
                omega
              refine ⟨_,.cells ((Array.range (cn * size)).map (v.cells[· % v.cells.size]!)) e,sliceAt ln cn,fun w => ?_,hrow _ _ _ hLR,fun ι' b r h => .sl h (by omega)⟩
              have hcond : ((decide ((cn : Int) < 0) || decide ((i.bytes : Int) * (cn : Int) > 2 ^ 48)) || decide ((ln : Int) < 0) || decide ((ln : Int) > (cn : Int))) = false := by
                simp only [Bool.or_eq_false_iff,decide_eq_false_iff_not]
                refine ⟨⟨⟨by omega,hb⟩,by omega⟩,by omega⟩
              simp only [execOp,Instr.makeSlice,Sem.run_bind,run_und hu,Result.andThen_ok,hk1,hk2,asInt,asIntOf,Sem.run_pure,run_info hi,hw1,hw2,hcond,Bool.false_eq_true,if_false,run_askRoom,Int.toNat_natCast,run_sz hsz]
              by_cases h0 : cn * size = 0
              · have hc0 : cn = 0 := (Nat.mul_eq_zero.1 h0).resolve_right hs0
                subst hc0
                have e0 : ∀ f : Nat → Value,(Array.range 0).map f = #[] := fun f => by simp
                simp only [Nat.zero_mul,if_true,Sem.run_pure,Sem.run_bind,Result.andThen_ok,newRow,run_newObj,e0]
                rfl
              · simp only [if_neg h0,Sem.run_bind,hv,Sem.run_pure,Result.andThen_ok,newRow,run_newObj]
                rfl
          · cases he
        · cases he
    · cases hc
end
end Go.Sim
/- Operations that write. -/
namespace Go.Sim
set_option linter.all false
open Go
variable [Rho] [Asm] [SymOK]

section
variable {P : Program} {ι : Io} {T : Tm} {a : Act} {s : St} {w w' : World}

/-- A world that differs in what has been drawn. -/
theorem Po.draw (hW : WR P ι s w) (n : Nat) : Po P ι s w ι s { w with drawn := n } :=
  ⟨hW,.refl _,⟨hW.obj,hW.inj,hW.bound,hW.dom,hW.lim,hW.bsn,hW.wsb,hW.pin,⟨hW.env.low,hW.env.top,hW.env.old⟩⟩,rfl,rfl,rfl,Nat.le_refl _,fun _ _ _ => rfl,fun b r c h1 h2 => (by rw [h1] at h2; cases h2),fun b r h1 h2 => (by rw [h1] at h2; cases h2),fun _ _ _ => rfl,fun _ _ h => h,rfl,Nat.le_refl _,fun _ h => h⟩

/-- A block is laid down on the reckoner's side alone, and goes on under a new number. -/
theorem Po.move (hW : WR P ι s w) {b r c : Nat} {o : LO} {x : Obj} (hl : s.h.get b ≠ none) (hb : ι b = some (r,c)) (hn : s.n < limH) (ho : ∀ ι',Ext ι ι' → OR P ι' c o x) (hu : Upd w w' r x) :
    ∃ ι',ι' s.n = some (r,c) ∧ Po P ι s w ι' ((s.put b none).new o) w' := by
  have hbn := hW.dom b _ hb
  have hfresh : ι s.n = none := by
    cases h : ι s.n with
    | none => rfl
    | some r => exact absurd (hW.dom _ _ h) (Nat.lt_irrefl _)
  let ι' : Io := fun j => if j = s.n then some (r,c) else ι j
  have hext : Ext ι ι' := fun j r' h => by
    show (if j = s.n then _ else ι j) = _
    rw [if_neg]
    · exact h
    · rintro rfl; rw [hfresh] at h; cases h
  have hι : ∀ j r',ι' j = some r' → (j = s.n ∧ r' = (r,c)) ∨ (j ≠ s.n ∧ ι j = some r') := fun j r' h => by
    have h' : (if j = s.n then some (r,c) else ι j) = some r' := h
    split at h'
    · rename_i e; cases h'; exact .inl ⟨e,rfl⟩
    · rename_i e; exact .inr ⟨e,h'⟩
  have hg1 : ∀ j,(s.put b none).h.get j = if j = b then none else s.h.get j := fun j => Tr.get_set DH s.h b none j (lim_le (by have := hW.lim; omega))
  have hg : ∀ j,((s.put b none).new o).h.get j = if j = s.n then some o else if j = b then none else s.h.get j := fun j => by
    have := Tr.get_set DH (s.put b none).h s.n (some o) j (lim_ok hn)
    rw [hg1] at this
    exact this
  have hnote := note_self (s := s) (b := b)
  refine ⟨ι',by simp [ι'],hW,hext,⟨?_,?_,?_,?_,?_,?_,fun x hx => (note_mem hx).elim (hW.wsb x) id,hW.pin.mono hext,hW.env.mono (fun j r' c' h => (hι j _ h).elim (fun e => .inl ⟨b,c,by cases e.2; exact hb⟩) fun e => .inl ⟨j,c',e.2⟩) (Nat.le_of_eq hu.size.symm) fun k _ hn => hu.other k fun e => hn b c (e ▸ hb)⟩,hu.os,hu.tape,hu.output,Nat.le_of_eq hu.size.symm,?_,?_,?_,?_,?_,rfl,Nat.le_succ _,fun x h => note_sub h⟩
  · intro j oj hj
    rw [hg] at hj
    split at hj
    · rename_i e
      subst e
      cases hj
      exact ⟨r,c,x,by simp [ι'],hu.at_,ho ι' hext⟩
    · split at hj
      · cases hj
      · rename_i e1 e2
        obtain ⟨r',c',x',h1,h2,h3⟩ := hW.obj j oj hj
        refine ⟨r',c',x',hext _ _ h1,?_,h3.mono hext⟩
        rw [hu.other r' (fun e' => e2 (hW.inj j b r c' c (by rw [hj]; simp) hl (e' ▸ h1) hb)),h2]
  · intro j j' r' c1 c2 h1 h2 h3 h4
    rw [hg] at h1 h2
    rcases hι _ _ h3 with ⟨e1,e2⟩ | ⟨e1,e2⟩ <;> rcases hι _ _ h4 with ⟨e3,e4⟩ | ⟨e3,e4⟩
    · rw [e1,e3]
    · exfalso
      rw [if_neg e3] at h2
      split at h2
      · exact h2 rfl
      · rename_i e5
        cases e2
        exact e5 (hW.inj j' b r c2 c h2 hl e4 hb)
    · exfalso
      rw [if_neg e1] at h1
      split at h1
      · exact h1 rfl
      · rename_i e5
        cases e4
        exact e5 (hW.inj j b r c1 c h1 hl e2 hb)
    · rw [if_neg e1] at h1
      rw [if_neg e3] at h2
      split at h1
      · exact absurd rfl h1
      · split at h2
        · exact absurd rfl h2
        · exact hW.inj j j' r' c1 c2 h1 h2 e2 e4
  · intro j r' c' h
    rw [hu.size]
    rcases hι _ _ h with ⟨e1,e2⟩ | ⟨e1,e2⟩
    · cases e2; exact hW.bound _ _ _ hb
    · exact hW.bound _ _ _ e2
  · intro j r' h
    show j < Nat.succ s.n
    rcases hι _ _ h with ⟨e1,e2⟩ | ⟨e1,e2⟩
    · omega
    · have := hW.dom _ _ e2; omega
  · show Nat.succ s.n ≤ limH; omega
  · show s.bs ≤ Nat.succ s.n; have := hW.bsn; omega
  · intro k hk hh
    refine hu.other k fun e => ?_
    subst e
    rcases hh b c hb with e | ⟨e1,e2⟩
    · exact hl e
    · rcases hnote with o | o
      · omega
      · exact e2 o
  · intro j r' c' h1 h2 hr
    rcases hι _ _ h2 with ⟨e1,e2⟩ | ⟨e1,e2⟩
    · cases e2; exact ⟨b,c,hb,hl,hnote⟩
    · rw [h1] at e2; cases e2
  · intro j r' h1 h2
    rcases hι _ _ h2 with ⟨e1,e2⟩ | ⟨e1,e2⟩
    · omega
    · rw [h1] at e2; cases e2
  · intro j hj hw
    rw [hg,if_neg (by have := hW.bsn; omega),if_neg]
    rintro rfl
    rcases hnote with o | o
    · omega
    · exact hw o
  · intro j hj e
    rw [hg,if_neg (by omega)]
    split
    · rfl
    · exact e

/-- The killing of a block. -/
theorem Po.kill (hW : WR P ι s w) {b r c : Nat} (hl : s.h.get b ≠ none) (hb : ι b = some (r,c)) : Po P ι s w ι (s.put b none) w := by
  have hbn := hW.dom b _ hb
  have hg : ∀ j,(s.put b none).h.get j = if j = b then none else s.h.get j := fun j => Tr.get_set DH s.h b none j (lim_le (by have := hW.lim; omega))
  have hlive : ∀ j,(s.put b none).h.get j ≠ none → s.h.get j ≠ none := fun j hj => by
    rw [hg] at hj
    split at hj
    · exact absurd rfl hj
    · exact hj
  refine ⟨hW,.refl _,⟨?_,?_,hW.bound,hW.dom,hW.lim,hW.bsn,fun x hx => (note_mem hx).elim (hW.wsb x) id,hW.pin,hW.env⟩,rfl,rfl,rfl,Nat.le_refl _,fun _ _ _ => rfl,?_,?_,?_,?_,rfl,Nat.le_refl _,fun x h => note_sub h⟩
  · intro j oj hj
    rw [hg] at hj
    split at hj
    · cases hj
    · exact hW.obj j oj hj
  · intro j j' r' c1 c2 h1 h2 h3 h4
    exact hW.inj j j' r' c1 c2 (hlive j h1) (hlive j' h2) h3 h4
  · intro b r c h1 h2; rw [h1] at h2; cases h2
  · intro b r h1 h2; rw [h1] at h2; cases h2
  · intro j hj hw
    rw [hg,if_neg]
    rintro rfl
    rcases note_self (s := s) (b := j) with o | o
    · omega
    · exact hw o
  · intro j _ e
    rw [hg]
    split
    · rfl
    · exact e

/-- Cells are stored over a row. -/
theorem store_ok (hW : WR P ι s w) {b o r k : Nat} {c c' xs vs : List Value} (hb : s.h.get b = some (.cells c)) (hι : ι b = some (r,k)) (hx : LR ι xs vs) (ho : Sim.ones xs = true) (hv : over c o xs = some c') :
    ∃ w',(storeCells ⟨r,o,none⟩ vs).run P w = .ok () w' ∧ Po P ι s w ι (s.put b (some (.cells c'))) w' := by
  obtain ⟨r',k',x,h1,h2,cs,ty,rfl,hc,l',tl,h3,h4⟩ := hW.obj _ _ hb
  rw [hι] at h1
  cases h1
  obtain ⟨g1,q,g2,g3,g4⟩ := LR.over (tl := tl) h4 hx hv
  have hsz : cs.size = l'.length + tl.length := by rw [← Array.length_toList,h3,List.length_append]
  have hst := run_storeCells_at P r o ty vs 0 cs w h2 (by omega) (fun v hv => (List.all_eq_true.1 (hx.ones ho)) v hv)
  rw [Nat.add_zero,h3,g4] at hst
  refine ⟨_,hst,Po.put hW (by rw [hb]; simp) hι (x := .cells (q ++ tl).toArray ty) ⟨_,_,rfl,?_,q,tl,by simp,g2⟩ ⟨setRow_heap w r cs _ ty _ h2,fun j hj => setRow_other w r j _ hj,by simp,rfl,rfl,rfl⟩⟩
  simp only [List.size_toArray,List.length_append,g3]
  omega
end
end Go.Sim
/- The operations that write, each. -/
namespace Go.Sim
set_option linter.all false
open Go
variable [Rho] [Asm] [SymOK]

section
variable {P : Program} {ι : Io} {T : Tm} {a : Act} {s : St} {w : World}

/-- What an operation does that changes memory. -/
def Does (P : Program) (ι : Io) (s : St) (w : World) (a : Act) (o : Oper) (v : Value) (s1 : St) : Prop :=
  ∃ v' ι' w',VR ι' v v' ∧ Po P ι s w ι' s1 w' ∧ ((execOp a.eval o).run P w = .ok (.value v') w' ∨ ((execOp a.eval o).run P w = .ok .skip w' ∧ v' = undef))

theorem undef_ok (ι : Io) : VR ι (.tuple ⟨[]⟩) undef := .tup .nil

theorem ER.length : ∀ {es : List (Value × Value)} {en : List MapEntry},ER ι es en → es.length = en.length
  | _,_,.nil => rfl
  | _,_,.cons _ _ h => by simp [h.length]
theorem ER.append : ∀ {es : List (Value × Value)} {en : List MapEntry} {k v : Value} {e : MapEntry},ER ι es en → VR ι k e.key → VR ι v e.val → ER ι (es ++ [(k,v)]) (en ++ [e])
  | _,_,_,_,_,.nil,h1,h2 => .cons h1 h2 .nil
  | _,_,_,_,_,.cons h3 h4 h5,h1,h2 => .cons h3 h4 (h5.append h1 h2)
theorem ER.set : ∀ {es : List (Value × Value)} {en : List MapEntry} {k v : Value} {j : Nat} {f : MapEntry → MapEntry},ER ι es en → (∀ e,VR ι k (f e).key ∧ VR ι v (f e).val) → ER ι (es.set j (k,v)) (en.modify j f)
  | _,_,_,_,_,_,.nil,_ => by simp; exact .nil
  | _,_,_,_,0,f,.cons (e := e) h3 h4 h5,h => by simp; exact .cons (h e).1 (h e).2 h5
  | _,_,_,_,j + 1,f,.cons h3 h4 h5,h => by simp; exact .cons h3 h4 (h5.set h)
theorem ins_ok {kl : List Value} {kv v : Value} : ∀ {es es' : List (Value × Value)},insertM kl kv v es = some es' → (look kl es = some none ∧ es' = es ++ [(kv,v)]) ∨
    ∃ x y,look kl es = some (some y) ∧ es[idxL kl es]? = some (x,y) ∧ sameL kl (cellsOf x) = some true ∧ es' = es.set (idxL kl es) (kv,v)
  | [],es',h => by
    simp only [insertM,Option.some.injEq] at h
    subst h
    exact .inl ⟨rfl,rfl⟩
  | (x,y) :: es,es',h => by
    simp only [insertM] at h
    split at h
    · rename_i hs
      cases h
      exact .inr ⟨x,y,by simp only [look,hs],by simp [idxL,hs],hs,by simp [idxL,hs]⟩
    · rename_i hs
      split at h
      · rename_i r hr
        cases h
        rcases ins_ok hr with ⟨h1,rfl⟩ | ⟨x',y',h1,h2,h3,rfl⟩
        · exact .inl ⟨by simp only [look,hs,h1],rfl⟩
        · exact .inr ⟨x',y',by simp only [look,hs,h1],by simp [idxL,hs,h2],h3,by simp [idxL,hs]⟩
      · cases h
    · cases h
theorem ER.at_ : ∀ {es : List (Value × Value)} {en : List MapEntry} {j : Nat} {x y : Value},ER ι es en → es[j]? = some (x,y) → ∃ e,en[j]? = some e ∧ VR ι x e.key ∧ VR ι y e.val
  | _,_,_,_,_,.nil,h => by simp at h
  | _,_,0,_,_,.cons (e := e) h3 h4 h5,h => by simp at h; obtain ⟨rfl,rfl⟩ := h; exact ⟨e,by simp,h3,h4⟩
  | _,_,j + 1,_,_,.cons h3 h4 h5,h => by simp at h ⊢; exact h5.at_ h

theorem same_bits {n : Nat} {ag : Bool} {k x k' x' : Value} (hk : keyed n ag k = true) (hx : keyed n ag x = true) (hkv : VR ι k k') (hxv : VR ι x x') (hs : sameL (cellsOf k) (cellsOf x) = some true) : Instr.sameBits 10000 x' k' = true := by
  obtain ⟨e1,e2⟩ := sameL_true hs
  have hint : ∀ (l l' : List Value),LR ι l l' → (∀ y ∈ l,∃ k n,y = .int k n) → l' = l := by
    intro l l' h
    induction l generalizing l' with
    | nil => intro _; cases h; rfl
    | cons y l ih =>
      intro hy
      cases h with
      | cons hv hl =>
        obtain ⟨k,n,rfl⟩ := hy y List.mem_cons_self
        rw [hv.intI,ih _ hl fun z hz => hy z (List.mem_cons_of_mem _ hz)]
  have hzip : ∀ (l : List Value) (p : Value × Value),p ∈ l.zip l → p.1 = p.2 ∧ p.1 ∈ l := by
    intro l
    induction l with
    | nil => intro p hp; simp at hp
    | cons y l ih =>
      intro p hp
      simp only [List.zip_cons_cons,List.mem_cons] at hp
      rcases hp with rfl | hp
      · exact ⟨rfl,List.mem_cons_self⟩
      · exact ⟨(ih p hp).1,List.mem_cons_of_mem _ (ih p hp).2⟩
  have hself : ∀ y : Value,(∃ k n,y = .int k n) → ∀ d,Instr.sameBits d y y = true := by
    rintro _ ⟨k,n,rfl⟩ d
    cases d <;> simp [Instr.sameBits]
  cases ag with
  | true =>
    cases k with
    | agg l =>
      cases x with
      | agg m =>
        obtain ⟨l⟩ := l
        obtain ⟨m⟩ := m
        obtain ⟨l',rfl,hl⟩ := hkv.aggI
        obtain ⟨m',rfl,hm⟩ := hxv.aggI
        have e1' : m = l := e1
        have e2' : ∀ y ∈ l,∃ k n,y = .int k n := e2
        rw [hint _ _ hl e2',hint _ _ hm (e1' ▸ e2'),e1']
        simp only [Instr.sameBits,BEq.rfl,Bool.true_and,List.all_eq_true]
        intro p hp
        obtain ⟨q1,q2⟩ := hzip l p hp
        rw [← q1]
        exact hself _ (e2' _ q2) _
      | _ => simp [keyed] at hx
    | _ => simp [keyed] at hk
  | false =>
    cases k with
    | int k1 n1 =>
      cases x with
      | int k2 n2 =>
        rw [hkv.intI,hxv.intI]
        have e1' : [Value.int k2 n2] = [Value.int k1 n1] := e1
        cases e1'
        exact hself _ ⟨_,_,rfl⟩ _
      | _ => simp [keyed] at hx
    | _ => simp [keyed] at hk

theorem evSt_ok {t : TypeId} {n : Nat} {ad x : Operand} {ad' x' : Opd} {β : Type} {k : Value → St → Option β} {res : β} {dst : Option Tmp} {ty : TypeId} {pos : String} {after : Array Edge} {guard : Option (Nat × Bool)}
    (hn : szOf P t = some n) (ha : compX ad = some ad') (hx : compX x = some x') (hT : TR ι T a.tmps) (hW : WR P ι s w) (he : w_st n ad' x' T s k = some res) :
    ∃ v s1,k v s1 = some res ∧ Does P ι s w a ⟨dst,.store t ad x,ty,pos,after,guard⟩ v s1 := by
  have h1 := compX_ok ha hT
  have h2 := compX_ok hx hT
  simp only [w_st] at he
  split at he
  · rename_i b o e1
    rw [e1] at h1
    obtain ⟨r,c,hr,hb⟩ := h1.ptrI
    split at he
    · rename_i cs hcs
      split at he
      · rename_i hlen hone
        split at he
        · rename_i cs' hov
          rw [St.putK_eq] at he
          obtain ⟨w',hst,hpo⟩ := store_ok hW hcs hb h2.cells hone hov
          refine ⟨_,_,he,undef,ι,w',undef_ok ι,hpo,.inr ⟨?_,rfl⟩⟩
          have hln := Nat.eq_of_beq_eq_true hlen
          rw [len_eq,h2.cells.length] at hln
          have hsz : (a.eval x).cells.size = n := by simpa using hln
          simp only [execOp,Instr.storeAt,hr,Instr.sureAddr,Sem.run_bind,Sem.run_pure,Result.andThen_ok,storeVar,run_sz hn,hsz,ne_eq,not_true_eq_false,if_false,hst]
        · cases he
      · cases he
    · cases he
  · cases he

theorem evMup_ok {t key elem : TypeId} {n : Nat} {ag : Bool} {m kx vx : Operand} {m' kx' vx' : Opd} {β : Type} {k : Value → St → Option β} {res : β} {dst : Option Tmp} {ty : TypeId} {pos : String} {after : Array Edge} {guard : Option (Nat × Bool)}
    (hu : P.underlying t = some (.map key elem)) (hn : eqT P 6 key = some n) (hag : aggB P key = some ag) (hm : compX m = some m') (hk : compX kx = some kx') (hv : compX vx = some vx') (hT : TR ι T a.tmps) (hW : WR P ι s w) (he : w_mup n ag m' kx' vx' T s k = some res) :
    ∃ v s1,k v s1 = some res ∧ Does P ι s w a ⟨dst,.mapUpdate t m kx vx,ty,pos,after,guard⟩ v s1 := by
  have h1 := compX_ok hm hT
  have h2 := compX_ok hk hT
  have h3 := compX_ok hv hT
  simp only [w_mup] at he
  split at he
  · rename_i b e1
    rw [e1] at h1
    split at he
    · rename_i es hkey hes
      split at he
      · rename_i es' hins
        rw [St.putK_eq] at he
        rcases mapOf_ok hW h1 hes with ⟨h,_⟩ | ⟨b',r,c,en,ck,hb',hm',hb,hget,hheap,her,hps⟩
        · cases h
        · cases hb'
          have hg : (getObj r).run P w = .ok (.map en ck) w := getObj_run hheap (fun _ _ _ h => by cases h)
          have hlt : r < w.heap.size := hW.bound _ _ _ hb
          have hcheck : (Instr.checkKey false 10000 key (a.eval kx)).run P w = .ok () w := by
            obtain ⟨q1,q2,q3⟩ := keyed_holds (P := P) hag hkey h2
            exact key_ok (D := 9994) hn q1 q2
          have hset : ∀ x,(setObj r x).run P w = .ok () { w with heap := w.heap.setIfInBounds r x } := fun x => setObj_run hheap (fun _ _ _ h => by cases h)
          rcases ins_ok hins with ⟨hl,rfl⟩ | ⟨x,y,hl,hat,hs,rfl⟩
          · obtain ⟨r',hf,hr'⟩ := find_ok hn hag hkey h2 w her hps hl
            have hr'' : r' = none := hr'
            subst hr''
            refine ⟨_,_,he,undef,ι,_,undef_ok ι,Po.put hW (by rw [hget]; simp) hb (x := .map (en.push { key := a.eval kx,val := a.eval vx,born := ck }) (ck + 1)) ⟨_,_,rfl,?_,?_⟩ (upd_set hlt),.inr ⟨?_,rfl⟩⟩
            · rw [Array.toList_push]
              exact her.append h2 h3
            · intro p hp
              rcases List.mem_append.1 hp with hp | hp
              · exact hps p hp
              · simp only [List.mem_singleton] at hp
                subst hp
                exact hkey
            · simp only [execOp,Instr.mapUpdate,Sem.run_bind,run_und hu,Result.andThen_ok,hm',hg,hcheck,hf,hset,Sem.run_pure]
          · obtain ⟨r',hf,v',e1,e2⟩ := find_ok hn hag hkey h2 w her hps hl
            subst e1
            obtain ⟨en0,hen,hk0,hv0⟩ := her.at_ hat
            have hbits := same_bits hkey (hps (x,y) (List.mem_of_getElem? hat)) h2 hk0 hs
            refine ⟨_,_,he,undef,ι,_,undef_ok ι,Po.put hW (by rw [hget]; simp) hb (x := .map (en.modify (idxL (cellsOf (oev T kx')) es) fun e => { e with key := a.eval kx,val := a.eval vx }) ck) ⟨_,_,rfl,?_,?_⟩ (upd_set hlt),.inr ⟨?_,rfl⟩⟩
            · rw [Array.toList_modify]
              exact her.set fun e => ⟨h2,h3⟩
            · intro p hp
              rcases List.mem_or_eq_of_mem_set hp with hp | hp
              · exact hps p hp
              · subst hp; exact hkey
            · have hen' : (en[idxL (cellsOf (oev T kx')) es]?) = some en0 := by
                rw [← Array.getElem?_toList,hen]
              simp only [execOp,Instr.mapUpdate,Sem.run_bind,run_und hu,Result.andThen_ok,hm',hg,hcheck,hf,Instr.keyThatStays,hen',Option.map_some,Option.getD_some,hbits,if_true,Sem.run_pure,hset,Nat.zero_add]
      · cases he
    · cases he
  · cases he
end
end Go.Sim
/- append. -/
namespace Go.Sim
set_option linter.all false
open Go
variable [Rho] [Asm] [SymOK]

section
variable {P : Program} {ι : Io} {T : Tm} {a : Act} {s : St} {w : World}

theorem first_ok {ad : Option Addr} {n c size : Nat} {v' : Value} {l : List Value} (hW : WR P ι s w) (hv : VR ι (.slice ad n c) v') (hr : rowOf s.h (n * size) ad = some l) :
    ∃ l',LR ι l l' ∧ (Builtin.lenOf v').run P w = .ok n w ∧ (Builtin.firstCells size n v').run P w = .ok l'.toArray w ∧ l'.length = n * size := by
  cases ad with
  | none =>
    simp only [rowOf] at hr
    split at hr
    · rename_i h0
      cases hr
      refine ⟨[],.nil,?_,?_,by rw [h0]; rfl⟩
      · cases hv <;> rfl
      · cases hv
        · simp [Builtin.firstCells]; rfl
        · simp [Builtin.firstCells]
    · cases hr
  | some ad =>
    obtain ⟨b,o,sp⟩ := ad
    cases sp with
    | some x => cases hv
    | none =>
      obtain ⟨r,k,k',rfl,hb⟩ := hv.slB
      simp only [rowOf] at hr
      split at hr
      · rename_i cs hcs
        obtain ⟨r',k2,x,h1,h2,cs',ty,rfl,hc,l',tl,h3,h4⟩ := hW.obj _ _ hcs
        rw [hb] at h1
        cases h1
        obtain ⟨q,hq1,hq2,hq3,hq4⟩ := LR.sub (tl := tl) h4 hr
        rw [← h3] at hq3
        exact ⟨q,hq1,rfl,by simp only [Builtin.firstCells]; exact loadCells_ok h2 hq3 hq2,hq2⟩
      · cases hr

theorem cap_le {need c : Nat} (h : c < need) (hn : need ≤ 65536) : Builtin.nextslicecap need c ≤ 1048576 := by
  unfold Builtin.nextslicecap
  split
  · omega
  · split
    · omega
    · simp only [Builtin.growBy]
      repeat' split
      all_goals omega

theorem zeroCells_size (z : Array Value) (n : Nat) : (Builtin.zeroCells z n).size = n * z.size := by simp [Builtin.zeroCells]

/-- There is room: the cells are stored. -/
theorem app_in {sT xT e e2 : TypeId} {ty : TypeId} {X : Value} {size n m : Nat} {b : Addr} {k : Nat} {new : List Value} {w' : World}
    (hs : P.underlying sT = some (.slice e)) (hx : P.underlying xT = some (.slice e2)) (hsz : szOf P e = some size)
    (hlen : (Builtin.lenOf X).run P w = .ok m w) (hnew : (Builtin.firstCells size m X).run P w = .ok new.toArray w) (hk : n + m ≤ k) (hst : (storeCells (b.add (n * size)) new).run P w = .ok () w') {r1 : Array TypeId} {r2 : Array Value} (h1 : r1[0]? = some sT) (h2 : r1[1]? = some xT) (h3 : r2[0]? = some (.slice (some b) n k)) (h4 : r2[1]? = some X) :
    (Builtin.append_ r1 ty r2).run P w = .ok (.slice (some b) (n + m) k) w' := by
  simp only [Builtin.append_,h1,h2,h3,h4,Sem.run_bind,run_und hs,run_und hx,run_sz hsz,Result.andThen_ok,Sem.run_pure,hlen,if_pos hk,Bool.false_eq_true,if_false,Bool.not_false,if_true,hnew,hst]
theorem app_nil {sT xT e e2 : TypeId} {ty : TypeId} {X : Value} {size n m : Nat} {k : Nat} {new : List Value}
    (hs : P.underlying sT = some (.slice e)) (hx : P.underlying xT = some (.slice e2)) (hsz : szOf P e = some size)
    (hlen : (Builtin.lenOf X).run P w = .ok m w) (hnew : (Builtin.firstCells size m X).run P w = .ok new.toArray w) (hk : n + m ≤ k) {r1 : Array TypeId} {r2 : Array Value} (h1 : r1[0]? = some sT) (h2 : r1[1]? = some xT) (h3 : r2[0]? = some (.slice none n k)) (h4 : r2[1]? = some X) :
    (Builtin.append_ r1 ty r2).run P w = .ok (.slice none (n + m) k) w := by
  simp only [Builtin.append_,h1,h2,h3,h4,Sem.run_bind,run_und hs,run_und hx,run_sz hsz,Result.andThen_ok,Sem.run_pure,hlen,if_pos hk,Bool.false_eq_true,if_false,Bool.not_false,if_true,hnew]
/-- There is none: a new row. -/
theorem app_grow {sT xT e e2 : TypeId} {ty : TypeId} {S X : Value} {base : Option Addr} {size n m k : Nat} {old new : List Value} {z : Value} {i : TypeInfo} {t : Nat}
    (hs : P.underlying sT = some (.slice e)) (hx : P.underlying xT = some (.slice e2)) (hsz : szOf P e = some size) (hi : P.info? e = some i) (hby : i.bytes ≤ 65536) (hS : S = .slice base n k)
    (hlen : (Builtin.lenOf X).run P w = .ok m w) (hlim : n + m ≤ 65536) (hk : ¬ n + m ≤ k) (ht : t = (Question.appendCap (n + m) k e).cut (w.tape w.drawn (.appendCap (n + m) k e)))
    (hold : (Builtin.firstCells size n S).run P { w with drawn := w.drawn + 1 } = .ok old.toArray { w with drawn := w.drawn + 1 }) (hnew : (Builtin.firstCells size m X).run P { w with drawn := w.drawn + 1 } = .ok new.toArray { w with drawn := w.drawn + 1 })
    (hz : ∀ w,(zeroValue e).run P w = .ok z w) {r1 : Array TypeId} {r2 : Array Value} (h1 : r1[0]? = some sT) (h2 : r1[1]? = some xT) (h3 : r2[0]? = some S) (h4 : r2[1]? = some X) :
    (Builtin.append_ r1 ty r2).run P w = .ok (.slice (some ⟨w.heap.size,0,none⟩) (n + m) t) { w with drawn := w.drawn + 1,heap := w.heap.push (.cells (old.toArray ++ new.toArray ++ Builtin.zeroCells z.cells (t - (n + m))) e) } := by
  subst hS
  have hc := cap_le (need := n + m) (c := k) (by omega) hlim
  have hmul : ¬ Builtin.nextslicecap (n + m) k * i.bytes > 2 ^ 48 := by
    have : Builtin.nextslicecap (n + m) k * i.bytes ≤ 1048576 * 65536 := Nat.mul_le_mul hc hby
    omega
  have hbig : ¬ (((n + m : Nat) : Int) > IntKind.i64.max) := by
    have : IntKind.i64.max = 9223372036854775807 := rfl
    omega
  simp only [Builtin.append_,h1,h2,h3,h4,Sem.run_bind,run_und hs,run_und hx,run_sz hsz,run_info hi,Result.andThen_ok,Sem.run_pure,hlen,if_neg hk,Bool.false_eq_true,if_false,Bool.not_false,if_true,hbig,hmul,false_and,run_choose,Question.forced,run_askRoom,← ht,hold,hnew,hz,newRow,run_newObj]

theorem sub_all : ∀ l : List Value,sub l 0 l.length = some l
  | [] => rfl
  | v :: l => by simp only [List.length_cons,Sim.sub,sub_all l]
theorem zero_cells {z : List Value} {v : Value} (h : cellsOf v = z) : v.cells.size = z.length := by
  subst h
  cases v <;> rfl

theorem evApp_ok {o : Oper} {c : Call} {sT xT e e2 : TypeId} {size bytes : Nat} {z : List Value} {sx xx : Operand} {sx' xx' : Opd} {β : Type} {k : Value → St → Option β} {res : β} {dst : Option Tmp} {ty : TypeId} {pos : String} {after : Array Edge} {guard : Option (Nat × Bool)}
    (ho : o = ⟨dst,.call c,ty,pos,after,guard⟩) (hc : c.callee = .builtin .append) (h1 : c.argTypes[0]? = some sT) (h2 : c.argTypes[1]? = some xT) (h3 : c.args[0]? = some sx) (h4 : c.args[1]? = some xx)
    (hs : P.underlying sT = some (.slice e)) (hx : P.underlying xT = some (.slice e2)) (hsz : szOf P e = some size) (hz : zeroOf P e = some z) (hby : (P.info? e).map (·.bytes) = some bytes) (hzl : z.length = size) (hs0 : size ≠ 0) (hb1 : bytes ≤ 65536) (hb2 : size ≤ 65536)
    (hsx : compX sx = some sx') (hxx : compX xx = some xx') (hT : TR ι T a.tmps) (hW : WR P ι s w) (he : w_app size sx' xx' T s k = some res) :
    ∃ v s1,k v s1 = some res ∧ Does P ι s w a o v s1 := by
  subst ho
  have g1 := compX_ok hsx hT
  have g2 := compX_ok hxx hT
  have a1 : (c.args.map a.eval)[0]? = some (a.eval sx) := by simp [h3]
  have a2 : (c.args.map a.eval)[1]? = some (a.eval xx) := by simp [h4]
  obtain ⟨zv,hzr,hzc,hzv,_⟩ := zeroOf_ok hz
  have hzs : zv.cells.size = size := by rw [zero_cells hzc,hzl]
  have hrun : ∀ (v : Value) (w' : World),(Builtin.append_ c.argTypes ty (c.args.map a.eval)).run P w = .ok v w' → (execOp a.eval ⟨dst,.call c,ty,pos,after,guard⟩).run P w = .ok (.value v) w' := fun v w' h => by
    obtain ⟨callee,args,argTypes⟩ := c
    simp only at hc
    subst hc
    simp only [execOp,resolve,invoke,Sem.run_bind,Sem.run_pure,Result.andThen_ok,builtin,h]
  have grow : ∀ {ad ad' : Option Addr} {n m cp cp' : Nat} {old new : List Value} (base : Option Addr) (cpr : Nat),VR ι (.slice ad n cp) (a.eval sx) → VR ι (.slice ad' m cp') (a.eval xx) → a.eval sx = .slice base n cpr → ¬ n + m ≤ cpr → n + m ≤ 65536 →
      rowOf s.h (n * size) ad = some old → rowOf s.h (m * size) ad' = some new →
      ∃ t x,(Builtin.append_ c.argTypes ty (c.args.map a.eval)).run P w = .ok (.slice (some ⟨w.heap.size,0,none⟩) (n + m) t) { w with drawn := w.drawn + 1,heap := w.heap.push x } ∧ n + m ≤ t ∧ ∀ ι',Ext ι ι' → OR P ι' (t * size) (.cells (app old new)) x := by
    intro ad ad' n m cp cp' old new base cpr g1 g2 hr hk hlim hold hnew
    have hW1 : WR P ι s { w with drawn := w.drawn + 1 } := (Po.draw hW _).wr
    obtain ⟨new',hn1,hn2,_,hn4⟩ := first_ok (P := P) hW g2 hnew
    obtain ⟨new2,hn1',_,hn3,hn4'⟩ := first_ok (P := P) hW1 g2 hnew
    obtain ⟨old',ho1,_,ho3,ho4⟩ := first_ok (P := P) hW1 g1 hold
    cases hi : P.info? e with
    | none => rw [hi] at hby; cases hby
    | some i =>
      rw [hi] at hby
      cases hby
      refine ⟨_,_,app_grow hs hx hsz hi hb1 hr hn2 hlim hk rfl ho3 hn3 hzr h1 h2 a1 a2,?_,?_⟩
      · simp only [Question.cut]; omega
      · intro ι' hext
        refine ⟨_,e,rfl,?_,old' ++ new2,(Builtin.zeroCells zv.cells _).toList,by rw [Array.toList_append,Array.toList_append],by rw [app_eq]; exact (ho1.append hn1').mono hext⟩
        simp only [Array.size_append,List.size_toArray,zeroCells_size,hzs,ho4,hn4',Question.cut]
        rw [← Nat.add_mul,← Nat.add_mul]
        congr 1
        omega
  simp only [w_app] at he
  split at he
  · rename_i ad n cp ad' m cp' e1 e2'
    rw [e1] at g1
    rw [e2'] at g2
    split at he
    · cases he
    · rename_i new hnew
      obtain ⟨new',hn1,hn2,hn3,hn4⟩ := first_ok (P := P) hW g2 hnew
      split at he
      · rename_i hone hble hlt
        have hlim : n + m ≤ 65536 := Nat.le_of_ble_eq_true hble
        have hltn := blt_true hlt
        split at he
        · rename_i hcp
          have hcp' : cp < 2 ^ 64 := by simpa [Nat.blt_eq] using hcp
          split at he
          · rename_i hfit
            have hfit' : n + m ≤ cp := Nat.le_of_ble_eq_true hfit
            split at he
            · rename_i b o
              obtain ⟨r,kk,hr,hb⟩ := g1.slI hcp'
              split at he
              · rename_i cs hcs
                split at he
                · rename_i cs' hov
                  rw [St.putK_eq] at he
                  obtain ⟨w',hst,hpo⟩ := store_ok hW hcs hb hn1 hone hov
                  refine ⟨_,_,he,_,ι,w',.sl hb hcp',hpo,.inl (hrun _ _ ?_)⟩
                  refine app_in hs hx hsz hn2 hn3 hfit' ?_ h1 h2 (by rw [a1,hr]) a2
                  have : (⟨r,o,none⟩ : Addr).add (n * size) = ⟨r,o + n * size,none⟩ := by unfold Addr.add; split <;> simp_all
                  rw [this]
                  exact hst
                · cases he
              · cases he
            · split at he
              · rename_i h0
                have hr := g1.sl0I hcp'
                refine ⟨_,_,he,_,ι,w,.sl0 _ _ hcp',Po.refl hW,.inl (hrun _ _ ?_)⟩
                exact app_nil (n := n) (m := 0) hs hx hsz hn2 hn3 hfit' h1 h2 (by rw [a1,hr]) a2
              · cases he
            · cases he
          · rename_i hfit
            have hfit' : ¬ n + m ≤ cp := fun h => by have := Nat.ble_eq_true_of_le h; rw [show Nat.ble (n + m) cp = Nat.ble (Nat.add n m) cp from rfl,hfit] at this; cases this
            split at he
            · cases he
            · rename_i old hold
              rw [St.newK_eq] at he
              have hr : ∃ base cpr,a.eval sx = .slice base n cpr ∧ ¬ n + m ≤ cpr := by
                cases ad with
                | none => exact ⟨none,cp,g1.sl0I hcp',hfit'⟩
                | some ad =>
                  obtain ⟨b,o,sp⟩ := ad
                  cases sp with
                  | some _ => cases g1
                  | none => obtain ⟨r,kk,hr,hb⟩ := g1.slI hcp'; exact ⟨_,cp,hr,hfit'⟩
              obtain ⟨base,cpr,hr,hk⟩ := hr
              obtain ⟨t,x,hap,hle,hor⟩ := grow base cpr g1 g2 hr hk hlim hold hnew
              obtain ⟨ι',hι',hpo⟩ := Po.new (Po.draw hW (w.drawn + 1)).wr (o := .cells (app old new)) hltn hor
              exact ⟨_,_,he,_,ι',_,.slU hι' hle (by omega) (by omega) (by omega),(Po.draw hW _).trans hpo,.inl (hrun _ _ hap)⟩
        · rename_i hcp
          split at he
          · rename_i b
            split at he
            · rename_i cs hcs
              split at he
              · rename_i hl1 hl2
                rw [St.putK_eq,St.newK_eq] at he
                have hcp2 : cp = 2 ^ 64 + size := Nat.eq_of_beq_eq_true hl2
                subst hcp2
                obtain ⟨r,kc,kk,hr,hb,hnk,hcap,hsz1,hsz2⟩ := g1.slUI
                have hcl : cs.length = n * size := by have := Nat.eq_of_beq_eq_true hl1; rw [len_eq] at this; exact this
                obtain ⟨r',k2,x,q1,q2,cs',ty',rfl,q3,l',tl,q4,q5⟩ := hW.obj _ _ hcs
                rw [hb] at q1
                cases q1
                by_cases hroom : n + m ≤ kk
                · have hl' : l'.length = n * size := by rw [← q5.length,hcl]
                  have hsz' : cs'.size = kk * size := by rw [q3]; omega
                  have hle : (n + m) * size ≤ kk * size := Nat.mul_le_mul_right size hroom
                  rw [Nat.add_mul] at hle
                  have hst := run_storeCells_at P r (n * size) ty' new' 0 cs' w q2 (by rw [hn4]; omega) (fun v hv => (List.all_eq_true.1 (hn1.ones hone)) v hv)
                  have hrow : cs'.toList.take (n * size + 0) ++ new' ++ cs'.toList.drop (n * size + 0 + new'.length) = (l' ++ new') ++ tl.drop new'.length := by
                    rw [Nat.add_zero,q4,List.take_append_of_le_length (by omega),List.take_of_length_le (by omega),List.drop_append]
                    rw [List.drop_of_length_le (by omega),hl']
                    have e0 : n * size + new'.length - n * size = new'.length := by omega
                    rw [e0,List.nil_append]
                  rw [hrow] at hst
                  have hsize : ((l' ++ new') ++ tl.drop new'.length).toArray.size = kc := by
                    have e1 : cs'.size = l'.length + tl.length := by rw [← Array.length_toList,q4,List.length_append]
                    rw [hsz',hl'] at e1
                    simp only [List.size_toArray,List.length_append,List.length_drop,hn4,hl']
                    rw [← hcap]
                    omega
                  obtain ⟨ι',hι',hpo⟩ := Po.move hW (b := b) (o := .cells (app cs new)) (x := .cells ((l' ++ new') ++ tl.drop new'.length).toArray ty') (w' := w.setRow r ((l' ++ new') ++ tl.drop new'.length).toArray) (by rw [hcs]; simp) hb hltn
                    (fun ι' he => ⟨_,_,rfl,hsize,l' ++ new',tl.drop new'.length,by simp,by rw [app_eq]; exact (q5.append hn1).mono he⟩)
                    ⟨setRow_heap w r cs' _ ty' _ q2,fun j hj => setRow_other w r j _ hj,by simp,rfl,rfl,rfl⟩
                  refine ⟨_,_,he,_,ι',_,.slU hι' hroom (by omega) hsz1 hsz2,hpo,.inl (hrun _ _ ?_)⟩
                  refine app_in hs hx hsz hn2 hn3 hroom ?_ h1 h2 (by rw [a1,hr]) a2
                  have : (⟨r,0,none⟩ : Addr).add (n * size) = ⟨r,n * size,none⟩ := by unfold Addr.add; split <;> simp_all
                  rw [this]
                  exact hst
                · have hold : rowOf s.h (n * size) (some ⟨b,0,none⟩) = some cs := by
                    simp only [rowOf,hcs]
                    rw [← hcl]
                    exact sub_all cs
                  obtain ⟨t,x,hap,hle,hor⟩ := grow _ kk g1 g2 hr hroom hlim hold hnew
                  have hk1 := Po.kill hW (b := b) (by rw [hcs]; simp) hb
                  obtain ⟨ι',hι',hpo⟩ := Po.new (Po.draw hk1.wr (w.drawn + 1)).wr (o := .cells (app cs new)) hltn hor
                  exact ⟨_,_,he,_,ι',_,.slU hι' hle (by omega) hsz1 hsz2,(hk1.trans (Po.draw hk1.wr _)).trans hpo,.inl (hrun _ _ hap)⟩
              · cases he
            · cases he
          · cases he
      · cases he
  · cases he
end
end Go.Sim
