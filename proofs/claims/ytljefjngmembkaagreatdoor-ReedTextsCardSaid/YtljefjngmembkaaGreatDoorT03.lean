/- Part 3 of the proof: SimG, SimH, SimI, SimJ, SimL. -/
import Derived.Laws.Tables
import Derived.Laws.CopyRow
import Derived.Laws.Append
import Derived.Test.YtljefjngmembkaaGreatDoorT02
namespace Go.Sim
set_option linter.all false
open Go
variable [Rho] [Asm] [SymOK]

inductive ER (ι : Io) : List (Value × Value) → List MapEntry → Prop
  | nil : ER ι [] []
  | cons {k v : Value} {e : MapEntry} {l : List (Value × Value)} {l' : List MapEntry} : VR ι k e.key → VR ι v e.val → ER ι l l' → ER ι ((k,v) :: l) (e :: l')
theorem ER.mono {ι ι' : Io} (h : Ext ι ι') : ∀ {l l'},ER ι l l' → ER ι' l l'
  | _,_,.nil => .nil
  | _,_,.cons h1 h2 h3 => .cons (h1.mono h) (h2.mono h) (h3.mono h)
theorem ER.back {ι ι' : Io} (h : Ext ι ι') : ∀ {l x y},ER ι l x → ER ι' l y → ER ι l y
  | _,_,_,.nil,hy => by cases hy; exact .nil
  | _,_,_,.cons h1 h2 h3,hy => by
    cases hy with
    | cons h1' h2' h3' => exact .cons (h1.back h h1') (h2.back h h2') (h3.back h h3')

section
variable (P : Program)
def OR (ι : Io) (c : Nat) : LO → Obj → Prop
  | .cells l,o => ∃ cs t,o = .cells cs t (0,0) ∧ cs.size = c ∧ ∃ l' tl,cs.toList = l' ++ tl ∧ LR ι l l'
  | .map n ag es,o => ∃ en ck,o = .map en ck ∧ ER ι es en.toList ∧ ∀ p ∈ es,keyed n ag p.1 = true
  | .loop st pend T ps asg body,o => ∃ (r : Loop) (nt : Nat),o = .loop r ∧ r.state = st ∧ r.pending = pend ∧ TR ι T r.tmps ∧ nt ≤ r.tmps.size ∧ r.params.toList = ps ∧ (∀ p ∈ ps,p < nt) ∧ comp P nt r.assign = some asg ∧ comp P nt r.body = some body
  | .defd b,o => o = .deferred (if b then some [] else none)
  | .ro l,o => ∃ cs t f,o = .cells cs t f ∧ cs.toList = l
theorem OR.mono {P : Program} {ι ι' : Io} (h : Ext ι ι') {c : Nat} {lo : LO} {o : Obj} (ho : OR P ι c lo o) : OR P ι' c lo o := by
  cases lo with
  | cells l => obtain ⟨cs,t,e,hc,l',tl,h1,h2⟩ := ho; exact ⟨cs,t,e,hc,l',tl,h1,h2.mono h⟩
  | map n ag es => obtain ⟨en,ck,e,h1,h2⟩ := ho; exact ⟨en,ck,e,h1.mono h,h2⟩
  | loop st pend T ps asg body => obtain ⟨r,nt,h1,h2,h3,h4,h5⟩ := ho; exact ⟨r,nt,h1,h2,h3,h4.mono h,h5⟩
  | defd b => exact ho
  | ro l => exact ho
theorem TR.back {ι ι' : Io} (h : Ext ι ι') {T : Tm} {x y : Array Value} (hx : TR ι T x) (hy : TR ι' T y) : TR ι T y := fun t => (hx t).back h (hy t)
theorem OR.back {P : Program} {ι ι' : Io} (h : Ext ι ι') {c c' : Nat} {lo : LO} {x y : Obj} (hx : OR P ι c lo x) (hy : OR P ι' c' lo y) : OR P ι c' lo y := by
  cases lo with
  | cells l =>
    obtain ⟨cs,t,e,hc,l',tl,h1,h2⟩ := hx
    obtain ⟨cs',t',e',hc',l'',tl',h1',h2'⟩ := hy
    exact ⟨cs',t',e',hc',l'',tl',h1',h2.back h h2'⟩
  | map n ag es =>
    obtain ⟨en,ck,e,h1,_⟩ := hx
    obtain ⟨en',ck',e',h1',h2⟩ := hy
    exact ⟨en',ck',e',h1.back h h1',h2⟩
  | loop st pend T ps asg body =>
    obtain ⟨r,nt,h1,h2,h3,h4,h5⟩ := hx
    obtain ⟨r',nt',h1',h2',h3',h4',h5'⟩ := hy
    exact ⟨r',nt',h1',h2',h3',h4.back h h4',h5'⟩
  | defd b => exact hy
  | ro l => exact hy

def gsize (g : Nat) : Option Nat := match P.globals[g]? with
  | some G => szOf P G.type
  | none => none
def Pin (ι : Io) : Prop := ∀ g c,gsize P g = some c → ι g = some (g,c)
theorem Pin.mono {P : Program} {ι ι' : Io} (h : Pin P ι) (e : Ext ι ι') : Pin P ι' := fun g c hg => e _ _ (h g c hg)

structure Env (ι : Io) (w : World) : Prop where
  low : ∀ b r c,ι b = some (r,c) → r < P.globals.size ∨ Rho.B ≤ r
  top : Rho.B ≤ w.heap.size
  old : ∀ k,P.globals.size ≤ k → k < Rho.B → w.heap[k]? = Rho.W0 k
theorem Env.mono {P : Program} {ι ι' : Io} {w w' : World} (h : Env P ι w) (hi : ∀ b r c,ι' b = some (r,c) → (∃ b' c',ι b' = some (r,c')) ∨ Rho.B ≤ r) (hs : w.heap.size ≤ w'.heap.size) (ho : ∀ k,k < w.heap.size → (∀ b c,ι b ≠ some (k,c)) → w'.heap[k]? = w.heap[k]?) : Env P ι' w' where
  low := fun b r c hb => by
    rcases hi b r c hb with ⟨b',c',h'⟩ | h'
    · exact h.low _ _ _ h'
    · exact .inr h'
  top := Nat.le_trans h.top hs
  old := fun k h1 h2 => by
    rw [ho k (Nat.lt_of_lt_of_le h2 h.top) fun b c hb => by
      rcases h.low _ _ _ hb with e | e
      · exact absurd h1 (Nat.not_le.2 e)
      · exact absurd h2 (Nat.not_lt.2 e)]
    exact h.old k h1 h2

structure WR (ι : Io) (s : St) (w : World) : Prop where
  obj : ∀ b o,s.h.get b = some o → ∃ r c x,ι b = some (r,c) ∧ w.heap[r]? = some x ∧ OR P ι c o x
  inj : ∀ b b' r c c',s.h.get b ≠ none → s.h.get b' ≠ none → ι b = some (r,c) → ι b' = some (r,c') → b = b'
  bound : ∀ b r c,ι b = some (r,c) → r < w.heap.size
  dom : ∀ b r,ι b = some r → b < s.n
  lim : s.n ≤ limH
  bsn : s.bs ≤ s.n
  wsb : ∀ b,b ∈ s.ws → b < s.bs
  pin : Pin P ι
  env : Env P ι w

structure Po (ι : Io) (s : St) (w : World) (ι' : Io) (s' : St) (w' : World) : Prop where
  wr0 : WR P ι s w
  ext : Ext ι ι'
  wr : WR P ι' s' w'
  os : w'.os = w.os
  tape : w'.tape = w.tape
  output : w'.output = w.output
  size : w.heap.size ≤ w'.heap.size
  frame : ∀ k,k < w.heap.size → (∀ b c,ι b = some (k,c) → s.h.get b = none ∨ (b < s.bs ∧ b ∉ s'.ws)) → w'.heap[k]? = w.heap[k]?
  newold : ∀ b r c,ι b = none → ι' b = some (r,c) → r < w.heap.size → ∃ b0 c0,ι b0 = some (r,c0) ∧ s.h.get b0 ≠ none ∧ (s.bs ≤ b0 ∨ b0 ∈ s'.ws)
  newid : ∀ b r,ι b = none → ι' b = some r → s.n ≤ b
  inv : ∀ b,b < s.bs → b ∉ s'.ws → s'.h.get b = s.h.get b
  dead : ∀ b,b < s.n → s.h.get b = none → s'.h.get b = none
  bs : s'.bs = s.bs
  nle : s.n ≤ s'.n
  wsm : ∀ b,b ∈ s.ws → b ∈ s'.ws
end

section
variable {P : Program} {ι ι' ι'' : Io} {s s' s'' : St} {w w' w'' : World}
theorem Po.refl (h : WR P ι s w) : Po P ι s w ι s w :=
  ⟨h,.refl _,h,rfl,rfl,rfl,Nat.le_refl _,fun _ _ _ => rfl,fun b r c h1 h2 => (by rw [h1] at h2; cases h2),fun b r h1 h2 => (by rw [h1] at h2; cases h2),fun _ _ _ => rfl,fun _ _ h => h,rfl,Nat.le_refl _,fun _ h => h⟩
theorem Po.trans (h : Po P ι s w ι' s' w') (h' : Po P ι' s' w' ι'' s'' w'') : Po P ι s w ι'' s'' w'' where
  wr0 := h.wr0
  ext := h.ext.trans h'.ext
  wr := h'.wr
  os := h'.os.trans h.os
  tape := h'.tape.trans h.tape
  output := h'.output.trans h.output
  size := Nat.le_trans h.size h'.size
  frame := fun k hk hh => by
    have h1 := h.frame k hk fun b c hb => (hh b c hb).imp id fun ⟨x,y⟩ => ⟨x,fun hm => y (h'.wsm b hm)⟩
    refine (h'.frame k (Nat.lt_of_lt_of_le hk h.size) fun b c hb => ?_).trans h1
    cases hi : ι b with
    | none =>
      obtain ⟨b0,c0,e0,l0,o0⟩ := h.newold b k c hi hb hk
      rcases hh b0 c0 e0 with e | ⟨e1,e2⟩
      · exact absurd e l0
      · rcases o0 with o | o
        · omega
        · exact absurd (h'.wsm _ o) e2
    | some x =>
      have e := h.ext _ _ hi
      rw [hb] at e
      cases e
      rcases hh b c hi with e | ⟨e1,e2⟩
      · exact .inl (h.dead b (h.wr0.dom b _ hi) e)
      · exact .inr ⟨by rw [h.bs]; exact e1,e2⟩
  newold := fun b r c h1 h2 hr => by
    cases hi : ι' b with
    | none =>
      obtain ⟨b0,c0,e0,l0,o0⟩ := h'.newold b r c hi h2 (Nat.lt_of_lt_of_le hr h.size)
      cases hi0 : ι b0 with
      | none =>
        obtain ⟨b1,c1,e1,l1,o1⟩ := h.newold b0 r c0 hi0 e0 hr
        exact ⟨b1,c1,e1,l1,o1.imp id (h'.wsm _)⟩
      | some x =>
        have e := h.ext _ _ hi0
        rw [e0] at e
        cases e
        refine ⟨b0,c0,hi0,fun e => l0 (h.dead b0 ?_ e),?_⟩
        · exact h.wr0.dom b0 _ hi0
        · rw [h.bs] at o0; exact o0
    | some x =>
      have e := h'.ext _ _ hi
      rw [h2] at e
      cases e
      obtain ⟨b0,c0,e0,l0,o0⟩ := h.newold b r c h1 hi hr
      exact ⟨b0,c0,e0,l0,o0.imp id (h'.wsm _)⟩
  newid := fun b r h1 h2 => by
    cases hi : ι' b with
    | none => exact Nat.le_trans h.nle (h'.newid b r hi h2)
    | some x => exact h.newid b x h1 hi
  inv := fun b hb hw => (h'.inv b (by rw [h.bs]; exact hb) hw).trans (h.inv b hb fun hm => hw (h'.wsm b hm))
  dead := fun b hb e => h'.dead b (Nat.lt_of_lt_of_le hb h.nle) (h.dead b hb e)
  bs := h'.bs.trans h.bs
  nle := Nat.le_trans h.nle h'.nle
  wsm := fun b hb => h'.wsm b (h.wsm b hb)

structure Upd (w w' : World) (r : Nat) (x : Obj) : Prop where
  at_ : w'.heap[r]? = some x
  other : ∀ k,k ≠ r → w'.heap[k]? = w.heap[k]?
  size : w'.heap.size = w.heap.size
  os : w'.os = w.os
  tape : w'.tape = w.tape
  output : w'.output = w.output

theorem blt_true {a b : Nat} (h : Nat.blt a b = true) : a < b := by simpa [Nat.blt_eq] using h
theorem blt_false {a b : Nat} (h : Nat.blt a b = false) : b ≤ a := by
  refine Nat.not_lt.1 fun hlt => ?_
  have : Nat.blt a b = true := by simpa [Nat.blt_eq] using hlt
  rw [h] at this
  cases this
theorem note_sub {s : St} {b x : Nat} (h : x ∈ s.ws) : x ∈ note s b := by
  unfold note
  split
  · exact h
  · split
    · exact h
    · exact List.mem_cons_of_mem _ h
theorem mem_ok {b : Nat} : ∀ {l : List Nat},mem b l = true → b ∈ l
  | [],h => by simp [mem] at h
  | c :: l,h => by
    simp only [mem] at h
    split at h
    · rename_i hb
      rw [Nat.eq_of_beq_eq_true hb]
      exact List.mem_cons_self
    · exact List.mem_cons_of_mem _ (mem_ok h)
theorem note_mem {s : St} {b x : Nat} (h : x ∈ note s b) : x ∈ s.ws ∨ x < s.bs := by
  unfold note at h
  split at h
  · exact .inl h
  · rename_i hb
    split at h
    · exact .inl h
    · rcases List.mem_cons.1 h with rfl | h
      · exact .inr (blt_true hb)
      · exact .inl h
theorem note_self {s : St} {b : Nat} : s.bs ≤ b ∨ b ∈ note s b := by
  unfold note
  split
  · rename_i h
    left
    exact blt_false h
  · right
    split
    · rename_i h; exact mem_ok h
    · exact List.mem_cons_self

theorem lim_ok {n : Nat} (h : n < limH) : n + 1 < 2 ^ DH := by unfold limH at h; unfold DH; omega
theorem lim_le {n : Nat} (h : n ≤ limH) : n + 1 < 2 ^ DH := by unfold limH at h; unfold DH; omega

theorem Po.put (hW : WR P ι s w) {b r c : Nat} {o : LO} {x : Obj} (hl : s.h.get b ≠ none) (hb : ι b = some (r,c)) (ho : OR P ι c o x) (hu : Upd w w' r x) : Po P ι s w ι (s.put b (some o)) w' := by
  have hbn := hW.dom b _ hb
  have hg : ∀ j,(s.put b (some o)).h.get j = if j = b then some o else s.h.get j := fun j => Tr.get_set DH s.h b (some o) j (lim_le (by have := hW.lim; omega))
  have hlive : ∀ j,(s.put b (some o)).h.get j ≠ none → s.h.get j ≠ none := fun j hj => by
    rw [hg] at hj
    split at hj
    · rename_i e; rw [e]; exact hl
    · exact hj
  refine ⟨hW,.refl _,⟨?_,?_,?_,hW.dom,hW.lim,hW.bsn,fun x hx => (note_mem hx).elim (hW.wsb x) id,hW.pin,hW.env.mono (fun b r c h => .inl ⟨b,c,h⟩) (Nat.le_of_eq hu.size.symm) fun k _ hn => hu.other k fun e => hn b c (e ▸ hb)⟩,hu.os,hu.tape,hu.output,Nat.le_of_eq hu.size.symm,?_,?_,?_,?_,?_,rfl,Nat.le_refl _,fun x h => note_sub h⟩
  · intro j oj hj
    rw [hg] at hj
    split at hj
    · rename_i e
      subst e
      cases hj
      exact ⟨r,c,x,hb,hu.at_,ho⟩
    · rename_i e
      obtain ⟨r',c',x',h1,h2,h3⟩ := hW.obj j oj hj
      refine ⟨r',c',x',h1,?_,h3⟩
      rw [hu.other r' (fun e' => e (hW.inj j b r c' c (by rw [hj]; simp) hl (e' ▸ h1) hb)),h2]
  · intro j j' r' c1 c2 h1 h2 h3 h4
    exact hW.inj j j' r' c1 c2 (hlive j h1) (hlive j' h2) h3 h4
  · intro j r' c' h
    rw [hu.size]; exact hW.bound j r' c' h
  · intro k hk hh
    refine hu.other k fun e => ?_
    subst e
    rcases hh b c hb with e | ⟨e1,e2⟩
    · exact hl e
    · rcases note_self (s := s) (b := b) with o | o
      · omega
      · exact e2 o
  · intro b r c h1 h2; rw [h1] at h2; cases h2
  · intro b r h1 h2; rw [h1] at h2; cases h2
  · intro j hj hw
    rw [hg,if_neg]
    rintro rfl
    rcases note_self (s := s) (b := j) with o | o
    · omega
    · exact hw o
  · intro j _ e
    rw [hg,if_neg]
    · exact e
    · rintro rfl; exact hl e

theorem Po.new (hW : WR P ι s w) {c : Nat} {o : LO} {x : Obj} (hn : s.n < limH) (ho : ∀ ι',Ext ι ι' → OR P ι' c o x) :
    ∃ ι',ι' s.n = some (w.heap.size,c) ∧ Po P ι s w ι' (s.new o) { w with heap := w.heap.push x } := by
  have hfresh : ι s.n = none := by
    cases h : ι s.n with
    | none => rfl
    | some r => exact absurd (hW.dom _ _ h) (Nat.lt_irrefl _)
  let ι' : Io := fun b => if b = s.n then some (w.heap.size,c) else ι b
  have hext : Ext ι ι' := fun b r h => by
    show (if b = s.n then _ else ι b) = _
    rw [if_neg]
    · exact h
    · rintro rfl; rw [hfresh] at h; cases h
  have hι : ∀ b r,ι' b = some r → (b = s.n ∧ r = (w.heap.size,c)) ∨ (b ≠ s.n ∧ ι b = some r) := fun b r h => by
    have h' : (if b = s.n then some (w.heap.size,c) else ι b) = some r := h
    split at h'
    · rename_i e; cases h'; exact .inl ⟨e,rfl⟩
    · rename_i e; exact .inr ⟨e,h'⟩
  have hg : ∀ j,(s.new o).h.get j = if j = s.n then some o else s.h.get j := fun j => Tr.get_set DH s.h s.n (some o) j (lim_ok hn)
  have hnone : s.h.get s.n = none := by
    cases h : s.h.get s.n with
    | none => rfl
    | some o' =>
      obtain ⟨r,c',x',h1,_⟩ := hW.obj _ _ h
      rw [hfresh] at h1; cases h1
  have hpush : ∀ k,k < w.heap.size → (w.heap.push x)[k]? = w.heap[k]? := fun k hk => by
    rw [Array.getElem?_push,if_neg (by omega)]
  refine ⟨ι',by simp [ι'],hW,hext,⟨?_,?_,?_,?_,?_,?_,hW.wsb,hW.pin.mono hext,hW.env.mono (fun b r c h => (hι b _ h).elim (fun e => .inr (by have := hW.env.top; cases e.2; exact this)) fun e => .inl ⟨b,c,e.2⟩) (by simp) fun k hk _ => hpush k hk⟩,rfl,rfl,rfl,by simp,fun k hk _ => hpush k hk,?_,?_,?_,?_,rfl,Nat.le_succ _,fun _ h => h⟩
  · intro j oj hj
    rw [hg] at hj
    split at hj
    · rename_i e
      subst e
      cases hj
      exact ⟨w.heap.size,c,x,by simp [ι'],by simp,ho ι' hext⟩
    · rename_i e
      obtain ⟨r',c',x',h1,h2,h3⟩ := hW.obj j oj hj
      exact ⟨r',c',x',hext _ _ h1,(hpush r' (hW.bound _ _ _ h1)).trans h2,h3.mono hext⟩
  · intro j j' r c1 c2 h1 h2 h3 h4
    rw [hg] at h1 h2
    rcases hι _ _ h3 with ⟨e1,e2⟩ | ⟨e1,e2⟩ <;> rcases hι _ _ h4 with ⟨e3,e4⟩ | ⟨e3,e4⟩
    · rw [e1,e3]
    · have := hW.bound _ _ _ e4
      cases e2
      omega
    · have := hW.bound _ _ _ e2
      cases e4
      omega
    · rw [if_neg e1] at h1
      rw [if_neg e3] at h2
      exact hW.inj j j' r c1 c2 h1 h2 e2 e4
  · intro j r c' h
    rcases hι _ _ h with ⟨e1,e2⟩ | ⟨e1,e2⟩
    · cases e2; simp
    · have := hW.bound _ _ _ e2; simp; omega
  · intro j r h
    show j < Nat.succ s.n
    rcases hι _ _ h with ⟨e1,e2⟩ | ⟨e1,e2⟩
    · omega
    · have := hW.dom _ _ e2; omega
  · show Nat.succ s.n ≤ limH; omega
  · show s.bs ≤ Nat.succ s.n; have := hW.bsn; omega
  · intro b r c' h1 h2 hr
    rcases hι _ _ h2 with ⟨e1,e2⟩ | ⟨e1,e2⟩
    · cases e2; omega
    · rw [h1] at e2; cases e2
  · intro b r h1 h2
    rcases hι _ _ h2 with ⟨e1,e2⟩ | ⟨e1,e2⟩
    · omega
    · rw [h1] at e2; cases e2
  · intro j hj _
    rw [hg,if_neg (by have := hW.bsn; omega)]
  · intro j hj e
    rw [hg,if_neg (by omega)]
    exact e
end
end Go.Sim
namespace Go.Sim
set_option linter.all false
open Go
variable [Rho] [Asm] [SymOK]

section
variable {P : Program} {ι : Io} {T : Tm} {a : Act} {s : St} {w : World}

theorem getObj_run {r : Nat} {o : Obj} (h : w.heap[r]? = some o) (hn : ∀ c t f,o ≠ .cells c t f) : (getObj r).run P w = .ok o w := by
  cases o <;> first | (exact absurd rfl (hn _ _ _)) | (simp only [getObj,Sem.run,h])
theorem setObj_run {r : Nat} {o x : Obj} (h : w.heap[r]? = some o) (hn : ∀ c t f,o ≠ .cells c t f) : (setObj r x).run P w = .ok () { w with heap := w.heap.setIfInBounds r x } := by
  cases o <;> first | (exact absurd rfl (hn _ _ _)) | (simp only [setObj,Sem.run,h])
theorem upd_set {r : Nat} {x : Obj} (h : r < w.heap.size) : Upd w { w with heap := w.heap.setIfInBounds r x } r x :=
  ⟨by simp [h],fun k hk => by simp [Ne.symm hk],by simp,rfl,rfl,rfl⟩

theorem loadCells_ok {r o n : Nat} {cs : Array Value} {t : TypeId} {l : List Value} (hg : w.heap[r]? = some (.cells cs t (0,0))) (hl : (cs.toList.drop o).take n = l) (hn : l.length = n) : (loadCells ⟨r,o,none⟩ n).run P w = .ok l.toArray w := by
  subst hn
  refine run_loadCells_list (P := P) w ⟨r,o,none⟩ l fun j v hv => ?_
  have hadd : (⟨r,o,none⟩ : Addr).add j = ⟨r,o + j,none⟩ := by unfold Addr.add; split <;> simp_all
  rw [hadd,cell_of_row w r (o + j) cs t (0,0) hg]
  rw [← hl] at hv
  rw [List.getElem?_take] at hv
  split at hv
  · rw [List.getElem?_drop] at hv; simpa using hv
  · cases hv

theorem load1_ok (hW : WR P ι s w) {b o : Nat} {c : List Value} {v x : Value} {t : TypeId} (hx : VR ι (.pointer (some ⟨b,o,none⟩)) x) (hb : s.h.get b = some (.cells c)) (hv : nth c o = some v) (ht : aggB P t = some false) :
    ∃ v',VR ι v v' ∧ (Instr.loadAt t x).run P w = .ok v' w := by
  obtain ⟨r,k,rfl,hr⟩ := hx.ptrI
  obtain ⟨r',k',y,h1,h2,cs,ty,rfl,hc,l',tl,h3,h4⟩ := hW.obj _ _ hb
  rw [hr] at h1
  cases h1
  obtain ⟨v',hv',hvr⟩ := LR.nth (tl := tl) h4 hv
  refine ⟨v',hvr,?_⟩
  have hcell : w.cell? ⟨r,o,none⟩ = some v' := by
    rw [cell_of_row w r o cs ty (0,0) h2]
    rw [← h3] at hv'
    simpa using hv'
  simp [Instr.loadAt,Instr.sureAddr,loadVar,run_agg ht,hcell]
theorem loadN_ok (hW : WR P ι s w) {b o n : Nat} {c l : List Value} {x : Value} {t : TypeId} (hx : VR ι (.pointer (some ⟨b,o,none⟩)) x) (hb : s.h.get b = some (.cells c)) (hv : sub c o n = some l) (ht : aggB P t = some true) (hs : szOf P t = some n) :
    ∃ v',VR ι (.agg ⟨l⟩) v' ∧ (Instr.loadAt t x).run P w = .ok v' w := by
  obtain ⟨r,k,rfl,hr⟩ := hx.ptrI
  obtain ⟨r',k',y,h1,h2,cs,ty,rfl,hc,l',tl,h3,h4⟩ := hW.obj _ _ hb
  rw [hr] at h1
  cases h1
  obtain ⟨q,hq1,hq2,hq3,hq4⟩ := LR.sub (tl := tl) h4 hv
  refine ⟨.agg ⟨q⟩,.agg hq1,?_⟩
  rw [← h3] at hq3
  simp [Instr.loadAt,Instr.sureAddr,loadVar,run_agg ht,run_sz hs,loadCells_ok h2 hq3 hq2]

theorem keyFs_ok {eq : TypeId → Option Nat} {D : Nat} {emp : Bool} (ih : ∀ t n,eq t = some n → (aggB P t).isSome ∧ (aggB P t = some false → n = 1) ∧ ∀ l x w,Holds P t l x → l.length = n → (Instr.checkKey emp D t x).run P w = .ok () w) :
    ∀ {fs : List Field} {off n : Nat} {l : List Value} {w : World},eqFs P eq fs off = some n → l.length = n →
      (forIn fs PUnit.unit (fun f (_ : PUnit) => if f.name ≠ "_" then (do
            let x ← part f.type ⟨l⟩ f.offset
            Instr.checkKey emp D f.type x
            pure (ForInStep.yield PUnit.unit) : Sem (ForInStep PUnit))
          else pure (ForInStep.yield PUnit.unit))).run P w = .ok PUnit.unit w
  | [],off,n,l,w,_,_ => rfl
  | f :: fs,off,n,l,w,h,hl => by
    simp only [eqFs] at h
    cases he : eq f.type with
    | none => rw [he] at h; cases h
    | some k =>
      rw [he] at h
      simp only at h
      split at h
      · rename_i hc
        obtain ⟨h1,h2,h3⟩ := hc
        obtain ⟨i1,i2,i3⟩ := ih _ _ he
        have hk : off + k ≤ n := by
          have : ∀ {fs : List Field} {o : Nat},eqFs P eq fs o = some n → o ≤ n := by
            intro fs
            induction fs with
            | nil => intro o h; simp only [eqFs,Option.some.injEq] at h; omega
            | cons f fs ihf =>
              intro o h
              simp only [eqFs] at h
              split at h
              · cases h
              · split at h
                · have := ihf h; omega
                · cases h
          exact this h
        obtain ⟨x,hx,hx2⟩ := part_holds (off := off) (l := l) i1 h3 i2 (by omega) w
        have r := i3 _ x w hx2 (by simp; omega)
        simp only [List.forIn_cons,h2,ne_eq,not_false_eq_true,if_true,Sem.run_bind,h1,hx,Result.andThen_ok,r,Sem.run_pure]
        exact keyFs_ok ih h hl
      · cases h
theorem key_ok {emp : Bool} : ∀ {d : Nat} {t : TypeId} {n : Nat},eqT P d t = some n → ∀ {D : Nat} {l : List Value} {x : Value} {w : World},Holds P t l x → l.length = n → (Instr.checkKey emp (d + D) t x).run P w = .ok () w
  | 0,_,_,h,_,_,_,_,_,_ => by simp [eqT] at h
  | d + 1,t,n,h,D,l,x,w,hx,hl => by
    unfold eqT at h
    rw [show d + 1 + D = (d + D) + 1 from by omega]
    split at h
    · rename_i k hu
      cases h
      have ha : aggB P t = some false := by simp [aggB,hu]
      simp only [Instr.checkKey,Sem.run_bind,run_und hu,Result.andThen_ok]
      rfl
    · rename_i fs hu
      split at h
      · cases h
      · have ha : aggB P t = some true := by simp [aggB,hu]
        obtain ⟨b1,hb1,hx⟩ := hx
        rw [ha] at hb1
        cases hb1
        simp only [if_true] at hx
        subst hx
        simp only [Instr.checkKey,Sem.run_bind,run_und hu,Result.andThen_ok]
        rw [← Array.forIn_toList]
        have := keyFs_ok (emp := emp) (D := d + D) (w := w) (fun t n he => ⟨(eqT_agg he).1,(eqT_agg he).2,fun l x w h1 h2 => key_ok he h1 h2⟩) h hl
        rw [this]
        rfl
    · cases h

theorem keyed_holds {t : TypeId} {n : Nat} {ag : Bool} {v v' : Value} (hag : aggB P t = some ag) (hk : keyed n ag v = true) (hv : VR ι v v') : Holds P t v'.cells.toList v' ∧ v'.cells.toList.length = n ∧ LR ι (cellsOf v) v'.cells.toList := by
  have hc := hv.cells
  unfold keyed at hk
  split at hk
  · rename_i l
    obtain ⟨l',rfl,hl⟩ := hv.aggI
    have e := Nat.eq_of_beq_eq_true hk
    rw [len_eq,hl.length] at e
    exact ⟨⟨true,hag,rfl⟩,e,hc⟩
  · rw [hv.intI] at hc ⊢
    have e := Nat.eq_of_beq_eq_true hk
    exact ⟨⟨false,hag,rfl⟩,e,hc⟩
  · cases hk

theorem tell_ok {t : TypeId} {n : Nat} {ag b : Bool} {k x k' x' : Value} (ht : eqT P 6 t = some n) (hag : aggB P t = some ag) (hk : keyed n ag k = true) (hx : keyed n ag x = true) (hkv : VR ι k k') (hxv : VR ι x x') (hs : sameL (cellsOf k) (cellsOf x) = some b) (w : World) :
    (Op.equal t k' x').run P w = .ok b w := by
  obtain ⟨h1,h2,h3⟩ := keyed_holds (P := P) hag hk hkv
  obtain ⟨h4,h5,h6⟩ := keyed_holds (P := P) hag hx hxv
  exact eqT_ok (D := 9994) ht h1 h4 h2 h5 (sameL_real hs h3 h6)
theorem tellNow_ok {t : TypeId} {n : Nat} {ag b : Bool} {k x k' x' : Value} {kk : IntKind} (hu : P.underlying t = some (.int kk)) (hag : aggB P t = some ag) (hk : keyed n ag k = true) (hx : keyed n ag x = true) (hkv : VR ι k k') (hxv : VR ι x x') (hs : sameL (cellsOf k) (cellsOf x) = some b) :
    Instr.sameNow (.int kk) k' x' = some b := by
  have e : ag = false := by
    have : aggB P t = some false := by simp [aggB,hu]
    rw [hag] at this; cases this; rfl
  subst e
  unfold keyed at hk hx
  split at hk <;> first | (cases hk; done) | skip
  · rename_i h; cases h
  · split at hx <;> first | (cases hx; done) | skip
    · rename_i h; cases h
    · rw [hkv.intI,hxv.intI]
      obtain ⟨c,hc,hd⟩ := sameL_cons hs
      obtain ⟨k',p,q,e1,e2,e3⟩ := same1_plain hc
      have hb : b = c := by
        rcases hd with ⟨rfl,hd⟩ | ⟨rfl,rfl⟩
        · simp only [sameL,Option.some.injEq] at hd
          exact hd.symm
        · rfl
      cases e1
      cases e2
      simp [Instr.sameNow,hb,e3]

def idxL (kl : List Value) : List (Value × Value) → Nat
  | [] => 0
  | (x,_) :: es => if sameL kl (cellsOf x) = some true then 0 else idxL kl es + 1
def Found (ι : Io) (i : Nat) (kl : List Value) (es : List (Value × Value)) (r : Option Value) (r' : Option (Nat × Value)) : Prop := match r with
  | none => r' = none
  | some v => ∃ v',r' = some (i + idxL kl es,v') ∧ VR ι v v'
theorem look_now {t : TypeId} {n : Nat} {ag : Bool} {k k' : Value} {kk : IntKind} (hu : P.underlying t = some (.int kk)) (hag : aggB P t = some ag) (hk : keyed n ag k = true) (hkv : VR ι k k') :
    ∀ {es : List (Value × Value)} {en : List MapEntry} {r : Option Value} {i : Nat},ER ι es en → (∀ p ∈ es,keyed n ag p.1 = true) → look (cellsOf k) es = some r → ∃ r',Instr.findNow (.int kk) k' en i = some r' ∧ Found ι i (cellsOf k) es r r'
  | [],en,r,i,h,_,e => by
    cases h
    simp only [look,Option.some.injEq] at e
    subst e
    exact ⟨none,rfl,rfl⟩
  | (x,v) :: es,en,r,i,h,hp,e => by
    cases h with
    | cons hx hv hes =>
      simp only [look] at e
      split at e
      · rename_i hs
        cases e
        have := tellNow_ok hu hag hk (hp _ List.mem_cons_self) hkv hx hs
        exact ⟨_,by simp only [Instr.findNow,this]; rfl,_,by simp only [idxL,hs,if_true]; rfl,hv⟩
      · rename_i hs
        have := tellNow_ok hu hag hk (hp _ List.mem_cons_self) hkv hx hs
        obtain ⟨r',h1,h2⟩ := look_now hu hag hk hkv (i := i + 1) hes (fun p hp' => hp p (List.mem_cons_of_mem _ hp')) e
        refine ⟨r',by simp only [Instr.findNow,this,h1],?_⟩
        cases r with
        | none => exact h2
        | some u =>
          obtain ⟨v',e1,e2⟩ := h2
          refine ⟨v',?_,e2⟩
          rw [e1]
          simp only [idxL,hs]
          simp
          omega
      · cases e
theorem look_ask {t : TypeId} {n : Nat} {ag : Bool} {k k' : Value} (ht : eqT P 6 t = some n) (hag : aggB P t = some ag) (hk : keyed n ag k = true) (hkv : VR ι k k') (w : World) :
    ∀ {es : List (Value × Value)} {en : List MapEntry} {r : Option Value} {i : Nat},ER ι es en → (∀ p ∈ es,keyed n ag p.1 = true) → look (cellsOf k) es = some r → ∃ r',(Instr.findAsking t k' en i).run P w = .ok r' w ∧ Found ι i (cellsOf k) es r r'
  | [],en,r,i,h,_,e => by
    cases h
    simp only [look,Option.some.injEq] at e
    subst e
    exact ⟨none,rfl,rfl⟩
  | (x,v) :: es,en,r,i,h,hp,e => by
    cases h with
    | cons hx hv hes =>
      simp only [look] at e
      split at e
      · rename_i hs
        cases e
        have := tell_ok ht hag hk (hp _ List.mem_cons_self) hkv hx hs w
        exact ⟨_,by simp only [Instr.findAsking,Sem.run_bind,this,Result.andThen_ok,if_true,Sem.run_pure]; rfl,_,by simp only [idxL,hs,if_true]; rfl,hv⟩
      · rename_i hs
        have := tell_ok ht hag hk (hp _ List.mem_cons_self) hkv hx hs w
        obtain ⟨r',h1,h2⟩ := look_ask ht hag hk hkv w (i := i + 1) hes (fun p hp' => hp p (List.mem_cons_of_mem _ hp')) e
        refine ⟨r',by simp only [Instr.findAsking,Sem.run_bind,this,Result.andThen_ok,Bool.false_eq_true,if_false,h1],?_⟩
        cases r with
        | none => exact h2
        | some u =>
          obtain ⟨v',e1,e2⟩ := h2
          refine ⟨v',?_,e2⟩
          rw [e1]
          simp only [idxL,hs]
          simp
          omega
      · cases e
theorem find_ok {t : TypeId} {n : Nat} {ag : Bool} {k k' : Value} (ht : eqT P 6 t = some n) (hag : aggB P t = some ag) (hk : keyed n ag k = true) (hkv : VR ι k k') (w : World)
    {es : List (Value × Value)} {en : List MapEntry} {r : Option Value} (h : ER ι es en) (hp : ∀ p ∈ es,keyed n ag p.1 = true) (e : look (cellsOf k) es = some r) : ∃ r',(Instr.findKey t k' en).run P w = .ok r' w ∧ Found ι 0 (cellsOf k) es r r' := by
  have ht' := ht
  unfold eqT at ht'
  split at ht'
  · rename_i kk hu
    obtain ⟨r',h1,h2⟩ := look_now hu hag hk hkv (i := 0) h hp e
    exact ⟨r',by simp only [Instr.findKey,Sem.run_bind,run_und hu,Result.andThen_ok,h1,Sem.run_pure],h2⟩
  · rename_i fs hu
    cases en with
    | nil =>
      cases h
      simp only [look,Option.some.injEq] at e
      subst e
      exact ⟨none,by simp only [Instr.findKey,Sem.run_bind,run_und hu,Result.andThen_ok,Instr.findNow,Sem.run_pure],rfl⟩
    | cons x en =>
      obtain ⟨r',h1,h2⟩ := look_ask ht hag hk hkv w (i := 0) h hp e
      refine ⟨r',?_,h2⟩
      have hn : Instr.findNow (.struct fs) k' (x :: en) 0 = none := by simp [Instr.findNow,Instr.sameNow]
      simp only [Instr.findKey,Sem.run_bind,run_und hu,Result.andThen_ok,hn,h1]
  · cases ht'
end
end Go.Sim
namespace Go.Sim
set_option linter.all false
open Go
variable [Rho] [Asm] [SymOK]

section
variable {P : Program} {ι : Io} {T : Tm} {a : Act} {s : St} {w : World}

theorem mapOf_ok {n : Nat} {ag : Bool} {v v' : Value} {es : List (Value × Value)} (hW : WR P ι s w) (hv : VR ι v v') (he : mapOf s.h n ag v = some es) :
    (v = .map none ∧ v' = .map none ∧ es = []) ∨ ∃ b r c en ck,v = .map (some b) ∧ v' = .map (some r) ∧ ι b = some (r,c) ∧ s.h.get b = some (.map n ag es) ∧ w.heap[r]? = some (.map en ck) ∧ ER ι es en.toList ∧ ∀ p ∈ es,keyed n ag p.1 = true := by
  unfold mapOf at he
  split at he
  · cases he; exact .inl ⟨rfl,hv.map0I,rfl⟩
  · rename_i b
    split at he
    · rename_i n' ag' es' hb
      split at he
      · rename_i h1 h2
        cases he
        have e1 := Nat.eq_of_beq_eq_true h1
        have e2 : ag = ag' := by cases ag <;> cases ag' <;> first | rfl | (simp [sameB] at h2)
        subst e1
        subst e2
        obtain ⟨r,c,rfl,hr⟩ := hv.mapI
        obtain ⟨r',c',x,h3,h4,en,ck,rfl,h5,h6⟩ := hW.obj _ _ hb
        rw [hr] at h3
        cases h3
        exact .inr ⟨b,r,c,en,ck,rfl,rfl,hr,hb,h4,h5,h6⟩
      · cases he
    · cases he
  · cases he

theorem found_ok {ok : Bool} {v v' : Value} {b : Bool} (h : VR ι v v') : VR ι (found ok v b) (if ok then .tuple #[v',.bool b] else v') := by
  cases ok
  · exact h
  · exact .tup (.cons h (.cons (.bool b) .nil))

theorem evR_ok {o : Oper} {r : ROp} {v : Value} (hc : compR P o = some r) (hT : TR ι T a.tmps) (hW : WR P ι s w) (he : evR T s.h r = some v) : ∃ v',VR ι v v' ∧ (execOp a.eval o).run P w = .ok (.value v') w := by
  obtain ⟨dst,op,type,pos,after,guard⟩ := o
  cases op <;> simp only [compR] at hc <;> try (cases hc; done)
  case load t x =>
    simp only [bind] at hc
    split at hc
    · rename_i hag
      simp only [Option.bind_eq_some_iff,Option.some.injEq] at hc
      obtain ⟨n,hn,x',hx,rfl⟩ := hc
      have h1 := compX_ok hx hT
      simp only [evR,evRd,r_ldn] at he
      split at he
      · rename_i b o e1
        rw [e1] at h1
        split at he
        · rename_i c hb
          split at he
          · rename_i l hl
            cases he
            obtain ⟨v',hv,hr⟩ := loadN_ok hW h1 hb hl hag hn
            exact ⟨v',hv,by simp [execOp,hr]⟩
          · cases he
        · cases he
      · cases he
    · rename_i hag
      simp only [Option.bind_eq_some_iff,Option.some.injEq] at hc
      obtain ⟨x',hx,rfl⟩ := hc
      have h1 := compX_ok hx hT
      simp only [evR,evRd,r_ld1] at he
      split at he
      · rename_i b o e1
        rw [e1] at h1
        split at he
        · rename_i c hb
          obtain ⟨v',hv,hr⟩ := load1_ok hW h1 hb he hag
          exact ⟨v',hv,by simp [execOp,hr]⟩
        · cases he
      · cases he
    · cases hc
  case lookup t m k ok =>
    split at hc
    · rename_i key elem hu
      simp only [bind,Option.bind_eq_some_iff,Option.some.injEq] at hc
      obtain ⟨n,hn,ag,hag,z,hz,m',hm,k',hk,rfl⟩ := hc
      have h1 := compX_ok hm hT
      have h2 := compX_ok hk hT
      simp only [evR,evRd,r_lkp] at he
      split at he
      · rename_i es hkey hes
        have hcheck : ∀ emp,(Instr.checkKey emp 10000 key (a.eval k)).run P w = .ok () w := fun emp => by
          obtain ⟨q1,q2,q3⟩ := keyed_holds (P := P) hag hkey h2
          exact key_ok (D := 9994) hn q1 q2
        rcases mapOf_ok hW h1 hes with ⟨_,hm',rfl⟩ | ⟨b,r,c,en,ck,_,hm',hb,_,hheap,her,hps⟩
        · simp only [look] at he
          cases he
          refine ⟨_,found_ok (b := false) (zeroV_konst hz),?_⟩
          obtain ⟨r',hf,hr'⟩ := find_ok (es := []) (en := []) hn hag hkey h2 w .nil (by simp) rfl
          have hr'' : r' = none := hr'
          subst hr''
          simp only [execOp,Instr.lookup,Sem.run_bind,run_und hu,Result.andThen_ok,hm',Sem.run_pure,hcheck,hf,run_zeroV hz]
        · have hg : (getObj r).run P w = .ok (.map en ck) w := getObj_run hheap (fun _ _ _ h => by cases h)
          split at he
          · cases he
          · rename_i val hl
            cases he
            obtain ⟨r',hf,v',e1,e2⟩ := find_ok hn hag hkey h2 w her hps hl
            subst e1
            refine ⟨_,found_ok (b := true) e2,?_⟩
            simp only [execOp,Instr.lookup,Sem.run_bind,run_und hu,Result.andThen_ok,hm',Sem.run_pure,hg,hcheck,hf]
          · rename_i hl
            cases he
            obtain ⟨r',hf,hr'⟩ := find_ok hn hag hkey h2 w her hps hl
            have hr'' : r' = none := hr'
            subst hr''
            refine ⟨_,found_ok (b := false) (zeroV_konst hz),?_⟩
            simp only [execOp,Instr.lookup,Sem.run_bind,run_und hu,Result.andThen_ok,hm',Sem.run_pure,hg,hcheck,hf,run_zeroV hz]
      · cases he
    · cases hc

theorem zeroOf_ok {t : TypeId} {z : List Value} (h : zeroOf P t = some z) : ∃ v : Value,(∀ w,(Go.zeroValue t).run P w = .ok v w) ∧ cellsOf v = z ∧ (∀ ι,VR ι v v) ∧ ones z = true := by
  unfold zeroOf at h
  cases hi : P.info? t with
  | none => rw [hi] at h; cases h
  | some i =>
    rw [hi] at h
    cases hz : i.zero with
    | none => simp [hz] at h
    | some v =>
      simp only [Option.bind_some,hz] at h
      split at h
      · rename_i hk
        cases h
        simp only [Bool.and_eq_true] at hk
        exact ⟨v,fun w => by simp [Go.zeroValue,run_info hi,hz],rfl,fun ι => konst_refl _ _ hk.1,hk.2⟩
      · cases h
theorem rep_ok {l l' : List Value} (h : LR ι l l') : ∀ n,LR ι (rep n l) (List.replicate n l').flatten
  | 0 => .nil
  | n + 1 => by
    simp only [rep,app_eq,List.replicate_succ,List.flatten_cons]
    exact h.append (rep_ok h n)
theorem rep_length (l : List Value) : ∀ n,(rep n l).length = n * l.length
  | 0 => by simp [rep]
  | n + 1 => by simp [rep,app_eq,rep_length l n,Nat.add_mul]; omega
theorem range_rep (z : Array Value) : ∀ n,((Array.range (n * z.size)).map (z[· % z.size]!)).toList = (List.replicate n z.toList).flatten := by
  intro n
  simp only [Array.toList_map,Array.toList_range]
  induction n with
  | zero => simp
  | succ n ih =>
    rw [Nat.add_mul,Nat.one_mul,List.range_add,List.map_append,ih,List.replicate_succ',List.flatten_append]
    congr 1
    simp only [List.map_map,List.flatten_cons,List.flatten_nil,List.append_nil]
    apply List.ext_getElem
    · simp
    · intro i h1 h2
      simp only [List.length_map,List.length_range] at h1
      have e : (n * z.size + i) % z.size = i := by rw [Nat.mul_comm,Nat.mul_add_mod,Nat.mod_eq_of_lt h1]
      simp [e,h1]

theorem evA_ok {o : Oper} {r : AOp} {lo : LO} {f : Nat → Value} (hc : compA P o = some r) (hT : TR ι T a.tmps) (he : evA T r = some (lo,f)) :
    ∃ (c : Nat) (x : Obj) (g : Nat → Value),(∀ w,(execOp a.eval o).run P w = .ok (.value (g w.heap.size)) { w with heap := w.heap.push x }) ∧ (∀ ι',Ext ι ι' → OR P ι' c lo x) ∧ ∀ (ι' : Io) b r,ι' b = some (r,c) → VR ι' (f b) (g r) := by
  obtain ⟨dst,op,type,pos,after,guard⟩ := o
  have hrow : ∀ (l : List Value) (cs : Array Value) (t : TypeId),LR ι l cs.toList → ∀ ι',Ext ι ι' → OR P ι' cs.size (.cells l) (.cells cs t) := fun l cs t h ι' he => ⟨cs,t,rfl,rfl,cs.toList,[],by simp,h.mono he⟩
  cases op <;> simp only [compA] at hc <;> try (cases hc; done)
  case alloc t =>
    cases hz : zeroOf P t with
    | none => rw [hz] at hc; cases hc
    | some z =>
      rw [hz] at hc
      cases hc
      simp only [evA,evAd,a_new,Option.some.injEq,Prod.mk.injEq] at he
      obtain ⟨rfl,rfl⟩ := he
      obtain ⟨v,hv,rfl,hvr,_⟩ := zeroOf_ok hz
      refine ⟨v.cells.size,.cells v.cells t,ptrAt,fun w => ?_,hrow _ _ _ (hvr ι).cells,fun ι' b r h => .ptr h⟩
      simp [execOp,Instr.alloc,hv,newVar,newRow,ptrAt]
  case box t x =>
    cases hx : compX x with
    | none => rw [hx] at hc; cases hc
    | some y =>
      rw [hx] at hc
      cases hc
      simp only [evA,evAd,a_box] at he
      split at he
      · cases he
        have h1 := compX_ok hx hT
        refine ⟨(a.eval x).cells.size,.cells (a.eval x).cells t,ptrAt,fun w => ?_,hrow _ _ _ h1.cells,fun ι' b r h => .ptr h⟩
        simp [execOp,Instr.box,newVar,newRow,ptrAt]
      · cases he
  case buildSlice t n parts =>
    split at hc
    · rename_i e hu
      simp only [bind,Option.bind_eq_some_iff] at hc
      obtain ⟨size,hsz,z,hz,hc⟩ := hc
      split at hc
      · cases hc
      · rename_i hcond
        simp only [Option.bind_eq_some_iff,Option.some.injEq] at hc
        obtain ⟨ps,hps,rfl⟩ := hc
        simp only [Bool.or_eq_true,bne_iff_ne,ne_eq,decide_eq_true_eq,not_or,Decidable.not_not,Nat.not_lt] at hcond
        obtain ⟨⟨hzl,hlim⟩,hlim2⟩ := hcond
        obtain ⟨v,hv,hvz,hvr,_⟩ := zeroOf_ok hz
        simp only [evA,evAd,a_bsl] at he
        split at he
        · rename_i cs hlay
          split at he
          · cases he
            have hzc : LR ι z v.cells.toList := hvz ▸ (hvr ι).cells
            have hvs : v.cells.size = size := by rw [← hzl,hzc.length]; simp
            obtain ⟨z0,hz0⟩ : ∃ z0 : Array Value,z0 = if n * size = 0 then #[] else v.cells := ⟨_,rfl⟩
            have hLR : LR ι (rep n z) ((Array.range (n * size)).map (z0[· % z0.size]!)).toList := by
              by_cases h0 : n * size = 0
              · have : rep n z = [] := List.length_eq_zero_iff.1 (by rw [rep_length,hzl]; exact h0)
                rw [this,h0]
                simp only [Array.toList_map,Array.toList_range,List.range_zero,List.map_nil]
                exact .nil
              · have hs0 : v.cells.size ≠ 0 := by
                  intro e
                  rw [hvs] at e
                  rw [e] at h0
                  simp at h0
                rw [if_neg h0] at hz0
                subst hz0
                have := range_rep v.cells n
                rw [hvs] at this
                rw [hvs,this]
                exact rep_ok hzc n
            obtain ⟨r',hf,hr'⟩ := lay_ok hT hps hlay hLR
            rw [Array.toArray_toList] at hf
            refine ⟨r'.length,.cells ⟨r'⟩ e,sliceAt n n,fun w => ?_,hrow _ ⟨r'⟩ _ hr',fun ι' b r h => .sl h ?_⟩
            · have hle : ¬ n * size > 2 ^ 24 := by omega
              have hz1 : (if n * size = 0 then (Result.ok #[] w : Result (Array Value)) else Result.ok v.cells w) = .ok z0 w := by rw [hz0]; split <;> rfl
              simp only [execOp,Instr.buildSlice,Sem.run_bind,run_und hu,run_sz hsz,Result.andThen_ok,Sem.run_ite,if_neg hle,Sem.run_pure,hv,Array.toList_map]
              by_cases h0 : n * size = 0
              · rw [if_pos h0] at hz0
                subst hz0
                simp only [if_pos h0,Result.andThen_ok,hf,newRow,Sem.run_bind,run_newObj,Sem.run_pure]
                rfl
              · rw [if_neg h0] at hz0
                subst hz0
                simp only [if_neg h0,Result.andThen_ok,hf,newRow,Sem.run_bind,run_newObj,Sem.run_pure]
                rfl
            · omega
          · cases he
        · cases he
    · cases hc
  case makeMap t rv =>
    cases rv with
    | some x => cases hc
    | none =>
      simp only at hc
      split at hc
      · rename_i key elem hu
        simp only [bind,Option.bind_eq_some_iff,Option.some.injEq] at hc
        obtain ⟨n,hn,ag,hag,rfl⟩ := hc
        simp only [evA,evAd,a_mkm,Option.some.injEq,Prod.mk.injEq] at he
        obtain ⟨rfl,rfl⟩ := he
        refine ⟨0,.map #[] 0,mapAt,fun w => ?_,fun ι' _ => ⟨#[],0,rfl,.nil,by simp⟩,fun ι' b r h => .map h⟩
        simp [execOp,Instr.makeMap,mapAt]
      · cases hc
  case makeSlice t l c =>
    split at hc
    · rename_i e hu
      simp only [bind,Option.bind_eq_some_iff] at hc
      obtain ⟨size,hsz,z,hz,bytes,hby,hc⟩ := hc
      split at hc
      · cases hc
      · rename_i hcond
        simp only [Option.bind_eq_some_iff,Option.some.injEq] at hc
        obtain ⟨l',hl,c',hcx,rfl⟩ := hc
        simp only [Bool.or_eq_true,bne_iff_ne,ne_eq,decide_eq_true_eq,not_or,Decidable.not_not] at hcond
        obtain ⟨hzl,hs0⟩ := hcond
        obtain ⟨v,hv,hvz,hvr,_⟩ := zeroOf_ok hz
        simp only [evA,evAd,a_mks] at he
        split at he
        · rename_i ln cn hln hcn
          split at he
          · rename_i h1 h2 h3
            have h1' := Nat.le_of_ble_eq_true h1
            have h2' : bytes * cn ≤ 1048576 := Nat.le_of_ble_eq_true h2
            have h3' := Nat.le_of_ble_eq_true h3
            cases he
            obtain ⟨k1,hk1⟩ := place_inv hln (compX_ok hl hT)
            obtain ⟨k2,hk2⟩ := place_inv hcn (compX_ok hcx hT)
            have hzc : LR ι z v.cells.toList := hvz ▸ (hvr ι).cells
            have hvs : v.cells.size = size := by rw [← hzl,hzc.length]; simp
            cases hi : P.info? e with
            | none => rw [hi] at hby; cases hby
            | some i =>
              rw [hi] at hby
              cases hby
              have hLR : LR ι (rep cn z) ((Array.range (cn * size)).map (v.cells[· % v.cells.size]!)).toList := by
                have := range_rep v.cells cn
                rw [hvs] at this
                rw [hvs,this]
                exact rep_ok hzc cn
              have hw1 : IntKind.i64.wrap (ln : Int) = ln := IntWalk.i64_in _ (by omega)
              have hw2 : IntKind.i64.wrap (cn : Int) = cn := IntWalk.i64_in _ (by omega)
              have hb : ¬ ((i.bytes : Int) * (cn : Int) > 2 ^ 48) := by
                have h5 : ((i.bytes * cn : Nat) : Int) ≤ ((1048576 : Nat) : Int) := Int.ofNat_le.2 h2'
                rw [Int.natCast_mul] at h5
                intro h6
                have h7 : (2 : Int) ^ 48 = 281474976710656 := by decide
                omega
              refine ⟨_,.cells ((Array.range (cn * size)).map (v.cells[· % v.cells.size]!)) e,sliceAt ln cn,fun w => ?_,hrow _ _ _ hLR,fun ι' b r h => .sl h (by omega)⟩
              have hcond : ((decide ((cn : Int) < 0) || decide ((i.bytes : Int) * (cn : Int) > 2 ^ 48)) || decide ((ln : Int) < 0) || decide ((ln : Int) > (cn : Int))) = false := by
                simp only [Bool.or_eq_false_iff,decide_eq_false_iff_not]
                refine ⟨⟨⟨by omega,hb⟩,by omega⟩,by omega⟩
              simp only [execOp,Instr.makeSlice,Sem.run_bind,run_und hu,Result.andThen_ok,hk1,hk2,asInt,asIntOf,Sem.run_pure,run_info hi,hw1,hw2,hcond,Bool.false_eq_true,if_false,run_askRoom,Int.toNat_natCast,run_sz hsz]
              by_cases h0 : cn * size = 0
              · have hc0 : cn = 0 := (Nat.mul_eq_zero.1 h0).resolve_right hs0
                subst hc0
                have e0 : ∀ f : Nat → Value,(Array.range 0).map f = #[] := fun f => by simp
                simp only [Nat.zero_mul,if_true,Sem.run_pure,Sem.run_bind,Result.andThen_ok,newRow,run_newObj,e0]
                rfl
              · simp only [if_neg h0,Sem.run_bind,hv,Sem.run_pure,Result.andThen_ok,newRow,run_newObj]
                rfl
          · cases he
        · cases he
    · cases hc
end
end Go.Sim
namespace Go.Sim
set_option linter.all false
open Go
variable [Rho] [Asm] [SymOK]

section
variable {P : Program} {ι : Io} {T : Tm} {a : Act} {s : St} {w w' : World}

theorem Po.draw (hW : WR P ι s w) (n : Nat) : Po P ι s w ι s { w with drawn := n } :=
  ⟨hW,.refl _,⟨hW.obj,hW.inj,hW.bound,hW.dom,hW.lim,hW.bsn,hW.wsb,hW.pin,⟨hW.env.low,hW.env.top,hW.env.old⟩⟩,rfl,rfl,rfl,Nat.le_refl _,fun _ _ _ => rfl,fun b r c h1 h2 => (by rw [h1] at h2; cases h2),fun b r h1 h2 => (by rw [h1] at h2; cases h2),fun _ _ _ => rfl,fun _ _ h => h,rfl,Nat.le_refl _,fun _ h => h⟩

theorem Po.move (hW : WR P ι s w) {b r c : Nat} {o : LO} {x : Obj} (hl : s.h.get b ≠ none) (hb : ι b = some (r,c)) (hn : s.n < limH) (ho : ∀ ι',Ext ι ι' → OR P ι' c o x) (hu : Upd w w' r x) :
    ∃ ι',ι' s.n = some (r,c) ∧ Po P ι s w ι' ((s.put b none).new o) w' := by
  have hbn := hW.dom b _ hb
  have hfresh : ι s.n = none := by
    cases h : ι s.n with
    | none => rfl
    | some r => exact absurd (hW.dom _ _ h) (Nat.lt_irrefl _)
  let ι' : Io := fun j => if j = s.n then some (r,c) else ι j
  have hext : Ext ι ι' := fun j r' h => by
    show (if j = s.n then _ else ι j) = _
    rw [if_neg]
    · exact h
    · rintro rfl; rw [hfresh] at h; cases h
  have hι : ∀ j r',ι' j = some r' → (j = s.n ∧ r' = (r,c)) ∨ (j ≠ s.n ∧ ι j = some r') := fun j r' h => by
    have h' : (if j = s.n then some (r,c) else ι j) = some r' := h
    split at h'
    · rename_i e; cases h'; exact .inl ⟨e,rfl⟩
    · rename_i e; exact .inr ⟨e,h'⟩
  have hg1 : ∀ j,(s.put b none).h.get j = if j = b then none else s.h.get j := fun j => Tr.get_set DH s.h b none j (lim_le (by have := hW.lim; omega))
  have hg : ∀ j,((s.put b none).new o).h.get j = if j = s.n then some o else if j = b then none else s.h.get j := fun j => by
    have := Tr.get_set DH (s.put b none).h s.n (some o) j (lim_ok hn)
    rw [hg1] at this
    exact this
  have hnote := note_self (s := s) (b := b)
  refine ⟨ι',by simp [ι'],hW,hext,⟨?_,?_,?_,?_,?_,?_,fun x hx => (note_mem hx).elim (hW.wsb x) id,hW.pin.mono hext,hW.env.mono (fun j r' c' h => (hι j _ h).elim (fun e => .inl ⟨b,c,by cases e.2; exact hb⟩) fun e => .inl ⟨j,c',e.2⟩) (Nat.le_of_eq hu.size.symm) fun k _ hn => hu.other k fun e => hn b c (e ▸ hb)⟩,hu.os,hu.tape,hu.output,Nat.le_of_eq hu.size.symm,?_,?_,?_,?_,?_,rfl,Nat.le_succ _,fun x h => note_sub h⟩
  · intro j oj hj
    rw [hg] at hj
    split at hj
    · rename_i e
      subst e
      cases hj
      exact ⟨r,c,x,by simp [ι'],hu.at_,ho ι' hext⟩
    · split at hj
      · cases hj
      · rename_i e1 e2
        obtain ⟨r',c',x',h1,h2,h3⟩ := hW.obj j oj hj
        refine ⟨r',c',x',hext _ _ h1,?_,h3.mono hext⟩
        rw [hu.other r' (fun e' => e2 (hW.inj j b r c' c (by rw [hj]; simp) hl (e' ▸ h1) hb)),h2]
  · intro j j' r' c1 c2 h1 h2 h3 h4
    rw [hg] at h1 h2
    rcases hι _ _ h3 with ⟨e1,e2⟩ | ⟨e1,e2⟩ <;> rcases hι _ _ h4 with ⟨e3,e4⟩ | ⟨e3,e4⟩
    · rw [e1,e3]
    · exfalso
      rw [if_neg e3] at h2
      split at h2
      · exact h2 rfl
      · rename_i e5
        cases e2
        exact e5 (hW.inj j' b r c2 c h2 hl e4 hb)
    · exfalso
      rw [if_neg e1] at h1
      split at h1
      · exact h1 rfl
      · rename_i e5
        cases e4
        exact e5 (hW.inj j b r c1 c h1 hl e2 hb)
    · rw [if_neg e1] at h1
      rw [if_neg e3] at h2
      split at h1
      · exact absurd rfl h1
      · split at h2
        · exact absurd rfl h2
        · exact hW.inj j j' r' c1 c2 h1 h2 e2 e4
  · intro j r' c' h
    rw [hu.size]
    rcases hι _ _ h with ⟨e1,e2⟩ | ⟨e1,e2⟩
    · cases e2; exact hW.bound _ _ _ hb
    · exact hW.bound _ _ _ e2
  · intro j r' h
    show j < Nat.succ s.n
    rcases hι _ _ h with ⟨e1,e2⟩ | ⟨e1,e2⟩
    · omega
    · have := hW.dom _ _ e2; omega
  · show Nat.succ s.n ≤ limH; omega
  · show s.bs ≤ Nat.succ s.n; have := hW.bsn; omega
  · intro k hk hh
    refine hu.other k fun e => ?_
    subst e
    rcases hh b c hb with e | ⟨e1,e2⟩
    · exact hl e
    · rcases hnote with o | o
      · omega
      · exact e2 o
  · intro j r' c' h1 h2 hr
    rcases hι _ _ h2 with ⟨e1,e2⟩ | ⟨e1,e2⟩
    · cases e2; exact ⟨b,c,hb,hl,hnote⟩
    · rw [h1] at e2; cases e2
  · intro j r' h1 h2
    rcases hι _ _ h2 with ⟨e1,e2⟩ | ⟨e1,e2⟩
    · omega
    · rw [h1] at e2; cases e2
  · intro j hj hw
    rw [hg,if_neg (by have := hW.bsn; omega),if_neg]
    rintro rfl
    rcases hnote with o | o
    · omega
    · exact hw o
  · intro j hj e
    rw [hg,if_neg (by omega)]
    split
    · rfl
    · exact e

theorem Po.kill (hW : WR P ι s w) {b r c : Nat} (hl : s.h.get b ≠ none) (hb : ι b = some (r,c)) : Po P ι s w ι (s.put b none) w := by
  have hbn := hW.dom b _ hb
  have hg : ∀ j,(s.put b none).h.get j = if j = b then none else s.h.get j := fun j => Tr.get_set DH s.h b none j (lim_le (by have := hW.lim; omega))
  have hlive : ∀ j,(s.put b none).h.get j ≠ none → s.h.get j ≠ none := fun j hj => by
    rw [hg] at hj
    split at hj
    · exact absurd rfl hj
    · exact hj
  refine ⟨hW,.refl _,⟨?_,?_,hW.bound,hW.dom,hW.lim,hW.bsn,fun x hx => (note_mem hx).elim (hW.wsb x) id,hW.pin,hW.env⟩,rfl,rfl,rfl,Nat.le_refl _,fun _ _ _ => rfl,?_,?_,?_,?_,rfl,Nat.le_refl _,fun x h => note_sub h⟩
  · intro j oj hj
    rw [hg] at hj
    split at hj
    · cases hj
    · exact hW.obj j oj hj
  · intro j j' r' c1 c2 h1 h2 h3 h4
    exact hW.inj j j' r' c1 c2 (hlive j h1) (hlive j' h2) h3 h4
  · intro b r c h1 h2; rw [h1] at h2; cases h2
  · intro b r h1 h2; rw [h1] at h2; cases h2
  · intro j hj hw
    rw [hg,if_neg]
    rintro rfl
    rcases note_self (s := s) (b := j) with o | o
    · omega
    · exact hw o
  · intro j _ e
    rw [hg]
    split
    · rfl
    · exact e

theorem store_ok (hW : WR P ι s w) {b o r k : Nat} {c c' xs vs : List Value} (hb : s.h.get b = some (.cells c)) (hι : ι b = some (r,k)) (hx : LR ι xs vs) (ho : Sim.ones xs = true) (hv : over c o xs = some c') :
    ∃ w',(storeCells ⟨r,o,none⟩ vs).run P w = .ok () w' ∧ Po P ι s w ι (s.put b (some (.cells c'))) w' := by
  obtain ⟨r',k',x,h1,h2,cs,ty,rfl,hc,l',tl,h3,h4⟩ := hW.obj _ _ hb
  rw [hι] at h1
  cases h1
  obtain ⟨g1,q,g2,g3,g4⟩ := LR.over (tl := tl) h4 hx hv
  have hsz : cs.size = l'.length + tl.length := by rw [← Array.length_toList,h3,List.length_append]
  have hst := run_storeCells_at P r o ty vs 0 cs w h2 (by omega) (fun v hv => (List.all_eq_true.1 (hx.ones ho)) v hv)
  rw [Nat.add_zero,h3,g4] at hst
  refine ⟨_,hst,Po.put hW (by rw [hb]; simp) hι (x := .cells (q ++ tl).toArray ty) ⟨_,_,rfl,?_,q,tl,by simp,g2⟩ ⟨setRow_heap w r cs _ ty _ h2,fun j hj => setRow_other w r j _ hj,by simp,rfl,rfl,rfl⟩⟩
  simp only [List.size_toArray,List.length_append,g3]
  omega
end
end Go.Sim
namespace Go.Sim
set_option linter.all false
open Go
variable [Rho] [Asm] [SymOK]

section
variable {P : Program} {ι : Io} {T : Tm} {a : Act} {s : St} {w : World}

def Does (P : Program) (ι : Io) (s : St) (w : World) (a : Act) (o : Oper) (v : Value) (s1 : St) : Prop :=
  ∃ v' ι' w',VR ι' v v' ∧ Po P ι s w ι' s1 w' ∧ ((execOp a.eval o).run P w = .ok (.value v') w' ∨ ((execOp a.eval o).run P w = .ok .skip w' ∧ v' = undef))

theorem undef_ok (ι : Io) : VR ι (.tuple ⟨[]⟩) undef := .tup .nil

theorem ER.length : ∀ {es : List (Value × Value)} {en : List MapEntry},ER ι es en → es.length = en.length
  | _,_,.nil => rfl
  | _,_,.cons _ _ h => by simp [h.length]
theorem ER.append : ∀ {es : List (Value × Value)} {en : List MapEntry} {k v : Value} {e : MapEntry},ER ι es en → VR ι k e.key → VR ι v e.val → ER ι (es ++ [(k,v)]) (en ++ [e])
  | _,_,_,_,_,.nil,h1,h2 => .cons h1 h2 .nil
  | _,_,_,_,_,.cons h3 h4 h5,h1,h2 => .cons h3 h4 (h5.append h1 h2)
theorem ER.set : ∀ {es : List (Value × Value)} {en : List MapEntry} {k v : Value} {j : Nat} {f : MapEntry → MapEntry},ER ι es en → (∀ e,VR ι k (f e).key ∧ VR ι v (f e).val) → ER ι (es.set j (k,v)) (en.modify j f)
  | _,_,_,_,_,_,.nil,_ => by simp; exact .nil
  | _,_,_,_,0,f,.cons (e := e) h3 h4 h5,h => by simp; exact .cons (h e).1 (h e).2 h5
  | _,_,_,_,j + 1,f,.cons h3 h4 h5,h => by simp; exact .cons h3 h4 (h5.set h)
theorem ins_ok {kl : List Value} {kv v : Value} : ∀ {es es' : List (Value × Value)},insertM kl kv v es = some es' → (look kl es = some none ∧ es' = es ++ [(kv,v)]) ∨
    ∃ x y,look kl es = some (some y) ∧ es[idxL kl es]? = some (x,y) ∧ sameL kl (cellsOf x) = some true ∧ es' = es.set (idxL kl es) (kv,v)
  | [],es',h => by
    simp only [insertM,Option.some.injEq] at h
    subst h
    exact .inl ⟨rfl,rfl⟩
  | (x,y) :: es,es',h => by
    simp only [insertM] at h
    split at h
    · rename_i hs
      cases h
      exact .inr ⟨x,y,by simp only [look,hs],by simp [idxL,hs],hs,by simp [idxL,hs]⟩
    · rename_i hs
      split at h
      · rename_i r hr
        cases h
        rcases ins_ok hr with ⟨h1,rfl⟩ | ⟨x',y',h1,h2,h3,rfl⟩
        · exact .inl ⟨by simp only [look,hs,h1],rfl⟩
        · exact .inr ⟨x',y',by simp only [look,hs,h1],by simp [idxL,hs,h2],h3,by simp [idxL,hs]⟩
      · cases h
    · cases h
theorem ER.at_ : ∀ {es : List (Value × Value)} {en : List MapEntry} {j : Nat} {x y : Value},ER ι es en → es[j]? = some (x,y) → ∃ e,en[j]? = some e ∧ VR ι x e.key ∧ VR ι y e.val
  | _,_,_,_,_,.nil,h => by simp at h
  | _,_,0,_,_,.cons (e := e) h3 h4 h5,h => by simp at h; obtain ⟨rfl,rfl⟩ := h; exact ⟨e,by simp,h3,h4⟩
  | _,_,j + 1,_,_,.cons h3 h4 h5,h => by simp at h ⊢; exact h5.at_ h

theorem same_bits {n : Nat} {ag : Bool} {k x k' x' : Value} (hk : keyed n ag k = true) (hx : keyed n ag x = true) (hkv : VR ι k k') (hxv : VR ι x x') (hs : sameL (cellsOf k) (cellsOf x) = some true) : Instr.sameBits 10000 x' k' = true := by
  obtain ⟨e1,e2⟩ := sameL_true hs
  have hint : ∀ (l l' : List Value),LR ι l l' → (∀ y ∈ l,∃ k n,y = .int k n) → l' = l := by
    intro l l' h
    induction l generalizing l' with
    | nil => intro _; cases h; rfl
    | cons y l ih =>
      intro hy
      cases h with
      | cons hv hl =>
        obtain ⟨k,n,rfl⟩ := hy y List.mem_cons_self
        rw [hv.intI,ih _ hl fun z hz => hy z (List.mem_cons_of_mem _ hz)]
  have hzip : ∀ (l : List Value) (p : Value × Value),p ∈ l.zip l → p.1 = p.2 ∧ p.1 ∈ l := by
    intro l
    induction l with
    | nil => intro p hp; simp at hp
    | cons y l ih =>
      intro p hp
      simp only [List.zip_cons_cons,List.mem_cons] at hp
      rcases hp with rfl | hp
      · exact ⟨rfl,List.mem_cons_self⟩
      · exact ⟨(ih p hp).1,List.mem_cons_of_mem _ (ih p hp).2⟩
  have hself : ∀ y : Value,(∃ k n,y = .int k n) → ∀ d,Instr.sameBits d y y = true := by
    rintro _ ⟨k,n,rfl⟩ d
    cases d <;> simp [Instr.sameBits]
  cases ag with
  | true =>
    cases k with
    | agg l =>
      cases x with
      | agg m =>
        obtain ⟨l⟩ := l
        obtain ⟨m⟩ := m
        obtain ⟨l',rfl,hl⟩ := hkv.aggI
        obtain ⟨m',rfl,hm⟩ := hxv.aggI
        have e1' : m = l := e1
        have e2' : ∀ y ∈ l,∃ k n,y = .int k n := e2
        rw [hint _ _ hl e2',hint _ _ hm (e1' ▸ e2'),e1']
        simp only [Instr.sameBits,BEq.rfl,Bool.true_and,List.all_eq_true]
        intro p hp
        obtain ⟨q1,q2⟩ := hzip l p hp
        rw [← q1]
        exact hself _ (e2' _ q2) _
      | _ => simp [keyed] at hx
    | _ => simp [keyed] at hk
  | false =>
    cases k with
    | int k1 n1 =>
      cases x with
      | int k2 n2 =>
        rw [hkv.intI,hxv.intI]
        have e1' : [Value.int k2 n2] = [Value.int k1 n1] := e1
        cases e1'
        exact hself _ ⟨_,_,rfl⟩ _
      | _ => simp [keyed] at hx
    | _ => simp [keyed] at hk

theorem evSt_ok {t : TypeId} {n : Nat} {ad x : Operand} {ad' x' : Opd} {β : Type} {k : Value → St → Option β} {res : β} {dst : Option Tmp} {ty : TypeId} {pos : String} {after : Array Edge} {guard : Option (Nat × Bool)}
    (hn : szOf P t = some n) (ha : compX ad = some ad') (hx : compX x = some x') (hT : TR ι T a.tmps) (hW : WR P ι s w) (he : w_st n ad' x' T s k = some res) :
    ∃ v s1,k v s1 = some res ∧ Does P ι s w a ⟨dst,.store t ad x,ty,pos,after,guard⟩ v s1 := by
  have h1 := compX_ok ha hT
  have h2 := compX_ok hx hT
  simp only [w_st] at he
  split at he
  · rename_i b o e1
    rw [e1] at h1
    obtain ⟨r,c,hr,hb⟩ := h1.ptrI
    split at he
    · rename_i cs hcs
      split at he
      · rename_i hlen hone
        split at he
        · rename_i cs' hov
          rw [St.putK_eq] at he
          obtain ⟨w',hst,hpo⟩ := store_ok hW hcs hb h2.cells hone hov
          refine ⟨_,_,he,undef,ι,w',undef_ok ι,hpo,.inr ⟨?_,rfl⟩⟩
          have hln := Nat.eq_of_beq_eq_true hlen
          rw [len_eq,h2.cells.length] at hln
          have hsz : (a.eval x).cells.size = n := by simpa using hln
          simp only [execOp,Instr.storeAt,hr,Instr.sureAddr,Sem.run_bind,Sem.run_pure,Result.andThen_ok,storeVar,run_sz hn,hsz,ne_eq,not_true_eq_false,if_false,hst]
        · cases he
      · cases he
    · cases he
  · cases he

theorem evMup_ok {t key elem : TypeId} {n : Nat} {ag : Bool} {m kx vx : Operand} {m' kx' vx' : Opd} {β : Type} {k : Value → St → Option β} {res : β} {dst : Option Tmp} {ty : TypeId} {pos : String} {after : Array Edge} {guard : Option (Nat × Bool)}
    (hu : P.underlying t = some (.map key elem)) (hn : eqT P 6 key = some n) (hag : aggB P key = some ag) (hm : compX m = some m') (hk : compX kx = some kx') (hv : compX vx = some vx') (hT : TR ι T a.tmps) (hW : WR P ι s w) (he : w_mup n ag m' kx' vx' T s k = some res) :
    ∃ v s1,k v s1 = some res ∧ Does P ι s w a ⟨dst,.mapUpdate t m kx vx,ty,pos,after,guard⟩ v s1 := by
  have h1 := compX_ok hm hT
  have h2 := compX_ok hk hT
  have h3 := compX_ok hv hT
  simp only [w_mup] at he
  split at he
  · rename_i b e1
    rw [e1] at h1
    split at he
    · rename_i es hkey hes
      split at he
      · rename_i es' hins
        rw [St.putK_eq] at he
        rcases mapOf_ok hW h1 hes with ⟨h,_⟩ | ⟨b',r,c,en,ck,hb',hm',hb,hget,hheap,her,hps⟩
        · cases h
        · cases hb'
          have hg : (getObj r).run P w = .ok (.map en ck) w := getObj_run hheap (fun _ _ _ h => by cases h)
          have hlt : r < w.heap.size := hW.bound _ _ _ hb
          have hcheck : (Instr.checkKey false 10000 key (a.eval kx)).run P w = .ok () w := by
            obtain ⟨q1,q2,q3⟩ := keyed_holds (P := P) hag hkey h2
            exact key_ok (D := 9994) hn q1 q2
          have hset : ∀ x,(setObj r x).run P w = .ok () { w with heap := w.heap.setIfInBounds r x } := fun x => setObj_run hheap (fun _ _ _ h => by cases h)
          rcases ins_ok hins with ⟨hl,rfl⟩ | ⟨x,y,hl,hat,hs,rfl⟩
          · obtain ⟨r',hf,hr'⟩ := find_ok hn hag hkey h2 w her hps hl
            have hr'' : r' = none := hr'
            subst hr''
            refine ⟨_,_,he,undef,ι,_,undef_ok ι,Po.put hW (by rw [hget]; simp) hb (x := .map (en.push { key := a.eval kx,val := a.eval vx,born := ck }) (ck + 1)) ⟨_,_,rfl,?_,?_⟩ (upd_set hlt),.inr ⟨?_,rfl⟩⟩
            · rw [Array.toList_push]
              exact her.append h2 h3
            · intro p hp
              rcases List.mem_append.1 hp with hp | hp
              · exact hps p hp
              · simp only [List.mem_singleton] at hp
                subst hp
                exact hkey
            · simp only [execOp,Instr.mapUpdate,Sem.run_bind,run_und hu,Result.andThen_ok,hm',hg,hcheck,hf,hset,Sem.run_pure]
          · obtain ⟨r',hf,v',e1,e2⟩ := find_ok hn hag hkey h2 w her hps hl
            subst e1
            obtain ⟨en0,hen,hk0,hv0⟩ := her.at_ hat
            have hbits := same_bits hkey (hps (x,y) (List.mem_of_getElem? hat)) h2 hk0 hs
            refine ⟨_,_,he,undef,ι,_,undef_ok ι,Po.put hW (by rw [hget]; simp) hb (x := .map (en.modify (idxL (cellsOf (oev T kx')) es) fun e => { e with key := a.eval kx,val := a.eval vx }) ck) ⟨_,_,rfl,?_,?_⟩ (upd_set hlt),.inr ⟨?_,rfl⟩⟩
            · rw [Array.toList_modify]
              exact her.set fun e => ⟨h2,h3⟩
            · intro p hp
              rcases List.mem_or_eq_of_mem_set hp with hp | hp
              · exact hps p hp
              · subst hp; exact hkey
            · have hen' : (en[idxL (cellsOf (oev T kx')) es]?) = some en0 := by
                rw [← Array.getElem?_toList,hen]
              simp only [execOp,Instr.mapUpdate,Sem.run_bind,run_und hu,Result.andThen_ok,hm',hg,hcheck,hf,Instr.keyThatStays,hen',Option.map_some,Option.getD_some,hbits,if_true,Sem.run_pure,hset,Nat.zero_add]
      · cases he
    · cases he
  · cases he
end
end Go.Sim
