/- Part 8 of the proof: SimY, SimZ, SimZ2, SimZ3, SimLib, SimK. -/
import Derived.Below
import Derived.Lib.Join
import Derived.Lib.ItoaNum
import Derived.Lib.LaidTab
import Derived.Sort.Grow
import Derived.Deep.Draws
import Derived.Test.YtljefjngmembkaaGreatDoorT07
namespace Go.Sim
set_option linter.all false
open Go
variable [Rho] [Asm] [SymOK]
noncomputable section

def leq : List Nat → List Nat → Bool
  | [],[] => true
  | a :: l,b :: m => match Nat.beq a b with
    | true => leq l m
    | false => false
  | _,_ => false
theorem leq_ok : ∀ {l m : List Nat},leq l m = true → l = m
  | [],[],_ => rfl
  | [],_ :: _,h => by simp [leq] at h
  | _ :: _,[],h => by simp [leq] at h
  | a :: l,b :: m,h => by
    simp only [leq] at h
    split at h
    · rename_i h1; rw [beqN h1,leq_ok h]
    · cases h
def meq : List (Value × Value) → List (Value × Value) → Bool
  | [],[] => true
  | (a,b) :: l,(c,d) :: m => match veq 6 a c,veq 6 b d with
    | true,true => meq l m
    | _,_ => false
  | _,_ => false
theorem meq_ok : ∀ {l m : List (Value × Value)},meq l m = true → l = m
  | [],[],_ => rfl
  | [],_ :: _,h => by simp [meq] at h
  | _ :: _,[],h => by simp [meq] at h
  | (a,b) :: l,(c,d) :: m,h => by
    simp only [meq] at h
    split at h
    · rename_i h1 h2; rw [veq_ok _ _ _ h1,veq_ok _ _ _ h2,meq_ok h]
    · cases h
def loeq : LO → LO → Bool
  | .cells l,.cells m => veq.veqL (veq 6) l m
  | .map n ag es,.map n' ag' es' => match Nat.beq n n',sameB ag ag' with
    | true,true => meq es es'
    | _,_ => false
  | .defd a,.defd b => sameB a b
  | .ro a,.ro b => veq.veqL (veq 6) a b
  | _,_ => false
theorem loeq_ok {a b : LO} (h : loeq a b = true) : a = b := by
  unfold loeq at h
  split at h
  · rw [veqL_ok (veq_ok 6) h]
  · split at h
    · rename_i h1 h2; rw [beqN h1,sameB_ok h2,meq_ok h]
    · cases h
  · rw [sameB_ok h]
  · rw [veqL_ok (veq_ok 6) h]
  · cases h
def oeq : Option LO → Option LO → Bool
  | none,none => true
  | some a,some b => loeq a b
  | _,_ => false
theorem oeq_ok {a b : Option LO} (h : oeq a b = true) : a = b := by
  unfold oeq at h
  split at h
  · rfl
  · rw [loeq_ok h]
  · cases h
def tsub : Tr LO → Tr LO → Bool
  | .e,_ => true
  | .n l v r,.n l' v' r' => match (match v with
      | none => true
      | some _ => oeq v v'),tsub l l' with
    | true,true => tsub r r'
    | _,_ => false
  | _,_ => false
theorem getP_n (l : Tr LO) (v : Option LO) (r : Tr LO) (p : Path) : Tr.getP p (.n l v r) = match p with
    | .e => v
    | .l p => Tr.getP p l
    | .r p => Tr.getP p r := by cases p <;> rfl
theorem tsub_ok : ∀ {a b : Tr LO},tsub a b = true → ∀ p x,Tr.getP p a = some x → Tr.getP p b = some x
  | .e,_,_,p,x,h => by rw [Tr.getP_e] at h; cases h
  | .n _ _ _,.e,h,_,_,_ => by simp [tsub] at h
  | .n l v r,.n l' v' r',h,p,x,hx => by
    simp only [tsub] at h
    split at h
    · rename_i h1 h2
      rw [getP_n] at hx ⊢
      cases p with
      | e =>
        simp only at hx ⊢
        rw [hx] at h1
        rw [← oeq_ok h1]
      | l p => exact tsub_ok h2 p x hx
      | r p => exact tsub_ok h p x hx
    · cases h
theorem Po.kept {P : Program} {ι : Io} {s : St} {w w' : World} (hW : WR P ι s w) (hk : Kept w w') : Po P ι s w ι s w' where
  wr0 := hW
  ext := .refl _
  wr := {
    obj := fun b o hb => by
      obtain ⟨r,c,x,h1,h2,h3⟩ := hW.obj b o hb
      exact ⟨r,c,x,h1,by rw [hk.heap r (hW.bound _ _ _ h1)]; exact h2,h3⟩
    inj := hW.inj
    bound := fun b r c h => Nat.lt_of_lt_of_le (hW.bound b r c h) hk.size
    dom := hW.dom
    lim := hW.lim
    bsn := hW.bsn
    wsb := hW.wsb
    pin := hW.pin
    env := hW.env.mono (fun b r c h => .inl ⟨b,c,h⟩) hk.size fun k h _ => hk.heap k h }
  os := hk.os
  tape := hk.tape
  output := hk.output
  size := hk.size
  frame := fun k h _ => hk.heap k h
  newold := fun b r c h1 h2 => by rw [h1] at h2; cases h2
  newid := fun b r h1 h2 => by rw [h1] at h2; cases h2
  inv := fun _ _ _ => rfl
  dead := fun _ _ h => h
  bs := rfl
  nle := Nat.le_refl _
  wsm := fun _ h => h
theorem Po.whole {P : Program} {ι ι' : Io} {s : St} {w w' : World} (hp : Po P ι s w ι' s w') (h : s.bs = s.n) (hw : s.ws = []) : Kept w w' :=
  ⟨hp.os,hp.tape,hp.output,hp.size,fun k hk => hp.frame k hk fun b c hb => .inr ⟨by
    have := hp.wr0.dom b _ hb
    omega,by rw [hw]; intro h; cases h⟩⟩

section
variable {P : Program}
theorem CallR.mono {fv : Value} {args : List Value} {w : World} {R R' : Value → World → Prop} (h : CallR P fv args w R) (hR : ∀ v w,R v w → R' v w) : CallR P fv args w R' := by
  rcases h with ⟨g,xs,ys,fn,h1,h2,h3,h4,h5⟩ | ⟨r,lp,h1,h2,h3,h4⟩
  · refine .inl ⟨g,xs,ys,fn,h1,h2,h3,h4,fun n => CallsIn.mono (h5 n) ?_⟩
    rintro e w' ⟨v',rfl,hv⟩
    exact ⟨v',rfl,hR _ _ hv⟩
  · refine .inr ⟨r,lp,h1,h2,h3,fun n => RoundIn.mono (h4 n) ?_⟩
    rintro e w' ⟨v',rfl,hv⟩
    exact ⟨v',rfl,hR _ _ hv⟩

structure Chg where
  fv : Value
  args : List Value
  s : St
  v : Value
  n1 : Nat
  ws1 : List Nat
  upd : List (Nat × Option LO)
def applyU : List (Nat × Option LO) → Tr LO → Tr LO
  | [],h => h
  | (b,o) :: u,h => applyU u (Tr.set DH h b o)
def lookU (b : Nat) : List (Nat × Option LO) → Option (Option LO)
  | [] => none
  | (c,o) :: u => match lookU b u with
    | some o' => some o'
    | none => match Nat.beq b c with
      | true => some o
      | false => none
def Chg.s1 (k : Chg) : St := ⟨applyU k.upd k.s.h,k.n1,k.s.bs,k.ws1⟩
def okU (k : Chg) : List (Nat × Option LO) → Bool
  | [] => true
  | (b,_) :: u => match Nat.blt b limH,(match Nat.blt b k.s.n with
      | true => (match k.s.h.get b with
        | some _ => true
        | none => false)
      | false => true) with
    | true,true => okU k u
    | _,_ => false
theorem applyU_get : ∀ {u : List (Nat × Option LO)} {h : Tr LO} {k : Chg},okU k u = true → ∀ j,(applyU u h).get j = match lookU j u with
    | some o => o
    | none => h.get j
  | [],h,k,_,j => rfl
  | (b,o) :: u,h,k,hk,j => by
    simp only [okU] at hk
    split at hk
    · rename_i h1 h2
      simp only [applyU,lookU]
      rw [applyU_get hk j]
      cases hl : lookU j u with
      | some o' => rfl
      | none =>
        simp only
        rw [Tr.get_set DH h b o j (lim_ok (blt_true h1))]
        cases hb : Nat.beq j b with
        | true => rw [if_pos (beqN hb)]
        | false => rw [if_neg (Nat.ne_of_beq_eq_false hb)]
    · cases hk
theorem okU_mem {k : Chg} : ∀ {u : List (Nat × Option LO)},okU k u = true → ∀ j o,lookU j u = some o → k.s.n ≤ j ∨ k.s.h.get j ≠ none
  | [],_,j,o,h => by cases h
  | (b,o') :: u,hk,j,o,h => by
    simp only [okU] at hk
    split at hk
    · rename_i h1 h2
      simp only [lookU] at h
      split at h
      · rename_i hl
        exact okU_mem hk j _ hl
      · split at h
        · rename_i hb
          rw [beqN hb]
          split at h2
          · split at h2
            · rename_i hg; right; rw [hg]; simp
            · cases h2
          · rename_i hb; left; exact blt_false hb
        · cases h
    · cases hk
def chit (k : Chg) (fv : Value) (args : List Value) (s : St) : Bool := match veq 6 fv k.fv with
  | false => false
  | true => match veq.veqL (veq 6) args k.args,Nat.beq s.n k.s.n,Nat.beq s.bs k.s.bs with
      | true,true,true => match leq s.ws k.s.ws with
        | true => tsub k.s.h s.h
        | false => false
      | _,_,_ => false
theorem chit_ok {k : Chg} {fv : Value} {args : List Value} {s : St} (h : chit k fv args s = true) : fv = k.fv ∧ args = k.args ∧ s.n = k.s.n ∧ s.bs = k.s.bs ∧ s.ws = k.s.ws ∧ ∀ b o,k.s.h.get b = some o → s.h.get b = some o := by
  unfold chit at h
  split at h
  · cases h
  · rename_i h0
    split at h
    · rename_i h1 h2 h3
      split at h
      · rename_i h4
        exact ⟨veq_ok _ _ _ h0,veqL_ok (veq_ok 6) h1,beqN h2,beqN h3,leq_ok h4,fun b o hb => tsub_ok h _ o hb⟩
      · cases h
    · cases h
def CFact (P : Program) (k : Chg) : Prop := okU k k.upd = true ∧ ∀ (ι : Io) (w : World) (fv' : Value) (args' : List Value),VR ι k.fv fv' → LR ι k.args args' → WR P ι k.s w → CallR P fv' args' w fun v' w' => ∃ ι',VR ι' k.v v' ∧ Po P ι k.s w ι' k.s1 w'
inductive CL (P : Program) : List Chg → Prop
  | nil : CL P []
  | cons {k : Chg} {ks : List Chg} : CFact P k → CL P ks → CL P (k :: ks)
def chgs (call : Value → List Value → St → Option (Value × St)) : List Chg → Value → List Value → St → Option (Value × St)
  | [],fv,args,s => call fv args s
  | k :: ks,fv,args,s => match chit k fv args s with
    | true => some (k.v,⟨applyU k.upd s.h,k.n1,s.bs,k.ws1⟩)
    | false => chgs call ks fv args s
theorem chgs_ok {call : Value → List Value → St → Option (Value × St)} {ks : List Chg} (hks : CL P ks) {fv : Value} {args : List Value} {s s1 : St} {v : Value} (h : chgs call ks fv args s = some (v,s1))
    {ι : Io} {w : World} {fv' : Value} {args' : List Value} (q1 : VR ι fv fv') (q2 : LR ι args args') (q3 : WR P ι s w) (hc : call fv args s = some (v,s1) → CallR P fv' args' w fun v' w' => ∃ ι',VR ι' v v' ∧ Po P ι s w ι' s1 w') :
    CallR P fv' args' w fun v' w' => ∃ ι',VR ι' v v' ∧ Po P ι s w ι' s1 w' := by
  induction hks with
  | nil => exact hc h
  | @cons k ks hf hs ih =>
    simp only [chgs] at h
    split at h
    · rename_i hh
      cases h
      obtain ⟨rfl,rfl,h1,h2,h3,h4⟩ := chit_ok hh
      obtain ⟨hu,hf⟩ := hf
      have hless := q3.less h4 h1.symm h2.symm h3.symm
      refine CallR.mono (hf ι w fv' args' q1 q2 hless) ?_
      rintro v' w' ⟨ι',hv,hp⟩
      refine ⟨ι',hv,hp.more (fun b => if k.s.h.get b = none then s.h.get b else none) q3 (fun b => ?_) (fun b => ?_) (fun b hb => ?_) h1 rfl h2 h2 h3 rfl⟩
      · cases hq : k.s.h.get b with
        | none => simp
        | some o => simp [h4 b o hq]
      · show (applyU k.upd s.h).get b = (if k.s.h.get b = none then s.h.get b else none).or ((applyU k.upd k.s.h).get b)
        rw [applyU_get hu b,applyU_get hu b]
        cases hl : lookU b k.upd with
        | none =>
          cases hq : k.s.h.get b with
          | none => simp
          | some o => simp [h4 b o hq]
        | some o =>
          simp only
          rcases okU_mem hu b o hl with hb | hb
          · have hs0 : s.h.get b = none := by
              cases hq : s.h.get b with
              | none => rfl
              | some x =>
                obtain ⟨r,c,y,e1,_⟩ := q3.obj b x hq
                have := q3.dom _ _ e1
                omega
            rw [hs0]
            split <;> rfl
          · rw [if_neg hb]; rfl
      · cases hq : k.s.h.get b with
        | none => rfl
        | some o => simp [hq] at hb
    · exact ih h

structure Gen where
  f : Nat
  args : List Value
  tb : Option (Nat × List Value)
  n : Nat
  bl : List LO
  v : Value
def nthN : List Nat → Nat → Option Nat
  | [],_ => none
  | b :: l,i => match i with
    | 0 => some b
    | i + 1 => nthN l i
def lenN : List Nat → Nat
  | [] => 0
  | _ :: l => Nat.succ (lenN l)
def apN : List Nat → Nat → List Nat
  | [],b => [b]
  | c :: l,b => c :: apN l b
def mblk (n c b : Nat) (bs : List Nat) : Option (List Nat) := match Nat.blt c n with
  | true => match Nat.beq c b with
    | true => some bs
    | false => none
  | false => match nthN bs (Nat.sub c n) with
    | some b' => match Nat.beq b b' with
      | true => some bs
      | false => none
    | none => match Nat.beq (Nat.sub c n) (lenN bs),mem b bs,Nat.ble n b with
      | true,false,true => some (apN bs b)
      | _,_,_ => none
mutual
def mv (n : Nat) : Nat → Value → Value → List Nat → Option (List Nat)
  | 0,_,_,_ => none
  | d + 1,v,w,bs => match v,w with
    | .int k a,.int l b => match kindB k l,eqI a b with
      | true,true => some bs
      | _,_ => none
    | .bool a,.bool b => match sameB a b with
      | true => some bs
      | false => none
    | .string ⟨⟨a⟩⟩,.string ⟨⟨b⟩⟩ => match eqU a b with
      | true => some bs
      | false => none
    | .slice none x k,.slice none x' k' => match Nat.beq x x',Nat.beq k k',Nat.blt k 18446744073709551616 with
      | true,true,true => some bs
      | _,_,_ => none
    | .slice (some ⟨b,o,none⟩) x k,.slice (some ⟨b',o',none⟩) x' k' => match Nat.beq o o',Nat.beq x x',Nat.beq k k',Nat.blt k 18446744073709551616 with
      | true,true,true,true => mblk n b b' bs
      | _,_,_,_ => none
    | .pointer (some ⟨b,o,none⟩),.pointer (some ⟨b',o',none⟩) => match Nat.beq o o' with
      | true => mblk n b b' bs
      | false => none
    | .func (.yield t) ⟨a :: l⟩ ⟨[]⟩,w => match seq 60 (nd t a l) w with
      | true => some bs
      | false => none
    | .agg ⟨xs⟩,.agg ⟨ys⟩ => mvL n d xs ys bs
    | .tuple ⟨xs⟩,.tuple ⟨ys⟩ => mvL n d xs ys bs
    | _,_ => none
def mvL (n : Nat) : Nat → List Value → List Value → List Nat → Option (List Nat)
  | 0,_,_,_ => none
  | d + 1,l,m,bs => match l,m with
    | [],[] => some bs
    | x :: xs,y :: ys => match mv n d x y bs with
      | some bs' => mvL n d xs ys bs'
      | none => none
    | _,_ => none
end
end
end
end Go.Sim
namespace Go.Sim
set_option linter.all false
open Go
variable [Rho] [Asm] [SymOK]
noncomputable section

def ιc (n : Nat) (bs : List Nat) (ι : Io) : Io := fun x => match Nat.blt x n with
  | true => ι x
  | false => match nthN bs (Nat.sub x n) with
    | some b => ι b
    | none => none
theorem nthN_eq : ∀ (bs : List Nat) (i : Nat),nthN bs i = bs[i]?
  | [],i => by simp [nthN]
  | c :: l,i => by
    cases i with
    | zero => simp [nthN]
    | succ i => simp [nthN,nthN_eq l i]
theorem lenN_eq : ∀ (l : List Nat),lenN l = l.length
  | [] => rfl
  | _ :: l => by simp [lenN,lenN_eq l]
theorem apN_eq : ∀ (l : List Nat) (b : Nat),apN l b = l ++ [b]
  | [],_ => rfl
  | c :: l,b => by simp [apN,apN_eq l b]
theorem mem_iff {b : Nat} : ∀ {l : List Nat},mem b l = false → b ∉ l
  | [],_ => by simp
  | c :: l,h => by
    simp only [mem] at h
    split at h
    · cases h
    · rename_i hb
      have := Nat.ne_of_beq_eq_false hb
      simp only [List.mem_cons,not_or]
      exact ⟨this,mem_iff h⟩
structure OkB (n : Nat) (bs : List Nat) : Prop where
  nd : bs.Nodup
  ge : ∀ x ∈ bs,n ≤ x
theorem ιc_mono {n : Nat} {bs t : List Nat} {ι : Io} : Ext (ιc n bs ι) (ιc n (bs ++ t) ι) := fun x r h => by
  unfold ιc at h ⊢
  split at h
  · exact h
  · rename_i hb
    split at h
    · rename_i b hn
      have : nthN (bs ++ t) (Nat.sub x n) = some b := by
        rw [nthN_eq] at hn ⊢
        exact List.getElem?_append_left (List.getElem?_eq_some_iff.1 hn).1 ▸ hn
      simp only [this]
      exact h
    · cases h
theorem mblk_ok {n c b : Nat} {bs bs' : List Nat} (h : mblk n c b bs = some bs') (hk : OkB n bs) : OkB n bs' ∧ (∃ t,bs' = bs ++ t) ∧ ∀ (ι : Io) r,ι b = some r → ιc n bs' ι c = some r := by
  unfold mblk at h
  split at h
  · rename_i hb
    split at h
    · rename_i he
      cases h
      refine ⟨hk,⟨[],by simp⟩,fun ι r hr => ?_⟩
      unfold ιc
      rw [hb,beqN he]
      exact hr
    · cases h
  · rename_i hb
    split at h
    · rename_i b' hn
      split at h
      · rename_i he
        cases h
        refine ⟨hk,⟨[],by simp⟩,fun ι r hr => ?_⟩
        unfold ιc
        simp only [hb,hn,← beqN he]
        exact hr
      · cases h
    · split at h
      · rename_i hc hm hn
        cases h
        rw [apN_eq]
        refine ⟨⟨?_,?_⟩,⟨[b],rfl⟩,fun ι r hr => ?_⟩
        · rw [List.nodup_append]
          refine ⟨hk.nd,by simp,?_⟩
          intro x hx y hy
          simp at hy
          subst hy
          rintro rfl
          exact mem_iff hm hx
        · intro x hx
          rcases List.mem_append.1 hx with h | h
          · exact hk.ge x h
          · simp at h; subst h; exact Nat.le_of_ble_eq_true hn
        · unfold ιc
          have hcl := beqN hc
          rw [lenN_eq] at hcl
          have : nthN (bs ++ [b]) (Nat.sub c n) = some b := by
            rw [nthN_eq,hcl]; simp
          simp only [hb,this]
          exact hr
      · cases h
def MV (n : Nat) (u v : Value) (bs bs' : List Nat) : Prop := OkB n bs → OkB n bs' ∧ (∃ t,bs' = bs ++ t) ∧ ∀ (ι : Io) v',VR ι v v' → VR (ιc n bs' ι) u v'
def MVL (n : Nat) (l m : List Value) (bs bs' : List Nat) : Prop := OkB n bs → OkB n bs' ∧ (∃ t,bs' = bs ++ t) ∧ ∀ (ι : Io) m',LR ι m m' → LR (ιc n bs' ι) l m'
theorem mv_ok {n : Nat} : ∀ d,(∀ u v bs bs',mv n d u v bs = some bs' → MV n u v bs bs') ∧ ∀ l m bs bs',mvL n d l m bs = some bs' → MVL n l m bs bs' := by
  intro d
  induction d with
  | zero => exact ⟨fun u v bs bs' h => by simp [mv] at h,fun l m bs bs' h => by simp [mvL] at h⟩
  | succ d ih =>
    obtain ⟨ih1,ih2⟩ := ih
    constructor
    · intro u v bs bs' h
      unfold mv at h
      split at h
      · split at h
        · rename_i h1 h2
          cases h
          intro hk
          refine ⟨hk,⟨[],by simp⟩,fun ι v' hv => ?_⟩
          rw [kindB_ok h1,eqI_ok h2]
          cases hv
          exact .int _ _
        · cases h
      · split at h
        · rename_i h1
          cases h
          intro hk
          refine ⟨hk,⟨[],by simp⟩,fun ι v' hv => ?_⟩
          rw [sameB_ok h1]
          cases hv
          exact .bool _
        · cases h
      · split at h
        · rename_i h1
          cases h
          intro hk
          refine ⟨hk,⟨[],by simp⟩,fun ι v' hv => ?_⟩
          rw [eqU_eq] at h1
          simp only [beq_iff_eq] at h1
          rw [h1]
          cases hv
          exact .str _
        · cases h
      · split at h
        · rename_i h1 h2 h3
          cases h
          intro hk
          refine ⟨hk,⟨[],by simp⟩,fun ι v' hv => ?_⟩
          rw [← beqN h1,← beqN h2] at hv
          have h3' := blt_true h3
          rw [hv.sl0I (by simpa using h3')]
          exact .sl0 _ _ (by simpa using h3')
        · cases h
      · split at h
        · rename_i h1 h2 h3 h4
          intro hk
          obtain ⟨q1,q2,q3⟩ := mblk_ok h hk
          refine ⟨q1,q2,fun ι v' hv => ?_⟩
          rw [← beqN h1,← beqN h2,← beqN h3] at hv
          have h4' := blt_true h4
          obtain ⟨r,c,rfl,hb⟩ := hv.slI (by simpa using h4')
          exact .sl (q3 ι _ hb) (by simpa using h4')
        · cases h
      · split at h
        · rename_i h1
          intro hk
          obtain ⟨q1,q2,q3⟩ := mblk_ok h hk
          refine ⟨q1,q2,fun ι v' hv => ?_⟩
          rw [← beqN h1] at hv
          obtain ⟨r,c,rfl,hb⟩ := hv.ptrI
          exact .ptr (q3 ι _ hb)
        · cases h
      · split at h
        · rename_i h1
          cases h
          intro hk
          refine ⟨hk,⟨[],by simp⟩,fun ι v' hv => ?_⟩
          rw [← seq_ok _ _ _ h1] at hv
          cases hv with
          | func hn => exact absurd rfl (hn _)
          | sym hd => exact .sym hd
          | symB hd => exact .symB hd
          | unk hs => exact .unk hs
          | opq e hs => exact .opq e hs
        · cases h
      · intro hk
        obtain ⟨q1,q2,q3⟩ := ih2 _ _ _ _ h hk
        refine ⟨q1,q2,fun ι v' hv => ?_⟩
        obtain ⟨l',rfl,hl⟩ := hv.aggI
        exact .agg (q3 ι _ hl)
      · intro hk
        obtain ⟨q1,q2,q3⟩ := ih2 _ _ _ _ h hk
        refine ⟨q1,q2,fun ι v' hv => ?_⟩
        obtain ⟨l',rfl,hl⟩ := hv.tupI
        exact .tup (q3 ι _ hl)
      · cases h
    · intro l m bs bs' h
      unfold mvL at h
      split at h
      · cases h
        intro hk
        refine ⟨hk,⟨[],by simp⟩,fun ι m' hm => ?_⟩
        cases hm
        exact .nil
      · split at h
        · rename_i b1 hx
          intro hk
          obtain ⟨q1,⟨t,q2⟩,q3⟩ := ih1 _ _ _ _ hx hk
          obtain ⟨r1,⟨t',r2⟩,r3⟩ := ih2 _ _ _ _ h q1
          refine ⟨r1,⟨t ++ t',by rw [r2,q2,List.append_assoc]⟩,fun ι m' hm => ?_⟩
          cases hm with
          | cons hv hl =>
            refine .cons (VR.mono ?_ (q3 ι _ hv)) (r3 ι _ hl)
            rw [r2]
            exact ιc_mono
        · cases h
      · cases h

def layB : List LO → Nat → Tr LO → Tr LO
  | [],_,h => h
  | o :: r,i,h => layB r (Nat.succ i) (Tr.set DH h i (some o))
theorem layB_get : ∀ {bl : List LO} {i : Nat} {h : Tr LO},i + bl.length ≤ limH → ∀ b,(layB bl i h).get b = if i ≤ b ∧ b < i + bl.length then bl[b - i]? else h.get b
  | [],i,h,_,b => by simp only [layB,List.length_nil]; rw [if_neg (by omega)]
  | o :: r,i,h,hl,b => by
    simp only [List.length_cons] at hl
    simp only [layB]
    rw [layB_get (by show i + 1 + r.length ≤ limH; omega) b]
    have hg := Tr.get_set DH h i (some o) b (lim_le (by omega))
    by_cases h1 : i.succ ≤ b ∧ b < i.succ + r.length
    · rw [if_pos h1,if_pos (by simp; omega)]
      have : b - i = (b - i.succ) + 1 := by omega
      rw [this,List.getElem?_cons_succ]
    · rw [if_neg h1,hg]
      by_cases h2 : b = i
      · subst h2; rw [if_pos rfl,if_pos (by simp)]; simp
      · rw [if_neg h2,if_neg (by simp; omega)]
def Gen.h0 (k : Gen) : Tr LO := match k.tb with
  | none => .e
  | some (g,l) => Tr.set DH .e g (some (.ro l))
def Gen.st (k : Gen) : St := ⟨layB k.bl k.n k.h0,k.n + k.bl.length,k.n + k.bl.length,[]⟩
def bchk (s : St) (n : Nat) : List LO → List Nat → Bool
  | [],[] => true
  | lo :: l,b :: bs => match s.h.get b with
    | some lo' => match loeq lo lo',flatO n lo with
      | true,true => bchk s n l bs
      | _,_ => false
    | none => false
  | _,_ => false
def tchk (s : St) (n : Nat) : Option (Nat × List Value) → Bool
  | none => true
  | some (g,l) => match Nat.blt g n,s.h.get g with
    | true,some lo => loeq (.ro l) lo
    | _,_ => false
def ghit (k : Gen) (fv : Value) (args : List Value) (s : St) : Bool := match fv with
  | .func (.func g) ⟨[]⟩ ⟨[]⟩ => match Nat.beq g k.f with
    | false => false
    | true => match mvL k.n 40 k.args args [] with
      | none => false
      | some bs => match tchk s k.n k.tb with
        | true => bchk s k.n k.bl bs
        | false => false
  | _ => false
theorem bchk_ok {s : St} {n : Nat} : ∀ {bl : List LO} {bs : List Nat},bchk s n bl bs = true → bs.length = bl.length ∧ ∀ (i : Nat) (lo : LO),bl[i]? = some lo → ∃ b,bs[i]? = some b ∧ s.h.get b = some lo ∧ flatO n lo = true
  | [],[],_ => ⟨rfl,fun i lo h => by simp at h⟩
  | [],_ :: _,h => by simp [bchk] at h
  | _ :: _,[],h => by simp [bchk] at h
  | lo :: l,b :: bs,h => by
    simp only [bchk] at h
    split at h
    · rename_i lo' hb
      split at h
      · rename_i h1 h2
        obtain ⟨q1,q2⟩ := bchk_ok h
        refine ⟨by simp [q1],fun i x hx => ?_⟩
        cases i with
        | zero =>
          simp at hx
          subst hx
          exact ⟨b,by simp,by rw [hb,loeq_ok h1],h2⟩
        | succ i => simpa using q2 i x (by simpa using hx)
      · cases h
    · cases h
theorem WR.canon {P : Program} {ι : Io} {s : St} {w : World} {k : Gen} {bs : List Nat} (hW : WR P ι s w) (hok : OkB k.n bs) (ht : tchk s k.n k.tb = true) (hb : bchk s k.n k.bl bs = true) (hn : P.globals.size ≤ k.n) (hl : k.n + k.bl.length ≤ limH) :
    WR P (ιc k.n bs ι) k.st w := by
  obtain ⟨b1,b2⟩ := bchk_ok hb

  have low : ∀ x,x < k.n → ιc k.n bs ι x = ι x := fun x hx => by
    unfold ιc
    have : Nat.blt x k.n = true := by simpa [Nat.blt_eq] using hx
    rw [this]
  have high : ∀ x,k.n ≤ x → ∀ r,ιc k.n bs ι x = some r → ∃ b,bs[x - k.n]? = some b ∧ ι b = some r := fun x hx r h => by
    unfold ιc at h
    have hb : Nat.blt x k.n = false := by
      cases hq : Nat.blt x k.n with
      | false => rfl
      | true => have := blt_true hq; omega
    rw [hb] at h
    simp only at h
    split at h
    · rename_i b hnb
      rw [nthN_eq] at hnb
      exact ⟨b,hnb,h⟩
    · cases h
  have high' : ∀ x b,k.n ≤ x → bs[x - k.n]? = some b → ιc k.n bs ι x = ι b := fun x b hx h => by
    unfold ιc
    have hb : Nat.blt x k.n = false := by
      cases hq : Nat.blt x k.n with
      | false => rfl
      | true => have := blt_true hq; omega
    rw [hb]
    simp only
    rw [show nthN bs (Nat.sub x k.n) = some b from by rw [nthN_eq]; exact h]
  have h0 : ∀ x o,k.h0.get x = some o → x < k.n ∧ s.h.get x = some o ∧ flatO k.n o = true := fun x o hx => by
    unfold Gen.h0 at hx
    cases htb : k.tb with
    | none => rw [htb] at hx; simp only at hx; rw [Tr.get_e] at hx; cases hx
    | some p =>
      obtain ⟨g,l⟩ := p
      rw [htb] at hx ht
      simp only [tchk] at ht
      split at ht
      · rename_i hg hlo
        have hg := blt_true hg
        simp only at hx
        rw [Tr.get_set DH _ _ _ _ (lim_le (by omega))] at hx
        split at hx
        · rename_i e
          subst e
          cases hx
          exact ⟨hg,by rw [hlo,← loeq_ok ht],rfl⟩
        · rw [Tr.get_e] at hx; cases hx
      · cases ht
  have got : ∀ x o,k.st.h.get x = some o → (x < k.n ∧ s.h.get x = some o ∧ flatO k.n o = true) ∨ (k.n ≤ x ∧ ∃ b,bs[x - k.n]? = some b ∧ s.h.get b = some o ∧ flatO k.n o = true) := fun x o hx => by
    have hx' : (layB k.bl k.n k.h0).get x = some o := hx
    rw [layB_get hl] at hx'
    split at hx'
    · rename_i h
      exact .inr ⟨h.1,b2 _ _ hx'⟩
    · exact .inl (h0 x o hx')
  have backι : ∀ (b : Nat) (r : Nat × Nat),b < k.n → ι b = some r → ιc k.n bs ι b = some r := fun b r hb h => by rw [low b hb]; exact h
  refine ⟨?_,?_,?_,?_,hl,Nat.le_refl _,fun b h => (by cases h),fun g c hg => ?_,?_⟩
  · intro x o hx
    rcases got x o hx with ⟨h1,h2,h3⟩ | ⟨h1,b,h2,h3,h4⟩
    · obtain ⟨r,c,y,e1,e2,e3⟩ := hW.obj x o h2
      exact ⟨r,c,y,by rw [low x h1]; exact e1,e2,flatO_ok backι h3 e3⟩
    · obtain ⟨r,c,y,e1,e2,e3⟩ := hW.obj b o h3
      exact ⟨r,c,y,by rw [high' x b h1 h2]; exact e1,e2,flatO_ok backι h4 e3⟩
  · intro x y r c c' hx hy h1 h2
    have lift : ∀ z r c,k.st.h.get z ≠ none → ιc k.n bs ι z = some (r,c) → ∃ b,s.h.get b ≠ none ∧ ι b = some (r,c) ∧ ((z < k.n ∧ b = z) ∨ (k.n ≤ z ∧ bs[z - k.n]? = some b)) := fun z r c hz hι => by
      cases hq : k.st.h.get z with
      | none => exact absurd hq hz
      | some o =>
        rcases got z o hq with ⟨h1,h2,h3⟩ | ⟨h1,b,h2,h3,h4⟩
        · exact ⟨z,by rw [h2]; simp,by rw [low z h1] at hι; exact hι,.inl ⟨h1,rfl⟩⟩
        · exact ⟨b,by rw [h3]; simp,by rw [high' z b h1 h2] at hι; exact hι,.inr ⟨h1,h2⟩⟩
    obtain ⟨b,p1,p2,p3⟩ := lift x r c hx h1
    obtain ⟨b',q1,q2,q3⟩ := lift y r c' hy h2
    have e := hW.inj b b' r c c' p1 q1 p2 q2
    subst e
    rcases p3 with ⟨u1,u2⟩ | ⟨u1,u2⟩ <;> rcases q3 with ⟨v1,v2⟩ | ⟨v1,v2⟩
    · omega
    · have := hok.ge b (List.mem_of_getElem? v2); omega
    · have := hok.ge b (List.mem_of_getElem? u2); omega
    · obtain ⟨l1,l2⟩ := List.getElem?_eq_some_iff.1 u2
      obtain ⟨m1,m2⟩ := List.getElem?_eq_some_iff.1 v2
      have := (List.getElem_inj hok.nd (h₀ := l1) (h₁ := m1)).1 (by rw [l2,m2])
      omega
  · intro x r c h
    by_cases hx : x < k.n
    · rw [low x hx] at h; exact hW.bound _ _ _ h
    · obtain ⟨b,_,hb⟩ := high x (by omega) _ h
      exact hW.bound _ _ _ hb
  · intro x r h
    show x < k.n + k.bl.length
    by_cases hx : x < k.n
    · omega
    · obtain ⟨b,hb,_⟩ := high x (by omega) _ h
      have := (List.getElem?_eq_some_iff.1 hb).1
      omega
  · rw [low g (Nat.lt_of_lt_of_le (gsize_lt hg) hn)]
    exact hW.pin g c hg
  · refine hW.env.mono (fun x r c h => ?_) (Nat.le_refl _) fun _ _ _ => rfl
    by_cases hx : x < k.n
    · rw [low x hx] at h; exact .inl ⟨x,c,h⟩
    · obtain ⟨b,_,hb⟩ := high x (by omega) _ h
      exact .inl ⟨b,c,hb⟩

def GFact (P : Program) (k : Gen) : Prop := (P.globals.size ≤ k.n ∧ k.n + k.bl.length ≤ limH) ∧ ∀ (ι : Io) (w : World) (fv' : Value) (args' : List Value),VR ι (.func (.func k.f) ⟨[]⟩ ⟨[]⟩) fv' → LR ι k.args args' → WR P ι k.st w → CallR P fv' args' w fun v' w' => (∀ ι,VR ι k.v v') ∧ Kept w w'
inductive GL (P : Program) : List Gen → Prop
  | nil : GL P []
  | cons {k : Gen} {ks : List Gen} : GFact P k → GL P ks → GL P (k :: ks)
def gens (call : Value → List Value → St → Option (Value × St)) : List Gen → Value → List Value → St → Option (Value × St)
  | [],fv,args,s => call fv args s
  | k :: ks,fv,args,s => match ghit k fv args s with
    | true => some (k.v,s)
    | false => gens call ks fv args s
theorem gens_ok {P : Program} {call : Value → List Value → St → Option (Value × St)} (hc : CallOK P call) : ∀ {ks : List Gen},GL P ks → CallOK P (gens call ks)
  | _,.nil => fun fv args s v s1 h => hc fv args s v s1 h
  | _,.cons (k := k) (ks := ks) hf hs => fun fv args s v s1 h => by
    simp only [gens] at h
    split at h
    · rename_i hh
      cases h
      intro ι w fv' args' q1 q2 q3
      unfold ghit at hh
      split at hh
      · split at hh
        · cases hh
        · rename_i hg
          split at hh
          · cases hh
          · rename_i bs hbs
            split at hh
            · rename_i ht
              obtain ⟨⟨hn,hl⟩,hf⟩ := hf
              obtain ⟨m1,_,m3⟩ := (mv_ok 40).2 _ _ _ _ hbs ⟨List.nodup_nil,fun x hx => by cases hx⟩
              have hcan := q3.canon m1 ht hh hn hl
              rw [beqN hg] at q1
              have q1' : VR (ιc k.n bs ι) (.func (.func k.f) ⟨[]⟩ ⟨[]⟩) fv' := by
                cases q1 with
                | func a b c =>
                  cases b
                  cases c
                  exact .func a .nil .nil
              refine CallR.mono (hf _ w fv' args' q1' (m3 ι _ q2) hcan) ?_
              rintro v' w' ⟨hv,hk⟩
              exact ⟨ι,hv ι,Po.kept q3 hk⟩
            · cases hh
      · cases hh
    · exact gens_ok hc hs fv args s v s1 h

end
end Go.Sim
namespace Go.Sim
set_option linter.all false
open Go
variable [Rho] [Asm] [SymOK]
noncomputable section

structure GenW where
  g : Gen
  i : Nat
  out : LO
def gbind (k : Gen) (fv : Value) (args : List Value) (s : St) : Option (List Nat) := match fv with
  | .func (.func g) ⟨[]⟩ ⟨[]⟩ => match Nat.beq g k.f with
    | false => none
    | true => match mvL k.n 40 k.args args [] with
      | none => none
      | some bs => match tchk s k.n k.tb with
        | true => match bchk s k.n k.bl bs with
          | true => some bs
          | false => none
        | false => none
  | _ => none
def GWFact (P : Program) (k : GenW) : Prop := (P.globals.size ≤ k.g.n ∧ k.g.n + k.g.bl.length ≤ limH) ∧ ∀ (ι : Io) (w : World) (fv' : Value) (args' : List Value),VR ι (.func (.func k.g.f) ⟨[]⟩ ⟨[]⟩) fv' → LR ι k.g.args args' → WR P ι k.g.st w →
  CallR P fv' args' w fun v' w' => (∀ ι,VR ι k.g.v v') ∧ ∃ r c x,ι (k.g.n + k.i) = some (r,c) ∧ (∀ ι,OR P ι c k.out x) ∧ w'.heap[r]? = some x ∧ w'.os = w.os ∧ w'.tape = w.tape ∧ w'.output = w.output ∧ w.heap.size ≤ w'.heap.size ∧ ∀ j,j < w.heap.size → j ≠ r → w'.heap[j]? = w.heap[j]?
inductive GWL (P : Program) : List GenW → Prop
  | nil : GWL P []
  | cons {k : GenW} {ks : List GenW} : GWFact P k → GWL P ks → GWL P (k :: ks)
def genws (call : Value → List Value → St → Option (Value × St)) : List GenW → Value → List Value → St → Option (Value × St)
  | [],fv,args,s => call fv args s
  | k :: ks,fv,args,s => match gbind k.g fv args s with
    | none => genws call ks fv args s
    | some bs => match nthN bs k.i with
      | none => none
      | some b => s.putK b (some k.out) fun s => some (k.g.v,s)
theorem genws_ok {P : Program} {call : Value → List Value → St → Option (Value × St)} (hc : CallOK P call) : ∀ {ks : List GenW},GWL P ks → CallOK P (genws call ks)
  | _,.nil => fun fv args s v s1 h => hc fv args s v s1 h
  | _,.cons (k := k) (ks := ks) hf hs => fun fv args s v s1 h => by
    simp only [genws] at h
    split at h
    · exact genws_ok hc hs fv args s v s1 h
    · rename_i bs hbs
      split at h
      · cases h
      · rename_i b hb
        rw [St.putK_eq] at h
        cases h
        intro ι w fv' args' q1 q2 q3
        unfold gbind at hbs
        split at hbs
        · split at hbs
          · cases hbs
          · rename_i hg
            split at hbs
            · cases hbs
            · rename_i bs0 hm
              split at hbs
              · rename_i ht
                split at hbs
                · rename_i hbc
                  cases hbs
                  obtain ⟨⟨hn,hl⟩,hf⟩ := hf
                  obtain ⟨m1,_,m3⟩ := (mv_ok 40).2 _ _ _ _ hm ⟨List.nodup_nil,fun x hx => by cases hx⟩
                  have hcan := q3.canon m1 ht hbc hn hl
                  rw [beqN hg] at q1
                  have q1' : VR (ιc k.g.n bs ι) (.func (.func k.g.f) ⟨[]⟩ ⟨[]⟩) fv' := by
                    cases q1 with
                    | func a b c =>
                      cases b
                      cases c
                      exact .func a .nil .nil
                  refine CallR.mono (hf _ w fv' args' q1' (m3 ι _ q2) hcan) ?_
                  rintro v' w' ⟨hv,r,c,x,hr,hor,hx,ho1,ho2,ho3,hsz,hfr⟩
                  rw [nthN_eq] at hb
                  have hib : ι b = some (r,c) := by
                    unfold ιc at hr
                    have hlt : Nat.blt (k.g.n + k.i) k.g.n = false := by
                      cases hq : Nat.blt (k.g.n + k.i) k.g.n with
                      | false => rfl
                      | true => have := blt_true hq; omega
                    rw [hlt] at hr
                    simp only at hr
                    have e : Nat.sub (k.g.n + k.i) k.g.n = k.i := Nat.add_sub_cancel_left ..
                    rw [e,nthN_eq,hb] at hr
                    exact hr
                  obtain ⟨b1,b2⟩ := bchk_ok hbc
                  have hlive : s.h.get b ≠ none := by
                    have hi : k.i < k.g.bl.length := by rw [← b1]; exact (List.getElem?_eq_some_iff.1 hb).1
                    obtain ⟨b',e1,e2,_⟩ := b2 k.i _ (List.getElem?_eq_getElem hi)
                    rw [hb] at e1
                    cases e1
                    rw [e2]; simp
                  have hrl := q3.bound _ _ _ hib
                  have hp1 := Po.put q3 hlive hib (o := k.out) (hor ι) (upd_set (x := x) hrl)
                  have hk : Kept { w with heap := w.heap.setIfInBounds r x } w' := ⟨ho1,ho2,ho3,by simpa using hsz,fun j hj => by
                    simp only [Array.size_setIfInBounds] at hj
                    by_cases hjr : j = r
                    · subst hjr; rw [hx]; simp [hj]
                    · rw [hfr j hj hjr]; simp [Ne.symm hjr]⟩
                  exact ⟨ι,hv ι,hp1.trans (Po.kept hp1.wr hk)⟩
                · cases hbs
              · cases hbs
        · cases hbs

end
end Go.Sim
namespace Go.Sim
set_option linter.all false
open Go
variable [Rho] [Asm] [SymOK]
noncomputable section
structure Kb where
  w : Tr (List GenW)
  g : Tr (List Gen)
  c : Tr (List Chg)
def gOf (K : Kb) (f : Nat) : List Gen := match K.g.get f with
  | some l => l
  | none => []
def wOf (K : Kb) (f : Nat) : List GenW := match K.w.get f with
  | some l => l
  | none => []
def cOf (K : Kb) (f : Nat) : List Chg := match K.c.get f with
  | some l => l
  | none => []
def known (K : Kb) (call : Value → List Value → St → Option (Value × St)) (fv : Value) (args : List Value) (s : St) : Option (Value × St) := match fv with
  | .func (.func f) _ _ => chgs (gens (genws call (wOf K f)) (gOf K f)) (cOf K f) fv args s
  | _ => call fv args s
structure KbOK (P : Program) (K : Kb) : Prop where
  w : ∀ f l,K.w.get f = some l → GWL P l
  g : ∀ f l,K.g.get f = some l → GL P l
  c : ∀ f l,K.c.get f = some l → CL P l
theorem known_ok {P : Program} {K : Kb} (hK : KbOK P K) {call : Value → List Value → St → Option (Value × St)} (hc : CallOK P call) : CallOK P (known K call) := fun fv args s v s1 h => by
  unfold known at h
  split at h
  · rename_i f xs ys
    intro ι w fv' args' q1 q2 q3
    have hg : GL P (gOf K f) := by
      unfold gOf
      split
      · rename_i l hl; exact hK.g f l hl
      · exact .nil
    have hw : GWL P (wOf K f) := by
      unfold wOf
      split
      · rename_i l hl; exact hK.w f l hl
      · exact .nil
    have hcl : CL P (cOf K f) := by
      unfold cOf
      split
      · rename_i l hl; exact hK.c f l hl
      · exact .nil
    exact chgs_ok hcl h q1 q2 q3 fun h' => gens_ok (genws_ok hc hw) hg _ _ _ _ _ h' ι w fv' args' q1 q2 q3
  · exact hc fv args s v s1 h

def evCodeO (K : Kb) (tab : Tr FI) (n : Nat) : IC → Option Nat → List Nat → Tm → St → Option Cf :=
  Nat.rec (fun _ _ _ _ _ => none) (fun _ ih => Sim.K.codeF (known K (callB tab ih)) ih) n
def evCall1 (K : Kb) (tab : Tr FI) (n : Nat) : Value → List Value → St → Option (Value × St) := callB tab (evCodeO K tab n)
section
variable {P : Program}
theorem evCodeO_ok (hm : P.follows .mixedOrders = true) {tab : Tr FI} (htab : TabOK P tab) {K : Kb} (hK : KbOK P K) : ∀ n,CodeOK P (evCodeO K tab n)
  | 0 => fun nt c ic rnd ds T s cf _ he => by cases he
  | n + 1 => by
    have ih := evCodeO_ok hm htab hK n
    have := codeB_ok hm (known_ok hK (callB_ok htab ih)) ih
    rw [← Sim.K.codeF_eq] at this
    exact this
theorem evCall1_ok (hm : P.follows .mixedOrders = true) {tab : Tr FI} (htab : TabOK P tab) {K : Kb} (hK : KbOK P K) (n : Nat) : CallOK P (evCall1 K tab n) := callB_ok htab (evCodeO_ok hm htab hK n)

def says (r : Option (Value × St)) (v : Value) (h : Tr LO) (n bs : Nat) (ws : List Nat) : Bool := match r with
  | none => false
  | some (v',s) => match veq 6 v' v,Nat.beq s.n n,Nat.beq s.bs bs with
    | true,true,true => match leq s.ws ws,tsub s.h h with
      | true,true => tsub h s.h
      | _,_ => false
    | _,_,_ => false
theorem says_ok {r : Option (Value × St)} {v : Value} {h : Tr LO} {n bs : Nat} {ws : List Nat} (e : says r v h n bs ws = true) : ∃ s,r = some (v,s) ∧ Like s ⟨h,n,bs,ws⟩ := by
  unfold says at e
  split at e
  · cases e
  · rename_i v' s
    split at e
    · rename_i h1 h2 h3
      split at e
      · rename_i h4 h5
        refine ⟨s,by rw [veq_ok _ _ _ h1],fun b => ?_,(beqN h2).symm,(beqN h3).symm,(leq_ok h4).symm⟩
        show h.get b = s.h.get b
        cases hq : s.h.get b with
        | some o => exact tsub_ok h5 _ o hq
        | none =>
          cases hr : h.get b with
          | none => rfl
          | some o =>
            have : s.h.get b = some o := tsub_ok e _ o hr
            rw [hq] at this
            cases this
      · cases e
    · cases e
theorem cfact (hm : P.follows .mixedOrders = true) {tab : Tr FI} (htab : TabOK P tab) {K : Kb} (hK : KbOK P K) {k : Chg} {n : Nat} (hu : okU k k.upd = true) (h : says (evCall1 K tab n k.fv k.args k.s) k.v (applyU k.upd k.s.h) k.n1 k.s.bs k.ws1 = true) : CFact P k := by
  obtain ⟨s,hs,hl⟩ := says_ok h
  refine ⟨hu,fun ι w fv' args' h1 h2 h3 => CallR.mono (evCall1_ok hm htab hK n _ _ _ _ _ hs ι w fv' args' h1 h2 h3) ?_⟩
  rintro v' w' ⟨ι',hv,hp⟩
  exact ⟨ι',hv,hp.like hl⟩
theorem gfact (hm : P.follows .mixedOrders = true) {tab : Tr FI} (htab : TabOK P tab) {K : Kb} (hK : KbOK P K) {k : Gen} {n : Nat} (hn : (Nat.ble P.globals.size k.n && (Nat.ble (k.n + k.bl.length) limH && flat 0 4 k.v)) = true)
    (h : says (evCall1 K tab n (.func (.func k.f) ⟨[]⟩ ⟨[]⟩) k.args k.st) k.v k.st.h k.st.n k.st.bs k.st.ws = true) : GFact P k := by
  simp only [Bool.and_eq_true] at hn
  obtain ⟨hn1,hn2,hf⟩ := hn
  obtain ⟨s,hs,hl⟩ := says_ok h
  refine ⟨⟨Nat.le_of_ble_eq_true hn1,Nat.le_of_ble_eq_true hn2⟩,fun ι w fv' args' h1 h2 h3 => CallR.mono (evCall1_ok hm htab hK n _ _ _ _ _ hs ι w fv' args' h1 h2 h3) ?_⟩
  rintro v' w' ⟨ι',hv,hp⟩
  exact ⟨fun ι => VR.backFlat (m := 0) (fun b r hb => by omega) 4 _ _ hf hv,(hp.like hl).whole rfl rfl⟩
theorem open_any {f n0 : Nat} {as as' : List Value} {h0 : Tr LO} {v : Value} {n1 : Nat} {ws1 : List Nat} {upd : List (Nat × Option LO)} (h : CFact P ⟨.func (.func f) ⟨[]⟩ ⟨[]⟩,as,S1 h0 n0,v,n1,ws1,upd⟩) (has : LR (I1 P) as as') (hw1 : ws1 = []) (hn : P.globals.size = n0) (hl : Nat.ble n0 limH = true) (w : World) (hw : n0 ≤ w.heap.size) (ht : Laid1 P h0 w) (he : Rho.B ≤ w.heap.size ∧ ∀ k,P.globals.size ≤ k → k < Rho.B → w.heap[k]? = Rho.W0 k) :
    Calls P f ⟨as'⟩ w fun e w' => ∃ v' ι',e = .returned v' ∧ VR ι' v v' ∧ Kept w w' := by
  have hw0 := WR.first (h := h0) hn (Nat.le_of_ble_eq_true hl) hw ht he
  rcases h.2 (I1 P) w (.func (.func f) #[] #[]) as' (.func (fun _ e => by cases e) .nil .nil) has hw0 with ⟨g,xs,ys,fn,hf,hfn,hb,hname,hcall⟩ | ⟨r,lp,hf,_⟩
  · cases hf
    have hcall := hcall 0
    simp only [List.nil_append,List.append_nil] at hcall
    refine callsIn_wide.1 (CallsIn.mono hcall ?_)
    rintro e w' ⟨v',rfl,ι',hv,hp⟩
    refine ⟨v',ι',rfl,hv,⟨hp.os,hp.tape,hp.output,hp.size,fun k hk => hp.frame k hk fun b c hb => .inr ⟨?_,?_⟩⟩⟩
    · show b < n0
      have := gsize_lt (I1_inv hb).2
      omega
    · show b ∉ ws1
      rw [hw1]
      intro hm; cases hm
  · cases hf
theorem closed_any {f n0 : Nat} {h0 : Tr LO} {v : Value} {n1 : Nat} {ws1 : List Nat} {upd : List (Nat × Option LO)} (h : CFact P ⟨.func (.func f) ⟨[]⟩ ⟨[]⟩,[],S1 h0 n0,v,n1,ws1,upd⟩) (hw1 : ws1 = []) (hn : P.globals.size = n0) (hl : Nat.ble n0 limH = true) (w : World) (hw : n0 ≤ w.heap.size) (ht : Laid1 P h0 w) (he : Rho.B ≤ w.heap.size ∧ ∀ k,P.globals.size ≤ k → k < Rho.B → w.heap[k]? = Rho.W0 k) :
    Calls P f #[] w fun e w' => ∃ v' ι',e = .returned v' ∧ VR ι' v v' ∧ Kept w w' := open_any h .nil hw1 hn hl w hw ht he
end
end
end Go.Sim
namespace Go.Sim
set_option linter.all false
open Go Go.RowKit
variable [Rho] [Asm] [SymOK]
noncomputable section

theorem Kept.below {w w' : World} (h : Below w.heap.size w w') : Kept w w' := ⟨h.os,h.tape,h.output,h.size,h.block⟩
theorem Kept.refl (w : World) : Kept w w := ⟨rfl,rfl,rfl,Nat.le_refl _,fun _ _ => rfl⟩
theorem Kept.grow (w : World) (k : Nat) (os : Array Obj) : Kept w (Sort.grow (w.drewN k) os) :=
  ⟨rfl,rfl,rfl,by simp [Sort.grow,World.drewN],fun i hi => by
    show (w.heap ++ os)[i]? = _
    rw [Array.getElem?_append_left hi]⟩

section
variable {P : Program} {f n : Nat} {fn : Func}
end
end
end Go.Sim
namespace Go.Sim
set_option linter.all false
open Go
variable [Rho] [Asm] [SymOK]
noncomputable section

def layF {α : Type} : List (Nat × α) → Tr α
  | [] => .e
  | p :: l => Tr.set DT (layF l) p.1 (some p.2)
section
variable {P : Program}
inductive AllG (P : Program) : List (Nat × List Gen) → Prop
  | nil : AllG P []
  | cons {f : Nat} {gl : List Gen} {l : List (Nat × List Gen)} : GL P gl → Nat.blt f limT = true → AllG P l → AllG P ((f,gl) :: l)
inductive AllCh (P : Program) : List (Nat × List Chg) → Prop
  | nil : AllCh P []
  | cons {f : Nat} {gl : List Chg} {l : List (Nat × List Chg)} : CL P gl → Nat.blt f limT = true → AllCh P l → AllCh P ((f,gl) :: l)
theorem AllG.get : ∀ {l : List (Nat × List Gen)},AllG P l → ∀ f gl,(layF l).get f = some gl → GL P gl
  | _,.nil,f,fi,h => by rw [show layF ([] : List (Nat × List Gen)) = .e from rfl,Tr.get_e] at h; cases h
  | _,.cons (f := g) (gl := gi) (l := l) h1 h2 h3,f,fi,h => by
    have h2 := blt_true h2
    rw [show layF ((g,gi) :: l) = Tr.set DT (layF l) g (some gi) from rfl,Tr.get_set DT _ _ _ f (by unfold limT at h2; unfold DT; omega)] at h
    split at h
    · cases h; exact h1
    · exact h3.get f fi h
theorem AllCh.get : ∀ {l : List (Nat × List Chg)},AllCh P l → ∀ f gl,(layF l).get f = some gl → CL P gl
  | _,.nil,f,fi,h => by rw [show layF ([] : List (Nat × List Chg)) = .e from rfl,Tr.get_e] at h; cases h
  | _,.cons (f := g) (gl := gi) (l := l) h1 h2 h3,f,fi,h => by
    have h2 := blt_true h2
    rw [show layF ((g,gi) :: l) = Tr.set DT (layF l) g (some gi) from rfl,Tr.get_set DT _ _ _ f (by unfold limT at h2; unfold DT; omega)] at h
    split at h
    · cases h; exact h1
    · exact h3.get f fi h
inductive AllW (P : Program) : List (Nat × List GenW) → Prop
  | nil : AllW P []
  | cons {f : Nat} {gl : List GenW} {l : List (Nat × List GenW)} : GWL P gl → Nat.blt f limT = true → AllW P l → AllW P ((f,gl) :: l)
theorem AllW.get : ∀ {l : List (Nat × List GenW)},AllW P l → ∀ f gl,(layF l).get f = some gl → GWL P gl
  | _,.nil,f,fi,h => by rw [show layF ([] : List (Nat × List GenW)) = .e from rfl,Tr.get_e] at h; cases h
  | _,.cons (f := g) (gl := gi) (l := l) h1 h2 h3,f,fi,h => by
    have h2 := blt_true h2
    rw [show layF ((g,gi) :: l) = Tr.set DT (layF l) g (some gi) from rfl,Tr.get_set DT _ _ _ f (by unfold limT at h2; unfold DT; omega)] at h
    split at h
    · cases h; exact h1
    · exact h3.get f fi h
theorem kbOK {K : Kb} {lw : List (Nat × List GenW)} {lg : List (Nat × List Gen)} {lc : List (Nat × List Chg)} (hw : AllW P lw) (hg : AllG P lg) (hc : AllCh P lc) (e0 : K.w = layF lw) (e1 : K.g = layF lg) (e2 : K.c = layF lc) : KbOK P K :=
  ⟨by rw [e0]; exact hw.get,by rw [e1]; exact hg.get,by rw [e2]; exact hc.get⟩
end
end
end Go.Sim
