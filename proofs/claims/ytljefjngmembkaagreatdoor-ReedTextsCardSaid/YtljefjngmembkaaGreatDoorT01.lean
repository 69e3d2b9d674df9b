/- Part 1 of the proof: SimC, SimD, SimD2, SimE. -/
import Derived.CheckFast
import Derived.Laws.Rows
import Derived.IntWalk
import Derived.Test.YtljefjngmembkaaGreatDoorT00
namespace Go.Sim
set_option linter.all false
open Go
variable [Rho] [Asm]

section
variable (P : Program)
def konst : Nat → Value → Bool
  | 0,_ => false
  | d + 1,v => match v with
    | .bool _ | .int _ _ | .float _ _ | .string _ | .pointer none | .map none | .nilFunc | .nilIface => true
    | .slice none _ k => Nat.blt k 18446744073709551616
    | .func (.yield _) _ _ => false
    | .func _ xs ys => xs.toList.all (konst d) && ys.toList.all (konst d)
    | .iface _ v => konst d v
    | .agg xs => xs.toList.all (konst d)
    | .tuple xs => xs.toList.all (konst d)
    | _ => false
def compX : Operand → Option Opd
  | .tmp t => some (.t t)
  | .const v => if konst 5 v then some (.v v) else none
  | .func f => some (.v (.func (.func f) #[] #[]))
  | .global _ => none
def compXs (xs : Array Operand) : Option (List Opd) := xs.toList.mapM compX
def compO : Option Operand → Option (Option Opd)
  | none => some none
  | some x => (compX x).map some
def szOf (t : TypeId) : Option Nat := (P.info? t).map (·.size)
def aggB (t : TypeId) : Option Bool := match P.underlying t with
  | some (.struct _) | some (.array _ _) => some true
  | some _ => some false
  | none => none
def zeroOf (t : TypeId) : Option (List Value) := match (P.info? t).bind (·.zero) with
  | some v => if konst 3 v && ones (cellsOf v) then some (cellsOf v) else none
  | none => none
def zeroV (t : TypeId) : Option Value := match (P.info? t).bind (·.zero) with
  | some v => if konst 3 v then some v else none
  | none => none
def eqFs (eq : TypeId → Option Nat) : List Field → Nat → Option Nat
  | [],off => some off
  | f :: fs,off => match eq f.type with
    | none => none
    | some n => if f.offset = off ∧ f.name ≠ "_" ∧ szOf P f.type = some n then eqFs eq fs (off + n) else none
def eqT : Nat → TypeId → Option Nat
  | 0,_ => none
  | d + 1,t => match P.underlying t with
    | some (.int _) => some 1
    | some (.struct fs) => if P.stoodInHeld t then none else eqFs P (eqT d) fs.toList 0
    | _ => none
def compPart (pl : Nat → Option (Nat × Nat)) (p : Nat × Operand) : Option (Nat × Nat × Opd) := match pl p.1,compX p.2 with
  | some (off,n),some x => some (off,n,x)
  | _,_ => none
def compP (o : Oper) : Option POp := match o.op with
  | .move x | .assign x => (compX x).map .mov
  | .pick c a b => do some (.pick (← compX c) (← compX a) (← compX b))
  | .build t parts => do
    let z ← zeroV P t
    match P.underlying t with
    | some (.struct fs) => match fs.toList.mapM (fun f => match szOf P f.type with
        | some n => some (f.offset,n)
        | none => none) with
      | some pl => match parts.toList.mapM (compPart (pl[·]?)) with
        | some ps => some (.build (cellsOf z) ps)
        | none => none
      | none => none
    | some (.array _ e) => match szOf P e with
      | some n => match parts.toList.mapM (compPart fun i => some (i * n,n)) with
        | some ps => some (.build (cellsOf z) ps)
        | none => none
      | none => none
    | _ => none
  | .binOp op t x y _ => match op,P.underlying t with
    | .eql,some .bool => do some (.eqB false (← compX x) (← compX y))
    | .neq,some .bool => do some (.eqB true (← compX x) (← compX y))
    | .eql,some (.int _) => do some (.bin .eql (← compX x) (← compX y))
    | .neq,some (.int _) => do some (.bin .neq (← compX x) (← compX y))
    | .eql,some .string => do some (.bin .eql (← compX x) (← compX y))
    | .neq,some .string => do some (.bin .neq (← compX x) (← compX y))
    | .eql,some (.struct _) => match eqT P 6 t,compX x,compX y with
      | some n,some x,some y => if P.eqGuardType P.depth t then none else some (.eqG false n x y)
      | _,_,_ => none
    | .neq,some (.struct _) => match eqT P 6 t,compX x,compX y with
      | some n,some x,some y => if P.eqGuardType P.depth t then none else some (.eqG true n x y)
      | _,_,_ => none
    | .eql,_ | .neq,_ => none
    | .shl,_ | .shr,_ => none
    | op,_ => do some (.bin op (← compX x) (← compX y))
  | .unOp op _ x => match op with
    | .neg => (compX x).map .neg
    | .not => (compX x).map .not
    | _ => none
  | .convert src dst x => match P.underlying src,P.underlying dst with
    | some _,some (.int k) => (compX x).map (.conv k)
    | _,_ => none
  | .makeInterface t x => match P.underlying t with
    | some (.interface _) | none => none
    | _ => (compX x).map (.mki t)
  | .makeFunc fn xs ys => match fn with
    | .yield _ => none
    | fn => do some (.mkf fn (← compXs xs) (← compXs ys))
  | .field t x i => match P.underlying t with
    | some (.struct fs) => do
      let f ← fs[i]?
      some (.fld (← aggB P f.type) f.offset (← szOf P f.type) (← compX x))
    | _ => none
  | .index t x i => match P.underlying t with
    | some (.array n e) => do some (.idxA (← aggB P e) n (← szOf P e) (← compX x) (← compX i))
    | _ => none
  | .extract x i => do some (.ext (← compX x) i)
  | .fieldAddr t x i => match P.underlying t with
    | some (.struct fs) => do
      let f ← fs[i]?
      let n ← szOf P f.type
      if n = 0 then none else some (.fad f.offset (← compX x))
    | _ => none
  | .indexAddr t x i => match P.underlying t with
    | some (.array n e) => do some (.iadA n (← szOf P e) (← compX x) (← compX i))
    | some (.slice e) => do some (.iadS (← szOf P e) (← compX x) (← compX i))
    | _ => none
  | .slice t x lo hi mx => match mx,P.underlying t with
    | none,some (.slice e) => do some (.slcS (← szOf P e) (← compX x) (← compO lo) (← compO hi))
    | _,_ => none
  | .nilCheck x => (compX x).map .nilc
  | .call c => match c.callee with
    | .builtin b => match b with
      | .len => match c.argTypes[0]?.bind P.underlying,c.args[0]? with
        | some (.slice _),some x => (compX x).map .lenS
        | some .string,some x => (compX x).map .lenT
        | some (.array n _),some _ => some (.lenC n)
        | _,_ => none
      | .max => (compXs c.args).map .max
      | .min => (compXs c.args).map .min
      | _ => none
    | _ => none
  | _ => none
def compR (o : Oper) : Option ROp := match o.op with
  | .load t a => do
    match aggB P t with
    | some true => some (.ldn (← szOf P t) (← compX a))
    | some false => some (.ld1 (← compX a))
    | none => none
  | .lookup t m k ok => match P.underlying t with
    | some (.map key elem) => do some (.lkp (← eqT P 6 key) (← aggB P key) (← zeroV P elem) ok (← compX m) (← compX k))
    | _ => none
  | _ => none
def compA (o : Oper) : Option AOp := match o.op with
  | .alloc t => (zeroOf P t).map .new
  | .box _ x => (compX x).map .box
  | .buildSlice t n parts => match P.underlying t with
    | some (.slice e) => do
      let size ← szOf P e
      let z ← zeroOf P e
      if z.length != size || n * size > 65536 || n > 65536 then none else
      let ps ← parts.toList.mapM (compPart fun i => some (i * size,size))
      some (.bsl (rep n z) n ps)
    | _ => none
  | .makeSlice t l c => match P.underlying t with
    | some (.slice e) => do
      let size ← szOf P e
      let z ← zeroOf P e
      let bytes ← (P.info? e).map (·.bytes)
      if z.length != size || size = 0 then none else
      some (.mks z bytes (← compX l) (← compX c))
    | _ => none
  | .makeMap t none => match P.underlying t with
    | some (.map key _) => do some (.mkm (← eqT P 6 key) (← aggB P key))
    | _ => none
  | _ => none
def compW (o : Oper) : Option WOp := match o.op with
  | .store t a x => do some (.st (← szOf P t) (← compX a) (← compX x))
  | .mapUpdate t m k v => match P.underlying t with
    | some (.map key _) => do some (.mup (← eqT P 6 key) (← aggB P key) (← compX m) (← compX k) (← compX v))
    | _ => none
  | .call c => match c.callee,c.argTypes[0]?.bind P.underlying,c.argTypes[1]?.bind P.underlying,c.args[0]?,c.args[1]? with
    | .builtin .append,some (.slice e),some (.slice _),some x,some y => do
      let size ← szOf P e
      let z ← zeroOf P e
      let bytes ← (P.info? e).map (·.bytes)
      if z.length != size || size = 0 || bytes > 65536 || size > 65536 then none else
      some (.app size z (← compX x) (← compX y))
    | _,_,_,_,_ => none
  | _ => none
def compC0 (o : Oper) : Option IOp := match o.op with
  | .call { callee := .value f,args,.. } => do some (.call (← compX f) (← compXs args))
  | _ => match compP P o with
    | some p => some (.p p)
    | none => match compR P o with
      | some r => some (.r r)
      | none => match compA P o with
        | some a => some (.a a)
        | none => match compW P o with
          | some w => some (.w w)
          | none => none
def badOp : IOp := .r (.lenM (.v (.bool false)))
def compC1 (o : Oper) : Option IOp := match compC0 P o with
  | some i => some i
  | none => some badOp
def compG (ops : Array Oper) : Option (Nat × Bool) → Option (Option (Nat × Bool))
  | none => some none
  | some (j,b) => match (ops[j]?).bind (·.dst) with
    | some t => some (some (t,b))
    | none => none
def dstOk (nt : Nat) : Option Nat → Bool
  | none => true
  | some d => Nat.blt d nt && Nat.blt d limT
def compIO (nt : Nat) (ops : Array Oper) (o : Oper) : Option Ins := do
  if dstOk nt o.dst then some ⟨o.dst,← compC1 P o,← compG ops o.guard⟩ else none
def compOps (nt : Nat) (ops : Array Oper) : List Oper → Option (List Ins)
  | [] => some []
  | o :: l => match compIO P nt ops o with
    | none => none
    | some i => match compOps nt ops l with
      | none => none
      | some r => some (i :: r)
def optO : Option Opd → List Opd
  | none => []
  | some x => [x]
def psO : List (Nat × Nat × Opd) → List Opd
  | [] => []
  | (_,_,x) :: ps => x :: psO ps
def pO : POp → List Opd
  | .mov x => [x]
  | .pick c a b => [c,a,b]
  | .build _ ps => psO ps
  | .bin _ x y => [x,y]
  | .eqB _ x y => [x,y]
  | .eqG _ _ x y => [x,y]
  | .isNil _ x => [x]
  | .neg x => [x]
  | .not x => [x]
  | .conv _ x => [x]
  | .mki _ x => [x]
  | .mkf _ xs ys => xs ++ ys
  | .fld _ _ _ x => [x]
  | .idxA _ _ _ x i => [x,i]
  | .idxS x i => [x,i]
  | .ext x _ => [x]
  | .fad _ x => [x]
  | .iadS _ x i => [x,i]
  | .iadA _ _ x i => [x,i]
  | .slcS _ x lo hi => x :: (optO lo ++ optO hi)
  | .slcT x lo hi => x :: (optO lo ++ optO hi)
  | .slcA _ _ x lo hi => x :: (optO lo ++ optO hi)
  | .lenS x => [x]
  | .lenT x => [x]
  | .lenC _ => []
  | .max xs => xs
  | .min xs => xs
  | .nilc x => [x]
def rO : ROp → List Opd
  | .ld1 a => [a]
  | .ldn _ a => [a]
  | .lkp _ _ _ _ m k => [m,k]
  | .lenM m => [m]
def aO : AOp → List Opd
  | .new _ => []
  | .box x => [x]
  | .bsl _ _ ps => psO ps
  | .mks _ _ l c => [l,c]
  | .mkm _ _ => []
def wO : WOp → List Opd
  | .st _ a x => [a,x]
  | .mup _ _ m k v => [m,k,v]
  | .app _ _ s x => [s,x]
def iO : IOp → List Opd
  | .p o => pO o
  | .r o => rO o
  | .a o => aO o
  | .w o => wO o
  | .call f args => f :: args

def isC : IOp → Bool
  | .w _ => true
  | .call _ _ => true
  | _ => false
def isA : IOp → Bool
  | .a _ => true
  | _ => false
def inO (d : Nat) : List Opd → Bool
  | [] => false
  | .t n :: l => match Nat.beq d n with
    | true => true
    | false => inO d l
  | .v _ :: l => inO d l
def looks (o : Ins) : Option Nat → Bool
  | none => false
  | some d => match inO d (iO o.op) with
    | true => true
    | false => match o.grd with
      | some (t,_) => Nat.beq d t
      | none => false
def apartD : Option Nat → Option Nat → Bool
  | some a,some b => !Nat.beq a b
  | _,_ => true
def ok2 (i : Nat) (a b : Ins × Nat) : Bool := match apartD a.1.dst b.1.dst with
  | false => false
  | true => match Nat.testBit b.2 i with
    | true => true
    | false => match looks b.1 a.1.dst,looks a.1 b.1.dst,isC b.1.op with
      | false,false,false => true
      | false,false,true => !(isC a.1.op || isA a.1.op)
      | _,_,_ => false
def okD : Nat → List (Ins × Nat) → Bool
  | _,[] => true
  | i,a :: l => match Nat.blt a.2 (2 ^ i),l.all (ok2 i a) with
    | true,true => okD (Nat.succ i) l
    | _,_ => false
def csD : Nat → List (Ins × Nat) → List (Nat × Nat)
  | _,[] => []
  | i,a :: l => match isC a.1.op with
    | true => (i,a.2) :: csD (Nat.succ i) l
    | false => csD (Nat.succ i) l
def exempt (cs : List (Nat × Nat)) (p i m : Nat) : Bool := cs.any fun c => (Nat.ble p c.1 && Nat.testBit m c.1) || (Nat.blt c.1 p && Nat.testBit c.2 i)
def mkD (cs : List (Nat × Nat)) : Nat → List (Ins × Nat) → List DI
  | _,[] => []
  | i,a :: l => ⟨a.1,a.2,(0 :: cs.map fun c => Nat.succ c.1).filter fun p => !exempt cs p i a.2⟩ :: mkD cs (Nat.succ i) l
def drawI (l : List (Ins × Nat)) : Option (List DI) := match okD 0 l with
  | true => some (mkD (csD 0 l) 0 l)
  | false => none
def pm (p : List Nat) (i : Nat) : Nat := match p[i]? with
  | some j => j
  | none => i
def rmask (p : List Nat) (m : Nat) : Nat → Nat
  | 0 => 0
  | k + 1 => match Nat.testBit m (pm p k) with
    | true => Nat.lor (rmask p m k) (2 ^ k)
    | false => rmask p m k
def permL (l : List (Ins × Nat)) (p : List Nat) (n : Nat) : List Nat → Option (List (Ins × Nat))
  | [] => some []
  | j :: r => match l[j]? with
    | none => none
    | some a => match permL l p n r with
      | none => none
      | some s => some ((a.1,rmask p a.2 n) :: s)
def lateA : Nat → List (Ins × Nat) → List Nat → List Nat
  | _,[],pend => pend
  | i,a :: l,pend => match isA a.1.op with
    | true => lateA (Nat.succ i) l (pend ++ [i])
    | false => pend.filter (fun j => Nat.testBit a.2 j) ++ i :: lateA (Nat.succ i) l (pend.filter fun j => !Nat.testBit a.2 j)
def permOK (p q : List Nat) (n : Nat) : Bool := Nat.beq p.length n && Nat.beq q.length n && (List.range n).all fun i => Nat.beq (pm q (pm p i)) i && Nat.beq (pm p (pm q i)) i && Nat.blt (pm p i) n && Nat.blt (pm q i) n
def drawP (l : List (Ins × Nat)) : Option (List DI) := match lateA 0 l [] with
  | p => match (List.range l.length).map (fun i => p.findIdx (Nat.beq i)) with
    | q => match permOK p q l.length && l.all (fun a => Nat.blt a.2 (2 ^ l.length)),permL l p l.length p with
      | true,some l' => drawI l'
      | _,_ => none
def drawA (l : List (Ins × Nat)) : Option (List DI) := match drawI l with
  | some d => some d
  | none => drawP l
def comp (nt : Nat) : Code → Option IC
  | .skip => some .skip
  | .region _ ops draw => match compOps P nt ops ops.toList with
    | none => none
    | some l => if draw then (drawA (l.zip (CheckFast.beforeL ops.toList 0 []))).map .draw else some (.ops l)
  | .seq a b => match comp nt a,comp nt b with
    | some x,some y => some (.seq x y)
    | _,_ => none
  | .cond c a b => match compX c,comp nt a,comp nt b with
    | some c,some x,some y => some (.cond c x y)
    | _,_,_ => none
  | .block id a => match comp nt a with
    | some x => some (.block id x)
    | none => none
  | .loop a => match comp nt a with
    | some x => some (.loop x)
    | none => none
  | .rangeFunc f ps asg body => match compX f,comp nt asg,comp nt body with
    | some f,some x,some y => if ps.toList.all (Nat.blt · nt) then some (.rng f ps.toList x y) else none
    | _,_,_ => none
  | .exit id => some (.exit id)
  | .scope a => match comp nt a with
    | some x => some (.scope x)
    | none => none
  | .label _ => some .skip
  | .goto l => some (.goto l)
  | .ret => some .ret
  | .refuse _ => some (.ops [⟨none,badOp,none⟩])
def compRes : ResultVar → Option IRes
  | .tmp t => some (.t t)
  | .cell a t => match aggB P t,szOf P t with
    | some ag,some n => some (.c ag n a)
    | _,_ => none
def compF (f : FuncId) : Option FI := match P.funcs[f]? with
  | none => none
  | some fn => match fn.body with
    | none => none
    | some c => match comp P fn.ntmps c,fn.results.toList.mapM (compRes P) with
      | some ic,some rs => if fn.name == "runtime.NumGoroutine" || fn.ntmps > limT then none else some ⟨ic,fn.ntmps,rs⟩
      | _,_ => none
end

end Go.Sim
namespace Go.Sim
set_option linter.all false
open Go
variable [Rho] [Asm] [SymOK]

theorem konst_refl {ι : Io} : ∀ (d : Nat) (v : Value),konst d v = true → VR ι v v := by
  intro d
  induction d with
  | zero => intro v h; simp [konst] at h
  | succ d ih =>
    have hl : ∀ l : List Value,l.all (konst d) = true → LR ι l l := by
      intro l
      induction l with
      | nil => intro _; exact .nil
      | cons v l ihl => intro h; simp only [List.all_cons,Bool.and_eq_true] at h; exact .cons (ih v h.1) (ihl h.2)
    intro v h
    cases v with
    | bool b => exact .bool b
    | int k n => exact .int k n
    | float k n => exact .float k n
    | complex => simp [konst] at h
    | string s => exact .str s
    | pointer a => cases a with
      | none => exact .ptr0
      | some a => simp [konst] at h
    | slice a n k => cases a with
      | none => exact .sl0 n k (by simpa [konst,Nat.blt_eq] using h)
      | some a => simp [konst] at h
    | map r => cases r with
      | none => exact .map0
      | some r => simp [konst] at h
    | chan r => simp [konst] at h
    | func fn xs ys =>
      obtain ⟨xs⟩ := xs
      obtain ⟨ys⟩ := ys
      cases fn <;> first
        | (simp [konst] at h; done)
        | (have h' : (xs.all (konst d) && ys.all (konst d)) = true := h
           simp only [Bool.and_eq_true] at h'
           exact .func (fun _ e => by cases e) (hl _ h'.1) (hl _ h'.2))
    | nilFunc => exact .nilf
    | iface t v => exact .iface t (ih v h)
    | nilIface => exact .nili
    | agg cs => obtain ⟨l⟩ := cs; exact .agg (hl l h)
    | tuple cs => obtain ⟨l⟩ := cs; exact .tup (hl l h)

def TR (ι : Io) (T : Tm) (tmps : Array Value) : Prop := ∀ t,VR ι (tget T t) (tmps.getD t undef)
theorem TR.mono {ι ι' : Io} (h : Ext ι ι') {T : Tm} {tmps : Array Value} (hT : TR ι T tmps) : TR ι' T tmps := fun t => (hT t).mono h

section
variable {ι : Io}
theorem LR.length : ∀ {l l' : List Value},LR ι l l' → l.length = l'.length
  | _,_,.nil => rfl
  | _,_,.cons _ h => by simp [h.length]
theorem len_eq : ∀ l : List Value,len l = l.length
  | [] => rfl
  | _ :: l => by simp [len,len_eq l]
theorem app_eq : ∀ l m : List Value,app l m = l ++ m
  | [],_ => rfl
  | v :: l,m => by simp [app,app_eq l m]
theorem LR.append : ∀ {l l' m m' : List Value},LR ι l l' → LR ι m m' → LR ι (l ++ m) (l' ++ m')
  | _,_,_,_,.nil,h => h
  | _,_,_,_,.cons hv hl,h => .cons hv (hl.append h)
theorem LR.nth {l' tl : List Value} : ∀ {l : List Value} {i : Nat} {v : Value},LR ι l l' → nth l i = some v → ∃ v',(l' ++ tl)[i]? = some v' ∧ VR ι v v' := by
  intro l
  induction l generalizing l' with
  | nil => intro i v h e; simp [Sim.nth] at e
  | cons x l ih =>
    intro i v h e
    cases h with
    | cons hv hl =>
      cases i with
      | zero => simp only [Sim.nth,Option.some.injEq] at e; subst e; exact ⟨_,rfl,hv⟩
      | succ i => simp only [Sim.nth] at e; simpa using ih hl e
theorem LR.sub {tl : List Value} : ∀ {l l' : List Value} {off n : Nat} {r : List Value},LR ι l l' → sub l off n = some r →
    ∃ r',LR ι r r' ∧ r'.length = n ∧ ((l' ++ tl).drop off).take n = r' ∧ off + n ≤ l'.length := by
  intro l l' off
  induction off generalizing l l' with
  | zero =>
    intro n
    induction n generalizing l l' with
    | zero => intro r h e; simp [Sim.sub] at e; subst e; exact ⟨[],.nil,rfl,by simp,by simp⟩
    | succ n ih =>
      intro r h e
      cases h with
      | nil => simp [Sim.sub] at e
      | cons hv hl =>
        rename_i v v' l l'
        simp only [Sim.sub] at e
        cases e1 : Sim.sub l 0 n with
        | none => rw [e1] at e; cases e
        | some r0 =>
          rw [e1] at e
          cases e
          obtain ⟨r',h1,h2,h3,h4⟩ := ih hl e1
          exact ⟨v' :: r',.cons hv h1,by simp [h2],by simpa using h3,by simp; omega⟩
  | succ off ih =>
    intro n r h e
    cases h with
    | nil => simp [Sim.sub] at e
    | cons hv hl =>
      simp only [Sim.sub] at e
      obtain ⟨r',h1,h2,h3,h4⟩ := ih hl e
      exact ⟨r',h1,h2,by simpa using h3,by simp; omega⟩
theorem LR.over {tl : List Value} : ∀ {l l' : List Value} {off : Nat} {xs xs' r : List Value},LR ι l l' → LR ι xs xs' → over l off xs = some r →
    off + xs'.length ≤ l'.length ∧ ∃ r',LR ι r r' ∧ r'.length = l'.length ∧ (l' ++ tl).take off ++ xs' ++ (l' ++ tl).drop (off + xs'.length) = r' ++ tl := by
  intro l l' off
  induction off generalizing l l' with
  | zero =>
    intro xs
    induction xs generalizing l l' with
    | nil =>
      intro xs' r h hx e
      cases hx
      simp only [Sim.over,Option.some.injEq] at e
      subst e
      exact ⟨by simp,l',h,rfl,by simp⟩
    | cons x xs ih =>
      intro xs' r h hx e
      cases hx with
      | cons hx0 hx =>
        rename_i x' xs'
        cases h with
        | nil => simp [Sim.over] at e
        | cons hv hl =>
          rename_i v v' l l'
          simp only [Sim.over] at e
          cases e1 : Sim.over l 0 xs with
          | none => rw [e1] at e; cases e
          | some r0 =>
            rw [e1] at e
            cases e
            obtain ⟨h0,r',h1,h2,h3⟩ := ih hl hx e1
            refine ⟨by simp at h0 ⊢; omega,x' :: r',.cons hx0 h1,by simp [h2],?_⟩
            simpa using h3
  | succ off ih =>
    intro xs xs' r h hx e
    cases h with
    | nil => simp [Sim.over] at e
    | cons hv hl =>
      rename_i v v' l l'
      simp only [Sim.over] at e
      cases e1 : Sim.over l off xs with
      | none => rw [e1] at e; cases e
      | some r0 =>
        rw [e1] at e
        cases e
        obtain ⟨h0,r',h1,h2,h3⟩ := ih hl hx e1
        refine ⟨by simp; omega,v' :: r',.cons hv h1,by simp [h2],?_⟩
        have : off + 1 + xs'.length = off + xs'.length + 1 := by omega
        rw [this]
        simpa using h3
theorem VR.one {v v' : Value} (h : VR ι v v') : one v = Value.oneCell' v' := by
  cases h <;> first
    | rfl
    | (rename_i hs; cases v' <;> first | rfl | cases hs)
theorem LR.ones : ∀ {l l' : List Value},LR ι l l' → Sim.ones l = true → l'.all (·.oneCell') = true
  | _,_,.nil,_ => rfl
  | _,_,.cons hv hl,h => by
    rename_i v v' l l'
    simp only [Sim.ones] at h
    cases h1 : one v with
    | false => rw [h1] at h; cases h
    | true =>
      rw [h1] at h
      simp only [List.all_cons,Bool.and_eq_true]
      exact ⟨by rw [← hv.one]; exact h1,hl.ones h⟩
theorem VR.cells {v v' : Value} (h : VR ι v v') : LR ι (cellsOf v) v'.cells.toList := by
  cases h <;> first
    | (rename_i hs; cases v' <;> first
        | (cases hs; done)
        | (refine .cons ?_ .nil; exact .unk hs)
        | (refine .cons ?_ .nil; exact .opq ‹_› hs))
    | assumption
    | (refine .cons ?_ .nil; constructor <;> assumption)
    | (refine .cons ?_ .nil; constructor)
end
end Go.Sim
namespace Go.Sim
set_option linter.all false
open Go
variable [Rho] [Asm]

theorem kindB_eq {k l : IntKind} (h : kindB k l = true) : k = l := by cases k <;> cases l <;> first | rfl | (simp [kindB] at h)
theorem eqI_same {x y : Int} (h : eqI x y = true) : x = y := by
  unfold eqI at h
  cases x <;> cases y <;> simp_all [Nat.beq_eq]
theorem symK_ok {ι : Io} {v v' : Value} {k : IntKind} (h : symK v = some k) (hv : VR ι v v') : ∃ n,v' = .int k n ∧ Den v k n := by
  unfold symK at h
  split at h
  · cases h; cases hv; exact ⟨_,rfl,.lit _ _⟩
  · split at h
    · rename_i ht
      cases h
      cases hv with
      | func hn => exact absurd rfl (hn _)
      | sym hd =>
        have hk := hd
        cases hd <;> exact ⟨_,rfl,hk⟩
      | symB hd => cases hd <;> cases ht
    · cases h
  · cases h
theorem symBv_ok {ι : Io} {v v' : Value} (h : symBv v = true) (hv : VR ι v v') : ∃ b,v' = .bool b ∧ DenB v b := by
  unfold symBv at h
  split at h
  · cases hv; exact ⟨_,rfl,.lit _⟩
  · split at h
    · rename_i h20
      cases hv with
      | func hn => exact absurd rfl (hn _)
      | sym hd => cases hd <;> cases h20
      | symB hd => exact ⟨_,rfl,hd⟩
      | unk _ => cases h
      | opq _ _ => cases h
    · cases h
  · cases h
theorem seq_ok : ∀ (n : Nat) (v w : Value),seq n v w = true → v = w := by
  intro n
  induction n with
  | zero => intro v w h; simp [seq] at h
  | succ n ih =>
    intro v w h
    unfold seq at h
    split at h
    · split at h
      · rename_i hk; rw [kindB_eq hk,eqI_same h]
      · cases h
    · rfl
    · rfl
    · rfl
    · split at h
      · rename_i h1 h2
        have e1 := Nat.eq_of_beq_eq_true h1
        have e2 := ih _ _ h2
        subst e1 e2
        split at h
        · rfl
        · rw [ih _ _ h]
        · split at h
          · rename_i h3; rw [ih _ _ h3,ih _ _ h]
          · cases h
        · cases h
      · cases h
    · cases h
theorem lookA_ok {v : Value} : ∀ {l : List (Value × Bool)} {b : Bool},lookA v l = some b → (v,b) ∈ l
  | [],b,h => by cases h
  | (u,c) :: l,b,h => by
    simp only [lookA] at h
    split at h
    · rename_i hs
      cases h
      rw [seq_ok _ _ _ hs]
      exact List.mem_cons_self
    · exact List.mem_cons_of_mem _ (lookA_ok h)
variable [SymOK]
theorem dec_ok {ι : Io} {t : Nat} {a : Value} {l : List Value} {b : Bool} (h : DenB (nd t a l) b) : VR ι (dec (nd t a l)) (.bool b) := by
  unfold dec
  split
  · rename_i c hc
    rw [SymOK.ok _ (lookA_ok hc) b h]
    exact .bool _
  · exact .symB h
theorem decNot_ok {ι : Io} {t : Nat} {a : Value} {l : List Value} {b : Bool} (h : DenB (nd t a l) b) : VR ι (notV (dec (nd t a l))) (.bool (!b)) := by
  unfold dec
  split
  · rename_i c hc
    rw [SymOK.ok _ (lookA_ok hc) b h]
    exact .bool _
  · exact .symB (.not h)
theorem symL_real {ι : Io} : ∀ {l m l' m' : List Value} {b : Bool},symL l m = some b → LR ι l l' → LR ι m m' → sameL l' m' = some b
  | [],[],_,_,b,h,.nil,.nil => h
  | [],_ :: _,_,_,_,h,_,_ => by simp [symL] at h
  | _ :: _,[],_,_,_,h,_,_ => by simp [symL] at h
  | x :: l,y :: m,_,_,b,h,.cons (v' := x') hx hl,.cons (v' := y') hy hm => by
    simp only [symL] at h
    split at h
    · rename_i k k' hk hk'
      obtain ⟨p,rfl,dp⟩ := symK_ok hk hx
      obtain ⟨q,rfl,dq⟩ := symK_ok hk' hy
      have key : kindB k k' = true → ∀ c,(match same1 x y with
          | some b => Value.bool b
          | none => dec (nd 20 x [y])) = .bool c → same1 (.int k p) (.int k' q) = some c := fun hkk c hc => by
        have hkk' := kindB_eq hkk
        subst hkk'
        simp only [same1,hkk]
        have hden : DenB (nd 20 x [y]) (p == q) := .eq dp dq
        split at hc
        · rename_i b0 h0
          cases hc
          unfold same1 at h0
          split at h0
          · cases dp; cases dq; simpa [hkk] using h0
          · cases h0
        · have := dec_ok (ι := ι) hden
          rw [hc] at this
          cases this
          congr 1
          unfold eqI
          cases p <;> cases q <;> rw [Bool.eq_iff_iff] <;> simp [Nat.beq_eq] <;> omega
      split at h
      · rename_i h1 h2
        simp only [sameL,key h1 _ h2]
        exact symL_real h hl hm
      · rename_i h1 h2
        simp only [sameL,key h1 _ h2]
        exact h
      · cases h
    · cases h
end Go.Sim
namespace Go.Sim
set_option linter.all false
open Go
variable [Rho] [Asm] [SymOK]

section
variable {P : Program} {ι : Io} {T : Tm} {a : Act}

theorem compX_ok {x : Operand} {y : Opd} (h : compX x = some y) (hT : TR ι T a.tmps) : VR ι (oev T y) (a.eval x) := by
  cases x with
  | tmp t => simp only [compX,Option.some.injEq] at h; subst h; exact hT t
  | const v =>
    simp only [compX] at h
    split at h
    · cases h; exact konst_refl _ _ (by assumption)
    · cases h
  | func f => simp only [compX,Option.some.injEq] at h; subst h; exact .func (fun _ e => by cases e) .nil .nil
  | global g => simp [compX] at h

theorem mapX_ok (hT : TR ι T a.tmps) : ∀ {xs : List Operand} {ys : List Opd},xs.mapM compX = some ys → LR ι (oevs T ys) (xs.map a.eval) := by
  intro xs
  induction xs with
  | nil => intro ys h; simp at h; subst h; exact .nil
  | cons x xs ih =>
    intro ys h
    simp only [List.mapM_cons,bind,Option.bind] at h
    cases h1 : compX x with
    | none => rw [h1] at h; cases h
    | some y =>
      rw [h1] at h
      simp only at h
      cases h2 : xs.mapM compX with
      | none => rw [h2] at h; cases h
      | some r =>
        rw [h2] at h
        cases h
        exact .cons (compX_ok h1 hT) (ih h2)
theorem compXs_ok {xs : Array Operand} {ys : List Opd} (h : compXs xs = some ys) (hT : TR ι T a.tmps) : LR ι (oevs T ys) (xs.map a.eval).toList := by
  rw [Array.toList_map]; exact mapX_ok hT h

def Yields (P : Program) (ι : Io) (a : Act) (o : Oper) (v : Value) : Prop := ∃ v',VR ι v v' ∧ ∀ w,(execOp a.eval o).run P w = .ok (.value v') w

theorem run_und {t : TypeId} {d : TypeDesc} (h : P.underlying t = some d) (w : World) : (Go.underlying t).run P w = .ok d w := by
  simp [Go.underlying,h]
theorem run_info {t : TypeId} {i : TypeInfo} (h : P.info? t = some i) (w : World) : (Go.typeInfo t).run P w = .ok i w := by
  simp [Go.typeInfo,h]
theorem run_sz {t : TypeId} {n : Nat} (h : szOf P t = some n) (w : World) : (Go.sizeOf t).run P w = .ok n w := by
  unfold szOf at h
  cases hi : P.info? t with
  | none => rw [hi] at h; cases h
  | some i => rw [hi] at h; cases h; simp [Go.sizeOf,run_info hi]
theorem run_agg {t : TypeId} {b : Bool} (h : aggB P t = some b) (w : World) : (Go.isAgg t).run P w = .ok b w := by
  unfold aggB at h
  cases hu : P.underlying t with
  | none => rw [hu] at h; cases h
  | some d =>
    rw [hu] at h
    cases d <;> cases h <;> simp [Go.isAgg,run_und hu]
theorem run_zeroV {t : TypeId} {v : Value} (h : zeroV P t = some v) (w : World) : (Go.zeroValue t).run P w = .ok v w := by
  unfold zeroV at h
  cases hi : P.info? t with
  | none => rw [hi] at h; cases h
  | some i =>
    rw [hi] at h
    cases hz : i.zero with
    | none => simp [hz] at h
    | some z =>
      simp only [Option.bind_some,hz] at h
      split at h
      · cases h; simp [Go.zeroValue,run_info hi,hz]
      · cases h
theorem zeroV_konst {t : TypeId} {v : Value} (h : zeroV P t = some v) : VR ι v v := by
  unfold zeroV at h
  split at h
  · split at h
    · cases h; exact konst_refl _ _ (by assumption)
    · cases h
  · cases h

theorem place_inv {v v' : Value} {n : Nat} (h : place v = some n) (hv : VR ι v v') : ∃ k,v' = .int k (n : Int) := by
  unfold place at h
  split at h
  · cases h; cases hv; exact ⟨_,rfl⟩
  · cases h
theorem ltI_eq (x y : Int) : ltI x y = decide (x < y) := by
  unfold ltI
  cases x <;> cases y <;> simp only [] <;> rw [Bool.eq_iff_iff] <;> simp [Nat.blt_eq] <;> omega
theorem leI_eq (x y : Int) : (!decide (y < x)) = decide (x ≤ y) := by
  rw [Bool.eq_iff_iff]; simp
theorem eqI_eq (x y : Int) : eqI x y = (x == y) := by
  unfold eqI
  cases x <;> cases y <;> rw [Bool.eq_iff_iff] <;> simp [Nat.beq_eq] <;> omega
theorem fits_ok {x : Int} (h : fits x = true) : -9223372036854775808 ≤ x ∧ x < 9223372036854775808 := by
  unfold fits at h
  cases x with
  | ofNat n => simp [Nat.blt_eq] at h; have : (Int.ofNat n) = (n : Int) := rfl; omega
  | negSucc n => simp [Nat.blt_eq] at h; omega
theorem wrapF_eq (k : IntKind) (n : Int) : wrapF k n = k.wrap n := by
  unfold wrapF
  cases k <;> try rfl
  simp only []
  split
  · rename_i h
    have := fits_ok h
    exact (IntWalk.i64_in n (by omega)).symm
  · rfl

theorem binI_run {op : BinOp} {k : IntKind} {x y : Int} {v : Value} (h : binI op k x y = some v) (t : TypeId) (w : World) : (binOp op t (.int k x) (.int k y)).run P w = .ok v w ∧ VR ι v v := by
  cases op <;> simp only [binI] at h <;> first
    | (cases h; done)
    | (cases h; refine ⟨?_,by constructor⟩; simp [binOp,Op.intArith,wrapF_eq]; done)
    | (cases h; refine ⟨?_,by constructor⟩; simp [binOp,Op.intArith,wrapF_eq]; rfl)
    | (cases h; refine ⟨?_,by constructor⟩; simp [binOp,Op.intCmp,eqI_eq,ltI_eq,leI_eq,bne]; done)
    | (cases h; refine ⟨?_,by constructor⟩; simp [binOp,Op.intCmp,eqI_eq,ltI_eq,bne]; rw [← leI_eq]; done)
    | skip
  · split at h
    · cases h
    · rename_i h0
      rw [eqI_eq] at h0
      cases h
      have h0' : y ≠ 0 := by simpa using h0
      exact ⟨by simp [binOp,Op.intDiv,h0',wrapF_eq],by constructor⟩
  · split at h
    · cases h
    · rename_i h0
      rw [eqI_eq] at h0
      cases h
      have h0' : y ≠ 0 := by simpa using h0
      exact ⟨by simp [binOp,Op.intDiv,h0'],by constructor⟩

theorem same1_ok {v u v' u' : Value} {b : Bool} (h : same1 v u = some b) (hv : VR ι v v') (hu : VR ι u u') : v' = v ∧ u' = u := by
  unfold same1 at h
  split at h
  · cases hv; cases hu; exact ⟨rfl,rfl⟩
  · cases h

theorem maxL_ok : ∀ {l : List Value} {v r : Value},maxL v l = some r → ∀ {l' : List Value},LR ι l l' → (∀ w,(l'.foldlM Builtin.max2 v : Sem Value).run P w = .ok r w) ∧ ((∃ k n,v = .int k n) → VR ι r r) := by
  intro l
  induction l with
  | nil =>
    intro v r h l' hl
    cases hl
    simp only [maxL,Option.some.injEq] at h
    subst h
    exact ⟨fun w => by simp,fun ⟨k,n,e⟩ => by subst e; exact .int k n⟩
  | cons x l ih =>
    intro v r h l' hl
    cases hl with
    | cons hx hl =>
      simp only [maxL] at h
      split at h
      · rename_i k p k2 q
        cases hx
        split at h <;> rename_i hlt
        · obtain ⟨h1,h2⟩ := ih h hl
          rw [ltI_eq] at hlt
          have hlt' : p < q := by simpa using hlt
          refine ⟨fun w => ?_,fun _ => h2 ⟨_,_,rfl⟩⟩
          simp only [List.foldlM_cons,Builtin.max2,Sem.run_bind,Sem.run_pure,Result.andThen_ok]
          rw [if_pos (show q > p from hlt')]
          exact h1 w
        · obtain ⟨h1,h2⟩ := ih h hl
          rw [ltI_eq] at hlt
          have hlt' : ¬ p < q := by simpa using hlt
          refine ⟨fun w => ?_,fun _ => h2 ⟨_,_,rfl⟩⟩
          simp only [List.foldlM_cons,Builtin.max2,Sem.run_bind,Sem.run_pure,Result.andThen_ok]
          rw [if_neg (show ¬ q > p from hlt')]
          exact h1 w
      · cases h
theorem minL_ok : ∀ {l : List Value} {v r : Value},minL v l = some r → ∀ {l' : List Value},LR ι l l' → (∀ w,(l'.foldlM Builtin.min2 v : Sem Value).run P w = .ok r w) ∧ ((∃ k n,v = .int k n) → VR ι r r) := by
  intro l
  induction l with
  | nil =>
    intro v r h l' hl
    cases hl
    simp only [minL,Option.some.injEq] at h
    subst h
    exact ⟨fun w => by simp,fun ⟨k,n,e⟩ => by subst e; exact .int k n⟩
  | cons x l ih =>
    intro v r h l' hl
    cases hl with
    | cons hx hl =>
      simp only [minL] at h
      split at h
      · rename_i k p k2 q
        cases hx
        split at h <;> rename_i hlt
        · obtain ⟨h1,h2⟩ := ih h hl
          rw [ltI_eq] at hlt
          have hlt' : q < p := by simpa using hlt
          refine ⟨fun w => ?_,fun _ => h2 ⟨_,_,rfl⟩⟩
          simp only [List.foldlM_cons,Builtin.min2,Sem.run_bind,Sem.run_pure,Result.andThen_ok]
          rw [if_pos hlt']
          exact h1 w
        · obtain ⟨h1,h2⟩ := ih h hl
          rw [ltI_eq] at hlt
          have hlt' : ¬ q < p := by simpa using hlt
          refine ⟨fun w => ?_,fun _ => h2 ⟨_,_,rfl⟩⟩
          simp only [List.foldlM_cons,Builtin.min2,Sem.run_bind,Sem.run_pure,Result.andThen_ok]
          rw [if_neg hlt']
          exact h1 w
      · cases h

theorem maxS_ok {k : IntKind} : ∀ {l : List Value} {v r : Value} {p : Int},maxS k v l = some r → Den v k p → ∀ {l' : List Value},LR ι l l' → ∃ n,Den r k n ∧ ∀ w,(l'.foldlM Builtin.max2 (.int k p) : Sem Value).run P w = .ok (.int k n) w := by
  intro l
  induction l with
  | nil =>
    intro v r p h hd l' hl
    cases hl
    simp only [maxS,Option.some.injEq] at h
    subst h
    exact ⟨p,hd,fun w => by simp⟩
  | cons x l ih =>
    intro v r p h hd l' hl
    cases hl with
    | cons hx hl =>
      simp only [maxS] at h
      split at h
      · rename_i k' hk
        split at h
        · rename_i hkk
          have hkk := kindB_eq hkk
          subst hkk
          obtain ⟨q,rfl,dq⟩ := symK_ok hk hx
          obtain ⟨n,hn,hr⟩ := ih h (.max hd dq) hl
          refine ⟨n,hn,fun w => ?_⟩
          rw [← hr w]
          simp only [List.foldlM_cons,Builtin.max2,Sem.run_bind,Sem.run_pure,Result.andThen_ok]
        · cases h
      · cases h
theorem minS_ok {k : IntKind} : ∀ {l : List Value} {v r : Value} {p : Int},minS k v l = some r → Den v k p → ∀ {l' : List Value},LR ι l l' → ∃ n,Den r k n ∧ ∀ w,(l'.foldlM Builtin.min2 (.int k p) : Sem Value).run P w = .ok (.int k n) w := by
  intro l
  induction l with
  | nil =>
    intro v r p h hd l' hl
    cases hl
    simp only [minS,Option.some.injEq] at h
    subst h
    exact ⟨p,hd,fun w => by simp⟩
  | cons x l ih =>
    intro v r p h hd l' hl
    cases hl with
    | cons hx hl =>
      simp only [minS] at h
      split at h
      · rename_i k' hk
        split at h
        · rename_i hkk
          have hkk := kindB_eq hkk
          subst hkk
          obtain ⟨q,rfl,dq⟩ := symK_ok hk hx
          obtain ⟨n,hn,hr⟩ := ih h (.min hd dq) hl
          refine ⟨n,hn,fun w => ?_⟩
          rw [← hr w]
          simp only [List.foldlM_cons,Builtin.min2,Sem.run_bind,Sem.run_pure,Result.andThen_ok]
        · cases h
      · cases h
theorem den_VR {v : Value} {k : IntKind} {n : Int} (h : Den v k n) : VR ι v (.int k n) := by
  cases h with
  | lit => exact .int _ _
  | _ => exact .sym (by constructor <;> assumption)

theorem fill_step {cells : Array Value} {off : Nat} {cs : Array Value} (h : off + cs.size ≤ cells.size) :
    (cs.zipIdx.foldl (fun acc (c,j) => acc.setIfInBounds (off + j) c) cells).toList = cells.toList.take off ++ cs.toList ++ cells.toList.drop (off + cs.size) := by
  obtain ⟨cs⟩ := cs
  obtain ⟨cells⟩ := cells
  simp only [List.size_toArray] at h
  have key : ∀ (l : List Value) (i : Nat) (z : List Value),off + i + l.length ≤ z.length →
      ((l.zipIdx i).foldl (fun (acc : Array Value) (p : Value × Nat) => acc.setIfInBounds (off + p.2) p.1) z.toArray).toList = z.take (off + i) ++ l ++ z.drop (off + i + l.length) := by
    intro l
    induction l with
    | nil => intro i z _; simp
    | cons x l ih =>
      intro i z hz
      simp only [List.length_cons] at hz
      simp only [List.zipIdx_cons,List.foldl_cons,List.setIfInBounds_toArray]
      rw [ih (i + 1) (z.set (off + i) x) (by simp; omega)]
      have e1 : (z.set (off + i) x).take (off + (i + 1)) = z.take (off + i) ++ [x] := by
        rw [List.take_set,show off + (i + 1) = off + i + 1 from by omega,List.take_succ_eq_append_getElem (by omega)]
        rw [List.set_append_right _ _ (by simp; exact Nat.min_le_left _ _)]
        simp
        rw [Nat.min_eq_left (by omega),Nat.sub_self]
        rfl
      have e2 : (z.set (off + i) x).drop (off + (i + 1) + l.length) = z.drop (off + i + (l.length + 1)) := by
        rw [List.drop_set_of_lt (by omega)]
        congr 1
        omega
      rw [e1,e2]
      simp
  have := key cs 0 cells (by simpa using h)
  simpa using this

theorem lay_ok {pl : Nat → Option (Nat × Nat)} (hT : TR ι T a.tmps) : ∀ {l : List (Nat × Operand)} {ps : List (Nat × Nat × Opd)} {z z' r : List Value},l.mapM (compPart pl) = some ps → lay T z ps = some r → LR ι z z' →
    ∃ r',Instr.fill pl z'.toArray (l.map fun p => (p.1,a.eval p.2)) = some r'.toArray ∧ LR ι r r' := by
  intro l
  induction l with
  | nil =>
    intro ps z z' r hc h hz
    simp at hc
    subst hc
    simp only [lay,Option.some.injEq] at h
    subst h
    exact ⟨z',rfl,hz⟩
  | cons p l ih =>
    intro ps z z' r hc h hz
    obtain ⟨i,x⟩ := p
    simp only [List.mapM_cons,bind,Option.bind] at hc
    cases h1 : compPart pl (i,x) with
    | none => rw [h1] at hc; cases hc
    | some q =>
      rw [h1] at hc
      simp only at hc
      cases h2 : l.mapM (compPart pl) with
      | none => rw [h2] at hc; cases hc
      | some qs =>
        rw [h2] at hc
        cases hc
        unfold compPart at h1
        simp only at h1
        cases hp : pl i with
        | none => rw [hp] at h1; cases h1
        | some on =>
          obtain ⟨off,n⟩ := on
          rw [hp] at h1
          cases hx : compX x with
          | none => rw [hx] at h1; cases h1
          | some y =>
            rw [hx] at h1
            cases h1
            simp only [lay] at h
            have hv := compX_ok hx hT
            have hcs := hv.cells
            cases hb : Nat.beq (len (cellsOf (oev T y))) n with
            | false => rw [hb] at h; cases h
            | true =>
              rw [hb] at h
              simp only at h
              cases ho : over z off (cellsOf (oev T y)) with
              | none => rw [ho] at h; cases h
              | some z1 =>
                rw [ho] at h
                simp only at h
                have hn : (a.eval x).cells.size = n := by
                  have e1 := Nat.eq_of_beq_eq_true hb
                  rw [len_eq,hcs.length] at e1
                  simpa using e1
                obtain ⟨h0,r1,hr1,hl1,he1⟩ := LR.over (tl := []) hz hcs ho
                obtain ⟨r',hf,hr'⟩ := ih h2 h hr1
                refine ⟨r',?_,hr'⟩
                simp only [List.map_cons,Instr.fill,hp]
                have hle : off + (a.eval x).cells.size ≤ z'.length := by simpa using h0
                rw [if_neg (by simp [hn]; omega)]
                have e3 := fill_step (cells := z'.toArray) (off := off) (cs := (a.eval x).cells) (by simpa using hle)
                have e4 : (Array.foldl (fun cs x_1 => cs.setIfInBounds (off + x_1.snd) x_1.fst) z'.toArray (a.eval x).cells.zipIdx) = r1.toArray := by
                  apply Array.ext'
                  rw [e3]
                  simpa using he1
                rw [← hf]
                congr 1

theorem run_places : ∀ {fs : List Field} {pl : List (Nat × Nat)},fs.mapM (fun f => match szOf P f.type with
        | some n => some (f.offset,n)
        | none => none) = some pl → ∀ w,(fs.mapM (fun f => (do pure (f.offset,← sizeOf f.type) : Sem (Nat × Nat)))).run P w = .ok pl w := by
  intro fs
  induction fs with
  | nil => intro pl h w; simp at h; subst h; simp
  | cons f fs ih =>
    intro pl h w
    simp only [List.mapM_cons,bind,Option.bind] at h
    cases h1 : szOf P f.type with
    | none => rw [h1] at h; cases h
    | some n =>
      rw [h1] at h
      simp only at h
      split at h
      · cases h
      · rename_i r h2
        cases h
        simp only [List.mapM_cons,Sem.run_bind,run_sz h1,Result.andThen_ok,Sem.run_pure]
        rw [ih h2]
        rfl

theorem cut_ok {l top top' m h : Nat} {lo hi : Option Operand} {lo' hi' : Option Opd} (hT : TR ι T a.tmps) (hlo : compO lo = some lo') (hhi : compO hi = some hi') (hc : cut T l top lo' hi' = some (m,h)) (ht : top ≤ top') (w : World) :
    (Instr.sliceBounds true l top' (lo.map a.eval) (hi.map a.eval) none).run P w = .ok (m,h,top') w ∧ m ≤ h ∧ (h ≤ top ∨ h = l) := by
  have hh : ∀ h0,cutHi T l top hi' = some h0 → (match hi.map a.eval,(none : Option Value) with
        | some v,some _ => Instr.sliceBound v top' .slice3B
        | some v,none => Instr.sliceBound v top' .sliceAcap
        | none,none => (pure l : Sem Nat)
        | none,some _ => stuck "Slice: max without high").run P w = .ok h0 w ∧ (h0 ≤ top ∨ h0 = l) := by
    intro h0 e0
    cases hi with
    | none =>
      simp only [compO,Option.some.injEq] at hhi
      subst hhi
      cases e0
      exact ⟨rfl,.inr rfl⟩
    | some x =>
      simp only [compO] at hhi
      cases hx : compX x with
      | none => rw [hx] at hhi; cases hhi
      | some y =>
        rw [hx] at hhi
        cases hhi
        simp only [cutHi] at e0
        cases hp : place (oev T y) with
        | none => rw [hp] at e0; cases e0
        | some h1 =>
          rw [hp] at e0
          simp only at e0
          cases hb : Nat.ble h1 top with
          | false => rw [hb] at e0; cases e0
          | true =>
            rw [hb] at e0
            cases e0
            have hle : h0 ≤ top := Nat.le_of_ble_eq_true hb
            obtain ⟨k,hk⟩ := place_inv hp (compX_ok hx hT)
            refine ⟨?_,.inl hle⟩
            simp only [Option.map_some,hk,Instr.sliceBound,asIntOf,Sem.run_bind,Sem.run_pure,Result.andThen_ok]
            rw [if_pos ⟨by omega,by omega⟩]
            rfl
  have hl : ∀ h0 m0,cutLo T h0 lo' = some m0 → (match lo.map a.eval with
      | some v => Instr.sliceBound v h0 (if (none : Option Value).isSome then .slice3C else .sliceB)
      | none => (pure 0 : Sem Nat)).run P w = .ok m0 w ∧ m0 ≤ h0 := by
    intro h0 m0 e0
    cases lo with
    | none =>
      simp only [compO,Option.some.injEq] at hlo
      subst hlo
      cases e0
      exact ⟨rfl,Nat.zero_le _⟩
    | some x =>
      simp only [compO] at hlo
      cases hx : compX x with
      | none => rw [hx] at hlo; cases hlo
      | some y =>
        rw [hx] at hlo
        cases hlo
        simp only [cutLo] at e0
        cases hp : place (oev T y) with
        | none => rw [hp] at e0; cases e0
        | some h1 =>
          rw [hp] at e0
          simp only at e0
          cases hb : Nat.ble h1 h0 with
          | false => rw [hb] at e0; cases e0
          | true =>
            rw [hb] at e0
            cases e0
            have hle : m0 ≤ h0 := Nat.le_of_ble_eq_true hb
            obtain ⟨k,hk⟩ := place_inv hp (compX_ok hx hT)
            refine ⟨?_,hle⟩
            simp only [Option.map_some,hk,Instr.sliceBound,asIntOf,Sem.run_bind,Sem.run_pure,Result.andThen_ok]
            rw [if_pos ⟨by omega,by omega⟩]
            rfl
  unfold cut at hc
  cases e1 : cutHi T l top hi' with
  | none => rw [e1] at hc; cases hc
  | some h0 =>
    rw [e1] at hc
    simp only at hc
    cases e2 : cutLo T h0 lo' with
    | none => rw [e2] at hc; cases hc
    | some m0 =>
      rw [e2] at hc
      cases hc
      obtain ⟨r1,hb⟩ := hh _ e1
      obtain ⟨r2,hle⟩ := hl _ _ e2
      refine ⟨?_,hle,hb⟩
      cases hi <;> cases lo <;> simp only [Option.map_none,Option.map_some,Sem.run_pure,Result.ok.injEq] at r1 r2 ⊢ <;> simp_all [Instr.sliceBounds]

theorem part_ok {ag : Bool} {t : TypeId} {size off : Nat} {l l' : List Value} {v : Value} (hag : aggB P t = some ag) (hsz : szOf P t = some size) (hl : LR ι l l')
    (he : partL ag l off size = some v) : ∃ v',VR ι v v' ∧ ∀ w,(part t ⟨l'⟩ off).run P w = .ok v' w := by
  cases ag with
  | true =>
    simp only [partL] at he
    cases hs : sub l off size with
    | none => rw [hs] at he; cases he
    | some r =>
      rw [hs] at he
      cases he
      obtain ⟨r',h1,h2,h3,h4⟩ := LR.sub (tl := []) hl hs
      refine ⟨.agg ⟨r'⟩,.agg h1,fun w => ?_⟩
      simp only [part,Sem.run_bind,run_agg hag,Result.andThen_ok,if_true,run_sz hsz,Sem.run_pure]
      congr 2
      apply Array.ext'
      simp only [List.append_nil] at h3
      simp [← h3,List.extract_toArray,List.extract_eq_take_drop]
  | false =>
    simp only [partL] at he
    obtain ⟨v',h1,h2⟩ := LR.nth (tl := []) hl he
    refine ⟨v',h2,fun w => ?_⟩
    have h1' : (⟨l'⟩ : Array Value)[off]? = some v' := by simpa using h1
    simp only [part,Sem.run_bind,run_agg hag,Result.andThen_ok]
    simp [h1']
end
end Go.Sim
