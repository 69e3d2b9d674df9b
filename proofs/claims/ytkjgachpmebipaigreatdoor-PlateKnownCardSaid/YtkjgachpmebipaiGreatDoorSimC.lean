import Derived.Test.YtkjgachpmebipaiGreatDoorSimB
import Derived.CheckFast
/- From the model's code to the reckoner's. -/
namespace Go.Sim
set_option linter.all false
open Go
variable [Rho] [Asm]

section
variable (P : Program)
def konst : Nat → Value → Bool
  | 0, _ => false
  | d + 1, v => match v with
    | .bool _ | .int _ _ | .float _ _ | .string _ | .pointer none | .map none | .nilFunc | .nilIface => true
    | .slice none _ k => Nat.blt k 18446744073709551616
    | .func (.yield _) _ _ => false
    | .func _ xs ys => xs.toList.all (konst d) && ys.toList.all (konst d)
    | .iface _ v => konst d v
    | .agg xs => xs.toList.all (konst d)
    | .tuple xs => xs.toList.all (konst d)
    | _ => false
def compX : Operand → Option Opd
  | .tmp t => some (.t t)
  | .const v => if konst 5 v then some (.v v) else none
  | .func f => some (.v (.func (.func f) #[] #[]))
  | .global _ => none
def compXs (xs : Array Operand) : Option (List Opd) := xs.toList.mapM compX
def compO : Option Operand → Option (Option Opd)
  | none => some none
  | some x => (compX x).map some
def szOf (t : TypeId) : Option Nat := (P.info? t).map (·.size)
def aggB (t : TypeId) : Option Bool := match P.underlying t with
  | some (.struct _) | some (.array _ _) => some true
  | some _ => some false
  | none => none
def zeroOf (t : TypeId) : Option (List Value) := match (P.info? t).bind (·.zero) with
  | some v => if konst 3 v && ones (cellsOf v) then some (cellsOf v) else none
  | none => none
def zeroV (t : TypeId) : Option Value := match (P.info? t).bind (·.zero) with
  | some v => if konst 3 v then some v else none
  | none => none
/-- How many cells a value has of which '==' is told by its cells, all plain. -/
def eqFs (eq : TypeId → Option Nat) : List Field → Nat → Option Nat
  | [], off => some off
  | f :: fs, off => match eq f.type with
    | none => none
    | some n => if f.offset = off ∧ f.name ≠ "_" ∧ szOf P f.type = some n then eqFs eq fs (off + n) else none
def eqT : Nat → TypeId → Option Nat
  | 0, _ => none
  | d + 1, t => match P.underlying t with
    | some (.int _) => some 1
    | some (.struct fs) => if P.stoodInHeld t then none else eqFs P (eqT d) fs.toList 0
    | some (.array n e) => match eqT d e with
      | some m => if szOf P e = some m then some (n * m) else none
      | none => none
    | _ => none
/-- A part of a struct, an array or a slice that is laid out: where it goes, how many cells it has, what it is. -/
def compPart (pl : Nat → Option (Nat × Nat)) (p : Nat × Operand) : Option (Nat × Nat × Opd) := match pl p.1, compX p.2 with
  | some (off, n), some x => some (off, n, x)
  | _, _ => none
/-- The word nil. -/
def isNilC (d : TypeDesc) (y : Operand) : Option Nat := match d, y with
  | .slice _, .const (.slice none _ _) => some 0
  | .map _ _, .const (.map none) => some 1
  | .func _ _ _, .const .nilFunc => some 2
  | .interface _, .const .nilIface => some 3
  | _, _ => none
def compN (neg : Bool) (d : TypeDesc) (x y : Operand) : Option POp := match isNilC d y, compX x with
  | some q, some x => some (.isNil neg q x)
  | _, _ => none
def compP (o : Oper) : Option POp := match o.op with
  | .move x | .assign x => (compX x).map .mov
  | .pick c a b => do some (.pick (← compX c) (← compX a) (← compX b))
  | .build t parts => do
    let z ← zeroV P t
    match P.underlying t with
    | some (.struct fs) => match fs.toList.mapM (fun f => match szOf P f.type with
        | some n => some (f.offset, n)
        | none => none) with
      | some pl => match parts.toList.mapM (compPart (pl[·]?)) with
        | some ps => some (.build (cellsOf z) ps)
        | none => none
      | none => none
    | some (.array _ e) => match szOf P e with
      | some n => match parts.toList.mapM (compPart fun i => some (i * n, n)) with
        | some ps => some (.build (cellsOf z) ps)
        | none => none
      | none => none
    | _ => none
  | .binOp op t x y _ => match op, P.underlying t with
    | .eql, some .bool => do some (.eqB false (← compX x) (← compX y))
    | .neq, some .bool => do some (.eqB true (← compX x) (← compX y))
    | .eql, some (.int _) => do some (.bin .eql (← compX x) (← compX y))
    | .neq, some (.int _) => do some (.bin .neq (← compX x) (← compX y))
    | .eql, some .string => do some (.bin .eql (← compX x) (← compX y))
    | .neq, some .string => do some (.bin .neq (← compX x) (← compX y))
    | .eql, some (.struct _) => match eqT P 6 t, compX x, compX y with
      | some n, some x, some y => if P.eqGuardType P.depth t then none else some (.eqG false n x y)
      | _, _, _ => none
    | .neq, some (.struct _) => match eqT P 6 t, compX x, compX y with
      | some n, some x, some y => if P.eqGuardType P.depth t then none else some (.eqG true n x y)
      | _, _, _ => none
    | .eql, some (.array _ _) => match eqT P 6 t, compX x, compX y with
      | some n, some x, some y => if P.eqGuardType P.depth t then none else some (.eqG false n x y)
      | _, _, _ => none
    | .neq, some (.array _ _) => match eqT P 6 t, compX x, compX y with
      | some n, some x, some y => if P.eqGuardType P.depth t then none else some (.eqG true n x y)
      | _, _, _ => none
    | .eql, some d => compN false d x y
    | .neq, some d => compN true d x y
    | .eql, _ | .neq, _ => none
    | .shl, _ => do some (.shf true (← compX x) (← compX y))
    | .shr, _ => do some (.shf false (← compX x) (← compX y))
    | op, _ => do some (.bin op (← compX x) (← compX y))
  | .unOp op _ x => match op with
    | .neg => (compX x).map .neg
    | .not => (compX x).map .not
    | _ => none
  | .convert src dst x => match P.underlying src, P.underlying dst with
    | some _, some (.int k) => (compX x).map (.conv k)
    | _, _ => none
  | .makeInterface t x => match P.underlying t with
    | some (.interface _) | none => none
    | _ => (compX x).map (.mki t)
  | .makeFunc fn xs ys => match fn with
    | .yield _ => none
    | fn => do some (.mkf fn (← compXs xs) (← compXs ys))
  | .field t x i => match P.underlying t with
    | some (.struct fs) => do
      let f ← fs[i]?
      some (.fld (← aggB P f.type) f.offset (← szOf P f.type) (← compX x))
    | _ => none
  | .index t x i => match P.underlying t with
    | some (.array n e) => do some (.idxA (← aggB P e) n (← szOf P e) (← compX x) (← compX i))
    | some .string => do some (.idxS (← compX x) (← compX i))
    | _ => none
  | .extract x i => do some (.ext (← compX x) i)
  | .fieldAddr t x i => match P.underlying t with
    | some (.struct fs) => do
      let f ← fs[i]?
      let n ← szOf P f.type
      if n = 0 then none else some (.fad f.offset (← compX x))
    | _ => none
  | .indexAddr t x i => match P.underlying t with
    | some (.array n e) => do some (.iadA n (← szOf P e) (← compX x) (← compX i))
    | some (.slice e) => do some (.iadS (← szOf P e) (← compX x) (← compX i))
    | _ => none
  | .slice t x lo hi mx => match mx, P.underlying t with
    | none, some (.slice e) => do some (.slcS (← szOf P e) (← compX x) (← compO lo) (← compO hi))
    | none, some .string => do some (.slcT (← compX x) (← compO lo) (← compO hi))
    | none, some (.array n e) => do some (.slcA n (← szOf P e) (← compX x) (← compO lo) (← compO hi))
    | _, _ => none
  | .nilCheck x => (compX x).map .nilc
  | .call c => match c.callee with
    | .builtin b => match b with
      | .len => match c.argTypes[0]?.bind P.underlying, c.args[0]? with
        | some (.slice _), some x => (compX x).map .lenS
        | some .string, some x => (compX x).map .lenT
        | some (.array n _), some _ => some (.lenC n)
        | _, _ => none
      | .max => (compXs c.args).map .max
      | .min => (compXs c.args).map .min
      | _ => none
    | _ => none
  | _ => none
def compR (o : Oper) : Option ROp := match o.op with
  | .load t a => do
    match aggB P t with
    | some true => some (.ldn (← szOf P t) (← compX a))
    | some false => some (.ld1 (← compX a))
    | none => none
  | .lookup t m k ok => match P.underlying t with
    | some (.map key elem) => do some (.lkp (← eqT P 6 key) (← aggB P key) (← zeroV P elem) ok (← compX m) (← compX k))
    | _ => none
  | .call c => match c.callee, c.argTypes[0]?.bind P.underlying, c.args[0]? with
    | .builtin .len, some (.map _ _), some x => (compX x).map .lenM
    | _, _, _ => none
  | _ => none
def compA (o : Oper) : Option AOp := match o.op with
  | .alloc t => (zeroOf P t).map .new
  | .box _ x => (compX x).map .box
  | .buildSlice t n parts => match P.underlying t with
    | some (.slice e) => do
      let size ← szOf P e
      let z ← zeroOf P e
      if z.length != size || n * size > 65536 || n > 65536 then none else
      let ps ← parts.toList.mapM (compPart fun i => some (i * size, size))
      some (.bsl (rep n z) n ps)
    | _ => none
  | .makeSlice t l c => match P.underlying t with
    | some (.slice e) => do
      let size ← szOf P e
      let z ← zeroOf P e
      let bytes ← (P.info? e).map (·.bytes)
      if z.length != size || size = 0 then none else
      some (.mks z bytes (← compX l) (← compX c))
    | _ => none
  | .makeMap t none => match P.underlying t with
    | some (.map key _) => do some (.mkm (← eqT P 6 key) (← aggB P key))
    | _ => none
  | .range t x => match P.underlying t with
    | some .string => (compX x).map .rgs
    | _ => none
  | _ => none
def compW (o : Oper) : Option WOp := match o.op with
  | .store t a x => do some (.st (← szOf P t) (← compX a) (← compX x))
  | .mapUpdate t m k v => match P.underlying t with
    | some (.map key _) => do some (.mup (← eqT P 6 key) (← aggB P key) (← compX m) (← compX k) (← compX v))
    | _ => none
  | .call c => match c.callee, c.argTypes[0]?.bind P.underlying, c.argTypes[1]?.bind P.underlying, c.args[0]?, c.args[1]? with
    | .builtin .append, some (.slice e), some (.slice _), some x, some y => do
      let size ← szOf P e
      let z ← zeroOf P e
      let bytes ← (P.info? e).map (·.bytes)
      if z.length != size || size = 0 || bytes > 65536 || size > 65536 then none else
      some (.app size z (← compX x) (← compX y))
    | .builtin .copy, some (.slice e), some (.slice _), some x, some y => do
      some (.cpy (← szOf P e) (← compX x) (← compX y))
    | .builtin .clear, some (.slice e), _, some x, _ => do
      some (.clr (← zeroOf P e) (← compX x))
    | _, _, _, _, _ => none
  | .next x true => (compX x).map .nxt
  | _ => none
def compC0 (o : Oper) : Option IOp := match o.op with
  | .call { callee := .value f, args, .. } => do some (.call (← compX f) (← compXs args))
  | _ => match compP P o with
    | some p => some (.p p)
    | none => match compR P o with
      | some r => some (.r r)
      | none => match compA P o with
        | some a => some (.a a)
        | none => match compW P o with
          | some w => some (.w w)
          | none => none
/-- What is not reckoned: it fails where it is reached. -/
def badOp : IOp := .r (.lenM (.v (.bool false)))
def compC1 (o : Oper) : Option IOp := match compC0 P o with
  | some i => some i
  | none => some badOp
/-- The temporary that a guard looks at. -/
def compG (ops : Array Oper) : Option (Nat × Bool) → Option (Option (Nat × Bool))
  | none => some none
  | some (j, b) => match (ops[j]?).bind (·.dst) with
    | some t => some (some (t, b))
    | none => none
def dstOk (nt : Nat) : Option Nat → Bool
  | none => true
  | some d => Nat.blt d nt && Nat.blt d limT
def compIO (nt : Nat) (ops : Array Oper) (o : Oper) : Option Ins := do
  if dstOk nt o.dst then some ⟨o.dst, ← compC1 P o, ← compG ops o.guard⟩ else none
def compOps (nt : Nat) (ops : Array Oper) : List Oper → Option (List Ins)
  | [] => some []
  | o :: l => match compIO P nt ops o with
    | none => none
    | some i => match compOps nt ops l with
      | none => none
      | some r => some (i :: r)
def optO : Option Opd → List Opd
  | none => []
  | some x => [x]
def psO : List (Nat × Nat × Opd) → List Opd
  | [] => []
  | (_, _, x) :: ps => x :: psO ps
def pO : POp → List Opd
  | .mov x => [x]
  | .pick c a b => [c, a, b]
  | .build _ ps => psO ps
  | .bin _ x y => [x, y]
  | .eqB _ x y => [x, y]
  | .eqG _ _ x y => [x, y]
  | .isNil _ _ x => [x]
  | .neg x => [x]
  | .not x => [x]
  | .conv _ x => [x]
  | .mki _ x => [x]
  | .mkf _ xs ys => xs ++ ys
  | .fld _ _ _ x => [x]
  | .idxA _ _ _ x i => [x, i]
  | .idxS x i => [x, i]
  | .ext x _ => [x]
  | .fad _ x => [x]
  | .iadS _ x i => [x, i]
  | .iadA _ _ x i => [x, i]
  | .slcS _ x lo hi => x :: (optO lo ++ optO hi)
  | .slcT x lo hi => x :: (optO lo ++ optO hi)
  | .slcA _ _ x lo hi => x :: (optO lo ++ optO hi)
  | .lenS x => [x]
  | .lenT x => [x]
  | .lenC _ => []
  | .max xs => xs
  | .min xs => xs
  | .nilc x => [x]
  | .shf _ x y => [x, y]
def rO : ROp → List Opd
  | .ld1 a => [a]
  | .ldn _ a => [a]
  | .lkp _ _ _ _ m k => [m, k]
  | .lenM m => [m]
def aO : AOp → List Opd
  | .new _ => []
  | .box x => [x]
  | .bsl _ _ ps => psO ps
  | .mks _ _ l c => [l, c]
  | .mkm _ _ => []
  | .rgs x => [x]
def wO : WOp → List Opd
  | .st _ a x => [a, x]
  | .mup _ _ m k v => [m, k, v]
  | .app _ _ s x => [s, x]
  | .cpy _ d x => [d, x]
  | .clr _ x => [x]
  | .nxt x => [x]
def iO : IOp → List Opd
  | .p o => pO o
  | .r o => rO o
  | .a o => aO o
  | .w o => wO o
  | .call f args => f :: args

def isC : IOp → Bool
  | .w _ => true
  | .call _ _ => true
  | _ => false
def isA : IOp → Bool
  | .a _ => true
  | _ => false
def inO (d : Nat) : List Opd → Bool
  | [] => false
  | .t n :: l => match Nat.beq d n with
    | true => true
    | false => inO d l
  | .v _ :: l => inO d l
/-- Whether it looks at what is put there. -/
def looks (o : Ins) : Option Nat → Bool
  | none => false
  | some d => match inO d (iO o.op) with
    | true => true
    | false => match o.grd with
      | some (t, _) => Nat.beq d t
      | none => false
def apartD : Option Nat → Option Nat → Bool
  | some a, some b => !Nat.beq a b
  | _, _ => true
/-- The i-th operation and a later one. -/
def ok2 (i : Nat) (a b : Ins × Nat) : Bool := match apartD a.1.dst b.1.dst with
  | false => false
  | true => match Nat.testBit b.2 i with
    | true => true
    | false => match looks b.1 a.1.dst, looks a.1 b.1.dst, isC b.1.op with
      | false, false, false => true
      | false, false, true => !(isC a.1.op || isA a.1.op)
      | _, _, _ => false
def okD : Nat → List (Ins × Nat) → Bool
  | _, [] => true
  | i, a :: l => match Nat.blt a.2 (2 ^ i), l.all (ok2 i a) with
    | true, true => okD (Nat.succ i) l
    | _, _ => false
def csD : Nat → List (Ins × Nat) → List (Nat × Nat)
  | _, [] => []
  | i, a :: l => match isC a.1.op with
    | true => (i, a.2) :: csD (Nat.succ i) l
    | false => csD (Nat.succ i) l
def exempt (cs : List (Nat × Nat)) (p i m : Nat) : Bool := cs.any fun c => (Nat.ble p c.1 && Nat.testBit m c.1) || (Nat.blt c.1 p && Nat.testBit c.2 i)
def mkD (cs : List (Nat × Nat)) : Nat → List (Ins × Nat) → List DI
  | _, [] => []
  | i, a :: l => ⟨a.1, a.2, (0 :: cs.map fun c => Nat.succ c.1).filter fun p => !exempt cs p i a.2⟩ :: mkD cs (Nat.succ i) l
def drawI (l : List (Ins × Nat)) : Option (List DI) := match okD 0 l with
  | true => some (mkD (csD 0 l) 0 l)
  | false => none
/-! another order, where the written one does not serve: new blocks as late as may be -/
def pm (p : List Nat) (i : Nat) : Nat := match p[i]? with
  | some j => j
  | none => i
def rmask (p : List Nat) (m : Nat) : Nat → Nat
  | 0 => 0
  | k + 1 => match Nat.testBit m (pm p k) with
    | true => Nat.lor (rmask p m k) (2 ^ k)
    | false => rmask p m k
def permL (l : List (Ins × Nat)) (p : List Nat) (n : Nat) : List Nat → Option (List (Ins × Nat))
  | [] => some []
  | j :: r => match l[j]? with
    | none => none
    | some a => match permL l p n r with
      | none => none
      | some s => some ((a.1, rmask p a.2 n) :: s)
def lateA : Nat → List (Ins × Nat) → List Nat → List Nat
  | _, [], pend => pend
  | i, a :: l, pend => match isA a.1.op with
    | true => lateA (Nat.succ i) l (pend ++ [i])
    | false => pend.filter (fun j => Nat.testBit a.2 j) ++ i :: lateA (Nat.succ i) l (pend.filter fun j => !Nat.testBit a.2 j)
def permOK (p q : List Nat) (n : Nat) : Bool := Nat.beq p.length n && Nat.beq q.length n && (List.range n).all fun i => Nat.beq (pm q (pm p i)) i && Nat.beq (pm p (pm q i)) i && Nat.blt (pm p i) n && Nat.blt (pm q i) n
def drawP (l : List (Ins × Nat)) : Option (List DI) := match lateA 0 l [] with
  | p => match (List.range l.length).map (fun i => p.findIdx (Nat.beq i)) with
    | q => match permOK p q l.length && l.all (fun a => Nat.blt a.2 (2 ^ l.length)), permL l p l.length p with
      | true, some l' => drawI l'
      | _, _ => none
def drawA (l : List (Ins × Nat)) : Option (List DI) := match drawI l with
  | some d => some d
  | none => drawP l
def comp (nt : Nat) : Code → Option IC
  | .skip => some .skip
  | .region _ ops draw => match compOps P nt ops ops.toList with
    | none => none
    | some l => if draw then (drawA (l.zip (CheckFast.beforeL ops.toList 0 []))).map .draw else some (.ops l)
  | .seq a b => match comp nt a, comp nt b with
    | some x, some y => some (.seq x y)
    | _, _ => none
  | .cond c a b => match compX c, comp nt a, comp nt b with
    | some c, some x, some y => some (.cond c x y)
    | _, _, _ => none
  | .block id a => match comp nt a with
    | some x => some (.block id x)
    | none => none
  | .loop a => match comp nt a with
    | some x => some (.loop x)
    | none => none
  | .rangeFunc f ps asg body => match compX f, comp nt asg, comp nt body with
    | some f, some x, some y => if ps.toList.all (Nat.blt · nt) then some (.rng f ps.toList x y) else none
    | _, _, _ => none
  | .exit id => some (.exit id)
  | .scope a => match comp nt a with
    | some x => some (.scope x)
    | none => none
  | .label _ => some .skip
  | .goto l => some (.goto l)
  | .ret => some .ret
  | .refuse _ => some (.ops [⟨none, badOp, none⟩])
def compRes : ResultVar → Option IRes
  | .tmp t => some (.t t)
  | .cell a t => match aggB P t, szOf P t with
    | some ag, some n => some (.c ag n a)
    | _, _ => none
def compF (f : FuncId) : Option FI := match P.funcs[f]? with
  | none => none
  | some fn => match fn.body with
    | none => none
    | some c => match comp P fn.ntmps c, fn.results.toList.mapM (compRes P) with
      | some ic, some rs => if fn.name == "runtime.NumGoroutine" || fn.ntmps > limT then none else some ⟨ic, fn.ntmps, rs⟩
      | _, _ => none
end

end Go.Sim
