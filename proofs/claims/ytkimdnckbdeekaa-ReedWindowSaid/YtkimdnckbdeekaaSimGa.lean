import Derived.Test.YtkimdnckbdeekaaSimB
import Derived.CheckFast
import Derived.Laws.Rows
import Derived.IntWalk
import Derived.Laws.StructEq
import Derived.Laws.Concat
import Derived.Laws.Strings
/- From the model's code to the reckoner's. -/
namespace Go.Sim
set_option linter.all false
open Go
variable [Rho] [Asm]

section
variable (P : Program)
def konst : Nat → Value → Bool
  | 0, _ => false
  | d + 1, v => match v with
    | .bool _ | .int _ _ | .float _ _ | .string _ | .pointer none | .map none | .nilFunc | .nilIface => true
    | .slice none _ k => Nat.blt k 18446744073709551616
    | .func (.yield _) _ _ => false
    | .func _ xs ys => xs.toList.all (konst d) && ys.toList.all (konst d)
    | .iface _ v => konst d v
    | .agg xs => xs.toList.all (konst d)
    | .tuple xs => xs.toList.all (konst d)
    | _ => false
def compX : Operand → Option Opd
  | .tmp t => some (.t t)
  | .const v => if konst 5 v then some (.v v) else none
  | .func f => some (.v (.func (.func f) #[] #[]))
  | .global _ => none
def compXs (xs : Array Operand) : Option (List Opd) := xs.toList.mapM compX
def compO : Option Operand → Option (Option Opd)
  | none => some none
  | some x => (compX x).map some
def szOf (t : TypeId) : Option Nat := (P.info? t).map (·.size)
def aggB (t : TypeId) : Option Bool := match P.underlying t with
  | some (.struct _) | some (.array _ _) => some true
  | some _ => some false
  | none => none
def zeroOf (t : TypeId) : Option (List Value) := match (P.info? t).bind (·.zero) with
  | some v => if konst 3 v && ones (cellsOf v) then some (cellsOf v) else none
  | none => none
def zeroV (t : TypeId) : Option Value := match (P.info? t).bind (·.zero) with
  | some v => if konst 3 v then some v else none
  | none => none
/-- How many cells a value has of which '==' is told by its cells, all plain. -/
def eqFs (eq : TypeId → Option Nat) : List Field → Nat → Option Nat
  | [], off => some off
  | f :: fs, off => match eq f.type with
    | none => none
    | some n => if f.offset = off ∧ f.name ≠ "_" ∧ szOf P f.type = some n then eqFs eq fs (off + n) else none
def eqT : Nat → TypeId → Option Nat
  | 0, _ => none
  | d + 1, t => match P.underlying t with
    | some (.int _) => some 1
    | some (.struct fs) => if P.stoodInHeld t then none else eqFs P (eqT d) fs.toList 0
    | _ => none
/-- A part of a struct, an array or a slice that is laid out: where it goes, how many cells it has, what it is. -/
def compPart (pl : Nat → Option (Nat × Nat)) (p : Nat × Operand) : Option (Nat × Nat × Opd) := match pl p.1, compX p.2 with
  | some (off, n), some x => some (off, n, x)
  | _, _ => none
def compP (o : Oper) : Option POp := match o.op with
  | .move x | .assign x => (compX x).map .mov
  | .pick c a b => do some (.pick (← compX c) (← compX a) (← compX b))
  | .build t parts => do
    let z ← zeroV P t
    match P.underlying t with
    | some (.struct fs) => match fs.toList.mapM (fun f => match szOf P f.type with
        | some n => some (f.offset, n)
        | none => none) with
      | some pl => match parts.toList.mapM (compPart (pl[·]?)) with
        | some ps => some (.build (cellsOf z) ps)
        | none => none
      | none => none
    | some (.array _ e) => match szOf P e with
      | some n => match parts.toList.mapM (compPart fun i => some (i * n, n)) with
        | some ps => some (.build (cellsOf z) ps)
        | none => none
      | none => none
    | _ => none
  | .binOp op t x y _ => match op, P.underlying t with
    | .eql, some .bool => do some (.eqB false (← compX x) (← compX y))
    | .neq, some .bool => do some (.eqB true (← compX x) (← compX y))
    | .eql, some (.int _) => do some (.bin .eql (← compX x) (← compX y))
    | .neq, some (.int _) => do some (.bin .neq (← compX x) (← compX y))
    | .eql, some .string => do some (.bin .eql (← compX x) (← compX y))
    | .neq, some .string => do some (.bin .neq (← compX x) (← compX y))
    | .eql, some (.struct _) => match eqT P 6 t, compX x, compX y with
      | some n, some x, some y => if P.eqGuardType P.depth t then none else some (.eqG false n x y)
      | _, _, _ => none
    | .neq, some (.struct _) => match eqT P 6 t, compX x, compX y with
      | some n, some x, some y => if P.eqGuardType P.depth t then none else some (.eqG true n x y)
      | _, _, _ => none
    | .eql, _ | .neq, _ => none
    | .shl, _ | .shr, _ => none
    | op, _ => do some (.bin op (← compX x) (← compX y))
  | .unOp op _ x => match op with
    | .neg => (compX x).map .neg
    | .not => (compX x).map .not
    | _ => none
  | .convert src dst x => match P.underlying src, P.underlying dst with
    | some _, some (.int k) => (compX x).map (.conv k)
    | _, _ => none
  | .makeInterface t x => match P.underlying t with
    | some (.interface _) | none => none
    | _ => (compX x).map (.mki t)
  | .makeFunc fn xs ys => match fn with
    | .yield _ => none
    | fn => do some (.mkf fn (← compXs xs) (← compXs ys))
  | .field t x i => match P.underlying t with
    | some (.struct fs) => do
      let f ← fs[i]?
      some (.fld (← aggB P f.type) f.offset (← szOf P f.type) (← compX x))
    | _ => none
  | .index t x i => match P.underlying t with
    | some (.array n e) => do some (.idxA (← aggB P e) n (← szOf P e) (← compX x) (← compX i))
    | _ => none
  | .extract x i => do some (.ext (← compX x) i)
  | .fieldAddr t x i => match P.underlying t with
    | some (.struct fs) => do
      let f ← fs[i]?
      let n ← szOf P f.type
      if n = 0 then none else some (.fad f.offset (← compX x))
    | _ => none
  | .indexAddr t x i => match P.underlying t with
    | some (.array n e) => do some (.iadA n (← szOf P e) (← compX x) (← compX i))
    | some (.slice e) => do some (.iadS (← szOf P e) (← compX x) (← compX i))
    | _ => none
  | .slice t x lo hi mx => match mx, P.underlying t with
    | none, some (.slice e) => do some (.slcS (← szOf P e) (← compX x) (← compO lo) (← compO hi))
    | _, _ => none
  | .nilCheck x => (compX x).map .nilc
  | .call c => match c.callee with
    | .builtin b => match b with
      | .len => match c.argTypes[0]?.bind P.underlying, c.args[0]? with
        | some (.slice _), some x => (compX x).map .lenS
        | some .string, some x => (compX x).map .lenT
        | some (.array n _), some _ => some (.lenC n)
        | _, _ => none
      | .max => (compXs c.args).map .max
      | .min => (compXs c.args).map .min
      | _ => none
    | _ => none
  | _ => none
def compR (o : Oper) : Option ROp := match o.op with
  | .load t a => do
    match aggB P t with
    | some true => some (.ldn (← szOf P t) (← compX a))
    | some false => some (.ld1 (← compX a))
    | none => none
  | .lookup t m k ok => match P.underlying t with
    | some (.map key elem) => do some (.lkp (← eqT P 6 key) (← aggB P key) (← zeroV P elem) ok (← compX m) (← compX k))
    | _ => none
  | _ => none
def compA (o : Oper) : Option AOp := match o.op with
  | .alloc t => (zeroOf P t).map .new
  | .box _ x => (compX x).map .box
  | .buildSlice t n parts => match P.underlying t with
    | some (.slice e) => do
      let size ← szOf P e
      let z ← zeroOf P e
      if z.length != size || n * size > 65536 || n > 65536 then none else
      let ps ← parts.toList.mapM (compPart fun i => some (i * size, size))
      some (.bsl (rep n z) n ps)
    | _ => none
  | .makeSlice t l c => match P.underlying t with
    | some (.slice e) => do
      let size ← szOf P e
      let z ← zeroOf P e
      let bytes ← (P.info? e).map (·.bytes)
      if z.length != size || size = 0 then none else
      some (.mks z bytes (← compX l) (← compX c))
    | _ => none
  | .makeMap t none => match P.underlying t with
    | some (.map key _) => do some (.mkm (← eqT P 6 key) (← aggB P key))
    | _ => none
  | _ => none
def compW (o : Oper) : Option WOp := match o.op with
  | .store t a x => do some (.st (← szOf P t) (← compX a) (← compX x))
  | .mapUpdate t m k v => match P.underlying t with
    | some (.map key _) => do some (.mup (← eqT P 6 key) (← aggB P key) (← compX m) (← compX k) (← compX v))
    | _ => none
  | .call c => match c.callee, c.argTypes[0]?.bind P.underlying, c.argTypes[1]?.bind P.underlying, c.args[0]?, c.args[1]? with
    | .builtin .append, some (.slice e), some (.slice _), some x, some y => do
      let size ← szOf P e
      let z ← zeroOf P e
      let bytes ← (P.info? e).map (·.bytes)
      if z.length != size || size = 0 || bytes > 65536 || size > 65536 then none else
      some (.app size z (← compX x) (← compX y))
    | _, _, _, _, _ => none
  | _ => none
def compC0 (o : Oper) : Option IOp := match o.op with
  | .call { callee := .value f, args, .. } => do some (.call (← compX f) (← compXs args))
  | _ => match compP P o with
    | some p => some (.p p)
    | none => match compR P o with
      | some r => some (.r r)
      | none => match compA P o with
        | some a => some (.a a)
        | none => match compW P o with
          | some w => some (.w w)
          | none => none
/-- What is not reckoned: it fails where it is reached. -/
def badOp : IOp := .r (.lenM (.v (.bool false)))
def compC1 (o : Oper) : Option IOp := match compC0 P o with
  | some i => some i
  | none => some badOp
/-- The temporary that a guard looks at. -/
def compG (ops : Array Oper) : Option (Nat × Bool) → Option (Option (Nat × Bool))
  | none => some none
  | some (j, b) => match (ops[j]?).bind (·.dst) with
    | some t => some (some (t, b))
    | none => none
def dstOk (nt : Nat) : Option Nat → Bool
  | none => true
  | some d => Nat.blt d nt && Nat.blt d limT
def compIO (nt : Nat) (ops : Array Oper) (o : Oper) : Option Ins := do
  if dstOk nt o.dst then some ⟨o.dst, ← compC1 P o, ← compG ops o.guard⟩ else none
def compOps (nt : Nat) (ops : Array Oper) : List Oper → Option (List Ins)
  | [] => some []
  | o :: l => match compIO P nt ops o with
    | none => none
    | some i => match compOps nt ops l with
      | none => none
      | some r => some (i :: r)
def optO : Option Opd → List Opd
  | none => []
  | some x => [x]
def psO : List (Nat × Nat × Opd) → List Opd
  | [] => []
  | (_, _, x) :: ps => x :: psO ps
def pO : POp → List Opd
  | .mov x => [x]
  | .pick c a b => [c, a, b]
  | .build _ ps => psO ps
  | .bin _ x y => [x, y]
  | .eqB _ x y => [x, y]
  | .eqG _ _ x y => [x, y]
  | .isNil _ x => [x]
  | .neg x => [x]
  | .not x => [x]
  | .conv _ x => [x]
  | .mki _ x => [x]
  | .mkf _ xs ys => xs ++ ys
  | .fld _ _ _ x => [x]
  | .idxA _ _ _ x i => [x, i]
  | .idxS x i => [x, i]
  | .ext x _ => [x]
  | .fad _ x => [x]
  | .iadS _ x i => [x, i]
  | .iadA _ _ x i => [x, i]
  | .slcS _ x lo hi => x :: (optO lo ++ optO hi)
  | .slcT x lo hi => x :: (optO lo ++ optO hi)
  | .slcA _ _ x lo hi => x :: (optO lo ++ optO hi)
  | .lenS x => [x]
  | .lenT x => [x]
  | .lenC _ => []
  | .max xs => xs
  | .min xs => xs
  | .nilc x => [x]
def rO : ROp → List Opd
  | .ld1 a => [a]
  | .ldn _ a => [a]
  | .lkp _ _ _ _ m k => [m, k]
  | .lenM m => [m]
def aO : AOp → List Opd
  | .new _ => []
  | .box x => [x]
  | .bsl _ _ ps => psO ps
  | .mks _ _ l c => [l, c]
  | .mkm _ _ => []
def wO : WOp → List Opd
  | .st _ a x => [a, x]
  | .mup _ _ m k v => [m, k, v]
  | .app _ _ s x => [s, x]
def iO : IOp → List Opd
  | .p o => pO o
  | .r o => rO o
  | .a o => aO o
  | .w o => wO o
  | .call f args => f :: args

def isC : IOp → Bool
  | .w _ => true
  | .call _ _ => true
  | _ => false
def isA : IOp → Bool
  | .a _ => true
  | _ => false
def inO (d : Nat) : List Opd → Bool
  | [] => false
  | .t n :: l => match Nat.beq d n with
    | true => true
    | false => inO d l
  | .v _ :: l => inO d l
/-- Whether it looks at what is put there. -/
def looks (o : Ins) : Option Nat → Bool
  | none => false
  | some d => match inO d (iO o.op) with
    | true => true
    | false => match o.grd with
      | some (t, _) => Nat.beq d t
      | none => false
def apartD : Option Nat → Option Nat → Bool
  | some a, some b => !Nat.beq a b
  | _, _ => true
/-- The i-th operation and a later one. -/
def ok2 (i : Nat) (a b : Ins × Nat) : Bool := match apartD a.1.dst b.1.dst with
  | false => false
  | true => match Nat.testBit b.2 i with
    | true => true
    | false => match looks b.1 a.1.dst, looks a.1 b.1.dst, isC b.1.op with
      | false, false, false => true
      | false, false, true => !(isC a.1.op || isA a.1.op)
      | _, _, _ => false
def okD : Nat → List (Ins × Nat) → Bool
  | _, [] => true
  | i, a :: l => match Nat.blt a.2 (2 ^ i), l.all (ok2 i a) with
    | true, true => okD (Nat.succ i) l
    | _, _ => false
def csD : Nat → List (Ins × Nat) → List (Nat × Nat)
  | _, [] => []
  | i, a :: l => match isC a.1.op with
    | true => (i, a.2) :: csD (Nat.succ i) l
    | false => csD (Nat.succ i) l
def exempt (cs : List (Nat × Nat)) (p i m : Nat) : Bool := cs.any fun c => (Nat.ble p c.1 && Nat.testBit m c.1) || (Nat.blt c.1 p && Nat.testBit c.2 i)
def mkD (cs : List (Nat × Nat)) : Nat → List (Ins × Nat) → List DI
  | _, [] => []
  | i, a :: l => ⟨a.1, a.2, (0 :: cs.map fun c => Nat.succ c.1).filter fun p => !exempt cs p i a.2⟩ :: mkD cs (Nat.succ i) l
def drawI (l : List (Ins × Nat)) : Option (List DI) := match okD 0 l with
  | true => some (mkD (csD 0 l) 0 l)
  | false => none
/-! another order, where the written one does not serve: new blocks as late as may be -/
def pm (p : List Nat) (i : Nat) : Nat := match p[i]? with
  | some j => j
  | none => i
def rmask (p : List Nat) (m : Nat) : Nat → Nat
  | 0 => 0
  | k + 1 => match Nat.testBit m (pm p k) with
    | true => Nat.lor (rmask p m k) (2 ^ k)
    | false => rmask p m k
def permL (l : List (Ins × Nat)) (p : List Nat) (n : Nat) : List Nat → Option (List (Ins × Nat))
  | [] => some []
  | j :: r => match l[j]? with
    | none => none
    | some a => match permL l p n r with
      | none => none
      | some s => some ((a.1, rmask p a.2 n) :: s)
def lateA : Nat → List (Ins × Nat) → List Nat → List Nat
  | _, [], pend => pend
  | i, a :: l, pend => match isA a.1.op with
    | true => lateA (Nat.succ i) l (pend ++ [i])
    | false => pend.filter (fun j => Nat.testBit a.2 j) ++ i :: lateA (Nat.succ i) l (pend.filter fun j => !Nat.testBit a.2 j)
def permOK (p q : List Nat) (n : Nat) : Bool := Nat.beq p.length n && Nat.beq q.length n && (List.range n).all fun i => Nat.beq (pm q (pm p i)) i && Nat.beq (pm p (pm q i)) i && Nat.blt (pm p i) n && Nat.blt (pm q i) n
def drawP (l : List (Ins × Nat)) : Option (List DI) := match lateA 0 l [] with
  | p => match (List.range l.length).map (fun i => p.findIdx (Nat.beq i)) with
    | q => match permOK p q l.length && l.all (fun a => Nat.blt a.2 (2 ^ l.length)), permL l p l.length p with
      | true, some l' => drawI l'
      | _, _ => none
def drawA (l : List (Ins × Nat)) : Option (List DI) := match drawI l with
  | some d => some d
  | none => drawP l
def comp (nt : Nat) : Code → Option IC
  | .skip => some .skip
  | .region _ ops draw => match compOps P nt ops ops.toList with
    | none => none
    | some l => if draw then (drawA (l.zip (CheckFast.beforeL ops.toList 0 []))).map .draw else some (.ops l)
  | .seq a b => match comp nt a, comp nt b with
    | some x, some y => some (.seq x y)
    | _, _ => none
  | .cond c a b => match compX c, comp nt a, comp nt b with
    | some c, some x, some y => some (.cond c x y)
    | _, _, _ => none
  | .block id a => match comp nt a with
    | some x => some (.block id x)
    | none => none
  | .loop a => match comp nt a with
    | some x => some (.loop x)
    | none => none
  | .rangeFunc f ps asg body => match compX f, comp nt asg, comp nt body with
    | some f, some x, some y => if ps.toList.all (Nat.blt · nt) then some (.rng f ps.toList x y) else none
    | _, _, _ => none
  | .exit id => some (.exit id)
  | .scope a => match comp nt a with
    | some x => some (.scope x)
    | none => none
  | .label _ => some .skip
  | .goto l => some (.goto l)
  | .ret => some .ret
  | .refuse _ => some (.ops [⟨none, badOp, none⟩])
def compRes : ResultVar → Option IRes
  | .tmp t => some (.t t)
  | .cell a t => match aggB P t, szOf P t with
    | some ag, some n => some (.c ag n a)
    | _, _ => none
def compF (f : FuncId) : Option FI := match P.funcs[f]? with
  | none => none
  | some fn => match fn.body with
    | none => none
    | some c => match comp P fn.ntmps c, fn.results.toList.mapM (compRes P) with
      | some ic, some rs => if fn.name == "runtime.NumGoroutine" || fn.ntmps > limT then none else some ⟨ic, fn.ntmps, rs⟩
      | _, _ => none
end

end Go.Sim

/- The reckoner's relation to the machine's world, and its plain operations. -/
namespace Go.Sim
set_option linter.all false
open Go
variable [Rho] [Asm] [SymOK]

theorem konst_refl {ι : Io} : ∀ (d : Nat) (v : Value), konst d v = true → VR ι v v := by
  intro d
  induction d with
  | zero => intro v h; simp [konst] at h
  | succ d ih =>
    have hl : ∀ l : List Value, l.all (konst d) = true → LR ι l l := by
      intro l
      induction l with
      | nil => intro _; exact .nil
      | cons v l ihl => intro h; simp only [List.all_cons, Bool.and_eq_true] at h; exact .cons (ih v h.1) (ihl h.2)
    intro v h
    cases v with
    | bool b => exact .bool b
    | int k n => exact .int k n
    | float k n => exact .float k n
    | complex => simp [konst] at h
    | string s => exact .str s
    | pointer a => cases a with
      | none => exact .ptr0
      | some a => simp [konst] at h
    | slice a n k => cases a with
      | none => exact .sl0 n k (by simpa [konst, Nat.blt_eq] using h)
      | some a => simp [konst] at h
    | map r => cases r with
      | none => exact .map0
      | some r => simp [konst] at h
    | chan r => simp [konst] at h
    | func fn xs ys =>
      obtain ⟨xs⟩ := xs
      obtain ⟨ys⟩ := ys
      cases fn <;> first
        | (simp [konst] at h; done)
        | (have h' : (xs.all (konst d) && ys.all (konst d)) = true := h
           simp only [Bool.and_eq_true] at h'
           exact .func (fun _ e => by cases e) (hl _ h'.1) (hl _ h'.2))
    | nilFunc => exact .nilf
    | iface t v => exact .iface t (ih v h)
    | nilIface => exact .nili
    | agg cs => obtain ⟨l⟩ := cs; exact .agg (hl l h)
    | tuple cs => obtain ⟨l⟩ := cs; exact .tup (hl l h)

def TR (ι : Io) (T : Tm) (tmps : Array Value) : Prop := ∀ t, VR ι (tget T t) (tmps.getD t undef)
theorem TR.mono {ι ι' : Io} (h : Ext ι ι') {T : Tm} {tmps : Array Value} (hT : TR ι T tmps) : TR ι' T tmps := fun t => (hT t).mono h

/-! ### lists -/
section
variable {ι : Io}
theorem LR.length : ∀ {l l' : List Value}, LR ι l l' → l.length = l'.length
  | _, _, .nil => rfl
  | _, _, .cons _ h => by simp [h.length]
theorem len_eq : ∀ l : List Value, len l = l.length
  | [] => rfl
  | _ :: l => by simp [len, len_eq l]
theorem app_eq : ∀ l m : List Value, app l m = l ++ m
  | [], _ => rfl
  | v :: l, m => by simp [app, app_eq l m]
theorem LR.append : ∀ {l l' m m' : List Value}, LR ι l l' → LR ι m m' → LR ι (l ++ m) (l' ++ m')
  | _, _, _, _, .nil, h => h
  | _, _, _, _, .cons hv hl, h => .cons hv (hl.append h)
theorem LR.nth {l' tl : List Value} : ∀ {l : List Value} {i : Nat} {v : Value}, LR ι l l' → nth l i = some v → ∃ v', (l' ++ tl)[i]? = some v' ∧ VR ι v v' := by
  intro l
  induction l generalizing l' with
  | nil => intro i v h e; simp [Sim.nth] at e
  | cons x l ih =>
    intro i v h e
    cases h with
    | cons hv hl =>
      cases i with
      | zero => simp only [Sim.nth, Option.some.injEq] at e; subst e; exact ⟨_, rfl, hv⟩
      | succ i => simp only [Sim.nth] at e; simpa using ih hl e
theorem LR.sub {tl : List Value} : ∀ {l l' : List Value} {off n : Nat} {r : List Value}, LR ι l l' → sub l off n = some r →
    ∃ r', LR ι r r' ∧ r'.length = n ∧ ((l' ++ tl).drop off).take n = r' ∧ off + n ≤ l'.length := by
  intro l l' off
  induction off generalizing l l' with
  | zero =>
    intro n
    induction n generalizing l l' with
    | zero => intro r h e; simp [Sim.sub] at e; subst e; exact ⟨[], .nil, rfl, by simp, by simp⟩
    | succ n ih =>
      intro r h e
      cases h with
      | nil => simp [Sim.sub] at e
      | cons hv hl =>
        rename_i v v' l l'
        simp only [Sim.sub] at e
        cases e1 : Sim.sub l 0 n with
        | none => rw [e1] at e; cases e
        | some r0 =>
          rw [e1] at e
          cases e
          obtain ⟨r', h1, h2, h3, h4⟩ := ih hl e1
          exact ⟨v' :: r', .cons hv h1, by simp [h2], by simpa using h3, by simp; omega⟩
  | succ off ih =>
    intro n r h e
    cases h with
    | nil => simp [Sim.sub] at e
    | cons hv hl =>
      simp only [Sim.sub] at e
      obtain ⟨r', h1, h2, h3, h4⟩ := ih hl e
      exact ⟨r', h1, h2, by simpa using h3, by simp; omega⟩
/-- Laying values over a list, on both sides. -/
theorem LR.over {tl : List Value} : ∀ {l l' : List Value} {off : Nat} {xs xs' r : List Value}, LR ι l l' → LR ι xs xs' → over l off xs = some r →
    off + xs'.length ≤ l'.length ∧ ∃ r', LR ι r r' ∧ r'.length = l'.length ∧ (l' ++ tl).take off ++ xs' ++ (l' ++ tl).drop (off + xs'.length) = r' ++ tl := by
  intro l l' off
  induction off generalizing l l' with
  | zero =>
    intro xs
    induction xs generalizing l l' with
    | nil =>
      intro xs' r h hx e
      cases hx
      simp only [Sim.over, Option.some.injEq] at e
      subst e
      exact ⟨by simp, l', h, rfl, by simp⟩
    | cons x xs ih =>
      intro xs' r h hx e
      cases hx with
      | cons hx0 hx =>
        rename_i x' xs'
        cases h with
        | nil => simp [Sim.over] at e
        | cons hv hl =>
          rename_i v v' l l'
          simp only [Sim.over] at e
          cases e1 : Sim.over l 0 xs with
          | none => rw [e1] at e; cases e
          | some r0 =>
            rw [e1] at e
            cases e
            obtain ⟨h0, r', h1, h2, h3⟩ := ih hl hx e1
            refine ⟨by simp at h0 ⊢; omega, x' :: r', .cons hx0 h1, by simp [h2], ?_⟩
            simpa using h3
  | succ off ih =>
    intro xs xs' r h hx e
    cases h with
    | nil => simp [Sim.over] at e
    | cons hv hl =>
      rename_i v v' l l'
      simp only [Sim.over] at e
      cases e1 : Sim.over l off xs with
      | none => rw [e1] at e; cases e
      | some r0 =>
        rw [e1] at e
        cases e
        obtain ⟨h0, r', h1, h2, h3⟩ := ih hl hx e1
        refine ⟨by simp; omega, v' :: r', .cons hv h1, by simp [h2], ?_⟩
        have : off + 1 + xs'.length = off + xs'.length + 1 := by omega
        rw [this]
        simpa using h3
theorem VR.one {v v' : Value} (h : VR ι v v') : one v = Value.oneCell' v' := by
  cases h <;> first
    | rfl
    | (rename_i hs; cases v' <;> first | rfl | cases hs)
theorem LR.ones : ∀ {l l' : List Value}, LR ι l l' → Sim.ones l = true → l'.all (·.oneCell') = true
  | _, _, .nil, _ => rfl
  | _, _, .cons hv hl, h => by
    rename_i v v' l l'
    simp only [Sim.ones] at h
    cases h1 : one v with
    | false => rw [h1] at h; cases h
    | true =>
      rw [h1] at h
      simp only [List.all_cons, Bool.and_eq_true]
      exact ⟨by rw [← hv.one]; exact h1, hl.ones h⟩
theorem VR.cells {v v' : Value} (h : VR ι v v') : LR ι (cellsOf v) v'.cells.toList := by
  cases h <;> first
    | (rename_i hs; cases v' <;> first
        | (cases hs; done)
        | (refine .cons ?_ .nil; exact .unk hs)
        | (refine .cons ?_ .nil; exact .opq ‹_› hs))
    | assumption
    | (refine .cons ?_ .nil; constructor <;> assumption)
    | (refine .cons ?_ .nil; constructor)
end
end Go.Sim

/- Numbers that are not known: they stand for what the machine has. -/
namespace Go.Sim
set_option linter.all false
open Go
variable [Rho] [Asm]

theorem kindB_eq {k l : IntKind} (h : kindB k l = true) : k = l := by cases k <;> cases l <;> first | rfl | (simp [kindB] at h)
theorem eqI_same {x y : Int} (h : eqI x y = true) : x = y := by
  unfold eqI at h
  cases x <;> cases y <;> simp_all [Nat.beq_eq]
theorem symK_ok {ι : Io} {v v' : Value} {k : IntKind} (h : symK v = some k) (hv : VR ι v v') : ∃ n, v' = .int k n ∧ Den v k n := by
  unfold symK at h
  split at h
  · cases h; cases hv; exact ⟨_, rfl, .lit _ _⟩
  · split at h
    · rename_i ht
      cases h
      cases hv with
      | func hn => exact absurd rfl (hn _)
      | sym hd =>
        have hk := hd
        cases hd <;> exact ⟨_, rfl, hk⟩
      | symB hd => cases hd <;> cases ht
    · cases h
  · cases h
theorem symBv_ok {ι : Io} {v v' : Value} (h : symBv v = true) (hv : VR ι v v') : ∃ b, v' = .bool b ∧ DenB v b := by
  unfold symBv at h
  split at h
  · cases hv; exact ⟨_, rfl, .lit _⟩
  · split at h
    · rename_i h20
      cases hv with
      | func hn => exact absurd rfl (hn _)
      | sym hd => cases hd <;> cases h20
      | symB hd => exact ⟨_, rfl, hd⟩
      | unk _ => cases h
      | opq _ _ => cases h
    · cases h
  · cases h
theorem seq_ok : ∀ (n : Nat) (v w : Value), seq n v w = true → v = w := by
  intro n
  induction n with
  | zero => intro v w h; simp [seq] at h
  | succ n ih =>
    intro v w h
    unfold seq at h
    split at h
    · split at h
      · rename_i hk; rw [kindB_eq hk, eqI_same h]
      · cases h
    · rfl
    · rfl
    · rfl
    · split at h
      · rename_i h1 h2
        have e1 := Nat.eq_of_beq_eq_true h1
        have e2 := ih _ _ h2
        subst e1 e2
        split at h
        · rfl
        · rw [ih _ _ h]
        · split at h
          · rename_i h3; rw [ih _ _ h3, ih _ _ h]
          · cases h
        · cases h
      · cases h
    · cases h
theorem lookA_ok {v : Value} : ∀ {l : List (Value × Bool)} {b : Bool}, lookA v l = some b → (v, b) ∈ l
  | [], b, h => by cases h
  | (u, c) :: l, b, h => by
    simp only [lookA] at h
    split at h
    · rename_i hs
      cases h
      rw [seq_ok _ _ _ hs]
      exact List.mem_cons_self
    · exact List.mem_cons_of_mem _ (lookA_ok h)
variable [SymOK]
theorem dec_ok {ι : Io} {t : Nat} {a : Value} {l : List Value} {b : Bool} (h : DenB (nd t a l) b) : VR ι (dec (nd t a l)) (.bool b) := by
  unfold dec
  split
  · rename_i c hc
    rw [SymOK.ok _ (lookA_ok hc) b h]
    exact .bool _
  · exact .symB h
theorem decNot_ok {ι : Io} {t : Nat} {a : Value} {l : List Value} {b : Bool} (h : DenB (nd t a l) b) : VR ι (notV (dec (nd t a l))) (.bool (!b)) := by
  unfold dec
  split
  · rename_i c hc
    rw [SymOK.ok _ (lookA_ok hc) b h]
    exact .bool _
  · exact .symB (.not h)
theorem symL_real {ι : Io} : ∀ {l m l' m' : List Value} {b : Bool}, symL l m = some b → LR ι l l' → LR ι m m' → sameL l' m' = some b
  | [], [], _, _, b, h, .nil, .nil => h
  | [], _ :: _, _, _, _, h, _, _ => by simp [symL] at h
  | _ :: _, [], _, _, _, h, _, _ => by simp [symL] at h
  | x :: l, y :: m, _, _, b, h, .cons (v' := x') hx hl, .cons (v' := y') hy hm => by
    simp only [symL] at h
    split at h
    · rename_i k k' hk hk'
      obtain ⟨p, rfl, dp⟩ := symK_ok hk hx
      obtain ⟨q, rfl, dq⟩ := symK_ok hk' hy
      have key : kindB k k' = true → ∀ c, (match same1 x y with
          | some b => Value.bool b
          | none => dec (nd 20 x [y])) = .bool c → same1 (.int k p) (.int k' q) = some c := fun hkk c hc => by
        have hkk' := kindB_eq hkk
        subst hkk'
        simp only [same1, hkk]
        have hden : DenB (nd 20 x [y]) (p == q) := .eq dp dq
        split at hc
        · rename_i b0 h0
          cases hc
          unfold same1 at h0
          split at h0
          · cases dp; cases dq; simpa [hkk] using h0
          · cases h0
        · have := dec_ok (ι := ι) hden
          rw [hc] at this
          cases this
          congr 1
          unfold eqI
          cases p <;> cases q <;> rw [Bool.eq_iff_iff] <;> simp [Nat.beq_eq] <;> omega
      split at h
      · rename_i h1 h2
        simp only [sameL, key h1 _ h2]
        exact symL_real h hl hm
      · rename_i h1 h2
        simp only [sameL, key h1 _ h2]
        exact h
      · cases h
    · cases h
end Go.Sim

/- The plain operations: values out of values. -/
namespace Go.Sim
set_option linter.all false
open Go
variable [Rho] [Asm] [SymOK]

section
variable {P : Program} {ι : Io} {T : Tm} {a : Act}

theorem compX_ok {x : Operand} {y : Opd} (h : compX x = some y) (hT : TR ι T a.tmps) : VR ι (oev T y) (a.eval x) := by
  cases x with
  | tmp t => simp only [compX, Option.some.injEq] at h; subst h; exact hT t
  | const v =>
    simp only [compX] at h
    split at h
    · cases h; exact konst_refl _ _ (by assumption)
    · cases h
  | func f => simp only [compX, Option.some.injEq] at h; subst h; exact .func (fun _ e => by cases e) .nil .nil
  | global g => simp [compX] at h

theorem mapX_ok (hT : TR ι T a.tmps) : ∀ {xs : List Operand} {ys : List Opd}, xs.mapM compX = some ys → LR ι (oevs T ys) (xs.map a.eval) := by
  intro xs
  induction xs with
  | nil => intro ys h; simp at h; subst h; exact .nil
  | cons x xs ih =>
    intro ys h
    simp only [List.mapM_cons, bind, Option.bind] at h
    cases h1 : compX x with
    | none => rw [h1] at h; cases h
    | some y =>
      rw [h1] at h
      simp only at h
      cases h2 : xs.mapM compX with
      | none => rw [h2] at h; cases h
      | some r =>
        rw [h2] at h
        cases h
        exact .cons (compX_ok h1 hT) (ih h2)
theorem compXs_ok {xs : Array Operand} {ys : List Opd} (h : compXs xs = some ys) (hT : TR ι T a.tmps) : LR ι (oevs T ys) (xs.map a.eval).toList := by
  rw [Array.toList_map]; exact mapX_ok hT h

/-- What an operation yields that only reckons. -/
def Yields (P : Program) (ι : Io) (a : Act) (o : Oper) (v : Value) : Prop := ∃ v', VR ι v v' ∧ ∀ w, (execOp a.eval o).run P w = .ok (.value v') w

theorem run_und {t : TypeId} {d : TypeDesc} (h : P.underlying t = some d) (w : World) : (Go.underlying t).run P w = .ok d w := by
  simp [Go.underlying, h]
theorem run_info {t : TypeId} {i : TypeInfo} (h : P.info? t = some i) (w : World) : (Go.typeInfo t).run P w = .ok i w := by
  simp [Go.typeInfo, h]
theorem run_sz {t : TypeId} {n : Nat} (h : szOf P t = some n) (w : World) : (Go.sizeOf t).run P w = .ok n w := by
  unfold szOf at h
  cases hi : P.info? t with
  | none => rw [hi] at h; cases h
  | some i => rw [hi] at h; cases h; simp [Go.sizeOf, run_info hi]
theorem run_agg {t : TypeId} {b : Bool} (h : aggB P t = some b) (w : World) : (Go.isAgg t).run P w = .ok b w := by
  unfold aggB at h
  cases hu : P.underlying t with
  | none => rw [hu] at h; cases h
  | some d =>
    rw [hu] at h
    cases d <;> cases h <;> simp [Go.isAgg, run_und hu]
theorem run_zeroV {t : TypeId} {v : Value} (h : zeroV P t = some v) (w : World) : (Go.zeroValue t).run P w = .ok v w := by
  unfold zeroV at h
  cases hi : P.info? t with
  | none => rw [hi] at h; cases h
  | some i =>
    rw [hi] at h
    cases hz : i.zero with
    | none => simp [hz] at h
    | some z =>
      simp only [Option.bind_some, hz] at h
      split at h
      · cases h; simp [Go.zeroValue, run_info hi, hz]
      · cases h
theorem zeroV_konst {t : TypeId} {v : Value} (h : zeroV P t = some v) : VR ι v v := by
  unfold zeroV at h
  split at h
  · split at h
    · cases h; exact konst_refl _ _ (by assumption)
    · cases h
  · cases h

theorem asBool_run {v : Value} {b : Bool} (h : v = .bool b) (w : World) : (asBool v).run P w = .ok b w := by subst h; rfl
theorem place_inv {v v' : Value} {n : Nat} (h : place v = some n) (hv : VR ι v v') : ∃ k, v' = .int k (n : Int) := by
  unfold place at h
  split at h
  · cases h; cases hv; exact ⟨_, rfl⟩
  · cases h
theorem ltI_eq (x y : Int) : ltI x y = decide (x < y) := by
  unfold ltI
  cases x <;> cases y <;> simp only [] <;> rw [Bool.eq_iff_iff] <;> simp [Nat.blt_eq] <;> omega
theorem leI_eq (x y : Int) : (!decide (y < x)) = decide (x ≤ y) := by
  rw [Bool.eq_iff_iff]; simp
theorem eqI_eq (x y : Int) : eqI x y = (x == y) := by
  unfold eqI
  cases x <;> cases y <;> rw [Bool.eq_iff_iff] <;> simp [Nat.beq_eq] <;> omega
theorem fits_ok {x : Int} (h : fits x = true) : -9223372036854775808 ≤ x ∧ x < 9223372036854775808 := by
  unfold fits at h
  cases x with
  | ofNat n => simp [Nat.blt_eq] at h; have : (Int.ofNat n) = (n : Int) := rfl; omega
  | negSucc n => simp [Nat.blt_eq] at h; omega
theorem wrapF_eq (k : IntKind) (n : Int) : wrapF k n = k.wrap n := by
  unfold wrapF
  cases k <;> try rfl
  simp only []
  split
  · rename_i h
    have := fits_ok h
    exact (IntWalk.i64_in n (by omega)).symm
  · rfl

theorem binI_run {op : BinOp} {k : IntKind} {x y : Int} {v : Value} (h : binI op k x y = some v) (t : TypeId) (w : World) : (binOp op t (.int k x) (.int k y)).run P w = .ok v w ∧ VR ι v v := by
  cases op <;> simp only [binI] at h <;> first
    | (cases h; done)
    | (cases h; refine ⟨?_, by constructor⟩; simp [binOp, Op.intArith, wrapF_eq]; done)
    | (cases h; refine ⟨?_, by constructor⟩; simp [binOp, Op.intArith, wrapF_eq]; rfl)
    | (cases h; refine ⟨?_, by constructor⟩; simp [binOp, Op.intCmp, eqI_eq, ltI_eq, leI_eq, bne]; done)
    | (cases h; refine ⟨?_, by constructor⟩; simp [binOp, Op.intCmp, eqI_eq, ltI_eq, bne]; rw [← leI_eq]; done)
    | skip
  · split at h
    · cases h
    · rename_i h0
      rw [eqI_eq] at h0
      cases h
      have h0' : y ≠ 0 := by simpa using h0
      exact ⟨by simp [binOp, Op.intDiv, h0', wrapF_eq], by constructor⟩
  · split at h
    · cases h
    · rename_i h0
      rw [eqI_eq] at h0
      cases h
      have h0' : y ≠ 0 := by simpa using h0
      exact ⟨by simp [binOp, Op.intDiv, h0'], by constructor⟩

/-- The step of an operation that only reckons. -/
theorem yields_of {o : Oper} {v v' : Value} (hv : VR ι v v') (h : ∀ w, (execOp a.eval o).run P w = .ok (.value v') w) : Yields P ι a o v := ⟨v', hv, h⟩

theorem same1_ok {v u v' u' : Value} {b : Bool} (h : same1 v u = some b) (hv : VR ι v v') (hu : VR ι u u') : v' = v ∧ u' = u := by
  unfold same1 at h
  split at h
  · cases hv; cases hu; exact ⟨rfl, rfl⟩
  · cases h

theorem maxL_ok : ∀ {l : List Value} {v r : Value}, maxL v l = some r → ∀ {l' : List Value}, LR ι l l' → (∀ w, (l'.foldlM Builtin.max2 v : Sem Value).run P w = .ok r w) ∧ ((∃ k n, v = .int k n) → VR ι r r) := by
  intro l
  induction l with
  | nil =>
    intro v r h l' hl
    cases hl
    simp only [maxL, Option.some.injEq] at h
    subst h
    exact ⟨fun w => by simp, fun ⟨k, n, e⟩ => by subst e; exact .int k n⟩
  | cons x l ih =>
    intro v r h l' hl
    cases hl with
    | cons hx hl =>
      simp only [maxL] at h
      split at h
      · rename_i k p k2 q
        cases hx
        split at h <;> rename_i hlt
        · obtain ⟨h1, h2⟩ := ih h hl
          rw [ltI_eq] at hlt
          have hlt' : p < q := by simpa using hlt
          refine ⟨fun w => ?_, fun _ => h2 ⟨_, _, rfl⟩⟩
          simp only [List.foldlM_cons, Builtin.max2, Sem.run_bind, Sem.run_pure, Result.andThen_ok]
          rw [if_pos (show q > p from hlt')]
          exact h1 w
        · obtain ⟨h1, h2⟩ := ih h hl
          rw [ltI_eq] at hlt
          have hlt' : ¬ p < q := by simpa using hlt
          refine ⟨fun w => ?_, fun _ => h2 ⟨_, _, rfl⟩⟩
          simp only [List.foldlM_cons, Builtin.max2, Sem.run_bind, Sem.run_pure, Result.andThen_ok]
          rw [if_neg (show ¬ q > p from hlt')]
          exact h1 w
      · cases h
theorem minL_ok : ∀ {l : List Value} {v r : Value}, minL v l = some r → ∀ {l' : List Value}, LR ι l l' → (∀ w, (l'.foldlM Builtin.min2 v : Sem Value).run P w = .ok r w) ∧ ((∃ k n, v = .int k n) → VR ι r r) := by
  intro l
  induction l with
  | nil =>
    intro v r h l' hl
    cases hl
    simp only [minL, Option.some.injEq] at h
    subst h
    exact ⟨fun w => by simp, fun ⟨k, n, e⟩ => by subst e; exact .int k n⟩
  | cons x l ih =>
    intro v r h l' hl
    cases hl with
    | cons hx hl =>
      simp only [minL] at h
      split at h
      · rename_i k p k2 q
        cases hx
        split at h <;> rename_i hlt
        · obtain ⟨h1, h2⟩ := ih h hl
          rw [ltI_eq] at hlt
          have hlt' : q < p := by simpa using hlt
          refine ⟨fun w => ?_, fun _ => h2 ⟨_, _, rfl⟩⟩
          simp only [List.foldlM_cons, Builtin.min2, Sem.run_bind, Sem.run_pure, Result.andThen_ok]
          rw [if_pos hlt']
          exact h1 w
        · obtain ⟨h1, h2⟩ := ih h hl
          rw [ltI_eq] at hlt
          have hlt' : ¬ q < p := by simpa using hlt
          refine ⟨fun w => ?_, fun _ => h2 ⟨_, _, rfl⟩⟩
          simp only [List.foldlM_cons, Builtin.min2, Sem.run_bind, Sem.run_pure, Result.andThen_ok]
          rw [if_neg hlt']
          exact h1 w
      · cases h

theorem maxS_ok {k : IntKind} : ∀ {l : List Value} {v r : Value} {p : Int}, maxS k v l = some r → Den v k p → ∀ {l' : List Value}, LR ι l l' → ∃ n, Den r k n ∧ ∀ w, (l'.foldlM Builtin.max2 (.int k p) : Sem Value).run P w = .ok (.int k n) w := by
  intro l
  induction l with
  | nil =>
    intro v r p h hd l' hl
    cases hl
    simp only [maxS, Option.some.injEq] at h
    subst h
    exact ⟨p, hd, fun w => by simp⟩
  | cons x l ih =>
    intro v r p h hd l' hl
    cases hl with
    | cons hx hl =>
      simp only [maxS] at h
      split at h
      · rename_i k' hk
        split at h
        · rename_i hkk
          have hkk := kindB_eq hkk
          subst hkk
          obtain ⟨q, rfl, dq⟩ := symK_ok hk hx
          obtain ⟨n, hn, hr⟩ := ih h (.max hd dq) hl
          refine ⟨n, hn, fun w => ?_⟩
          rw [← hr w]
          simp only [List.foldlM_cons, Builtin.max2, Sem.run_bind, Sem.run_pure, Result.andThen_ok]
        · cases h
      · cases h
theorem minS_ok {k : IntKind} : ∀ {l : List Value} {v r : Value} {p : Int}, minS k v l = some r → Den v k p → ∀ {l' : List Value}, LR ι l l' → ∃ n, Den r k n ∧ ∀ w, (l'.foldlM Builtin.min2 (.int k p) : Sem Value).run P w = .ok (.int k n) w := by
  intro l
  induction l with
  | nil =>
    intro v r p h hd l' hl
    cases hl
    simp only [minS, Option.some.injEq] at h
    subst h
    exact ⟨p, hd, fun w => by simp⟩
  | cons x l ih =>
    intro v r p h hd l' hl
    cases hl with
    | cons hx hl =>
      simp only [minS] at h
      split at h
      · rename_i k' hk
        split at h
        · rename_i hkk
          have hkk := kindB_eq hkk
          subst hkk
          obtain ⟨q, rfl, dq⟩ := symK_ok hk hx
          obtain ⟨n, hn, hr⟩ := ih h (.min hd dq) hl
          refine ⟨n, hn, fun w => ?_⟩
          rw [← hr w]
          simp only [List.foldlM_cons, Builtin.min2, Sem.run_bind, Sem.run_pure, Result.andThen_ok]
        · cases h
      · cases h
theorem den_VR {v : Value} {k : IntKind} {n : Int} (h : Den v k n) : VR ι v (.int k n) := by
  cases h with
  | lit => exact .int _ _
  | _ => exact .sym (by constructor <;> assumption)

/-- A struct or an array laid out of parts. -/
theorem fill_step {cells : Array Value} {off : Nat} {cs : Array Value} (h : off + cs.size ≤ cells.size) :
    (cs.zipIdx.foldl (fun acc (c, j) => acc.setIfInBounds (off + j) c) cells).toList = cells.toList.take off ++ cs.toList ++ cells.toList.drop (off + cs.size) := by
  obtain ⟨cs⟩ := cs
  obtain ⟨cells⟩ := cells
  simp only [List.size_toArray] at h
  have key : ∀ (l : List Value) (i : Nat) (z : List Value), off + i + l.length ≤ z.length →
      ((l.zipIdx i).foldl (fun (acc : Array Value) (p : Value × Nat) => acc.setIfInBounds (off + p.2) p.1) z.toArray).toList = z.take (off + i) ++ l ++ z.drop (off + i + l.length) := by
    intro l
    induction l with
    | nil => intro i z _; simp
    | cons x l ih =>
      intro i z hz
      simp only [List.length_cons] at hz
      simp only [List.zipIdx_cons, List.foldl_cons, List.setIfInBounds_toArray]
      rw [ih (i + 1) (z.set (off + i) x) (by simp; omega)]
      have e1 : (z.set (off + i) x).take (off + (i + 1)) = z.take (off + i) ++ [x] := by
        rw [List.take_set, show off + (i + 1) = off + i + 1 from by omega, List.take_succ_eq_append_getElem (by omega)]
        rw [List.set_append_right _ _ (by simp; exact Nat.min_le_left _ _)]
        simp
        rw [Nat.min_eq_left (by omega), Nat.sub_self]
        rfl
      have e2 : (z.set (off + i) x).drop (off + (i + 1) + l.length) = z.drop (off + i + (l.length + 1)) := by
        rw [List.drop_set_of_lt (by omega)]
        congr 1
        omega
      rw [e1, e2]
      simp
  have := key cs 0 cells (by simpa using h)
  simpa using this

theorem lay_ok {pl : Nat → Option (Nat × Nat)} (hT : TR ι T a.tmps) : ∀ {l : List (Nat × Operand)} {ps : List (Nat × Nat × Opd)} {z z' r : List Value}, l.mapM (compPart pl) = some ps → lay T z ps = some r → LR ι z z' →
    ∃ r', Instr.fill pl z'.toArray (l.map fun p => (p.1, a.eval p.2)) = some r'.toArray ∧ LR ι r r' := by
  intro l
  induction l with
  | nil =>
    intro ps z z' r hc h hz
    simp at hc
    subst hc
    simp only [lay, Option.some.injEq] at h
    subst h
    exact ⟨z', rfl, hz⟩
  | cons p l ih =>
    intro ps z z' r hc h hz
    obtain ⟨i, x⟩ := p
    simp only [List.mapM_cons, bind, Option.bind] at hc
    cases h1 : compPart pl (i, x) with
    | none => rw [h1] at hc; cases hc
    | some q =>
      rw [h1] at hc
      simp only at hc
      cases h2 : l.mapM (compPart pl) with
      | none => rw [h2] at hc; cases hc
      | some qs =>
        rw [h2] at hc
        cases hc
        unfold compPart at h1
        simp only at h1
        cases hp : pl i with
        | none => rw [hp] at h1; cases h1
        | some on =>
          obtain ⟨off, n⟩ := on
          rw [hp] at h1
          cases hx : compX x with
          | none => rw [hx] at h1; cases h1
          | some y =>
            rw [hx] at h1
            cases h1
            simp only [lay] at h
            have hv := compX_ok hx hT
            have hcs := hv.cells
            cases hb : Nat.beq (len (cellsOf (oev T y))) n with
            | false => rw [hb] at h; cases h
            | true =>
              rw [hb] at h
              simp only at h
              cases ho : over z off (cellsOf (oev T y)) with
              | none => rw [ho] at h; cases h
              | some z1 =>
                rw [ho] at h
                simp only at h
                have hn : (a.eval x).cells.size = n := by
                  have e1 := Nat.eq_of_beq_eq_true hb
                  rw [len_eq, hcs.length] at e1
                  simpa using e1
                obtain ⟨h0, r1, hr1, hl1, he1⟩ := LR.over (tl := []) hz hcs ho
                obtain ⟨r', hf, hr'⟩ := ih h2 h hr1
                refine ⟨r', ?_, hr'⟩
                simp only [List.map_cons, Instr.fill, hp]
                have hle : off + (a.eval x).cells.size ≤ z'.length := by simpa using h0
                rw [if_neg (by simp [hn]; omega)]
                have e3 := fill_step (cells := z'.toArray) (off := off) (cs := (a.eval x).cells) (by simpa using hle)
                have e4 : (Array.foldl (fun cs x_1 => cs.setIfInBounds (off + x_1.snd) x_1.fst) z'.toArray (a.eval x).cells.zipIdx) = r1.toArray := by
                  apply Array.ext'
                  rw [e3]
                  simpa using he1
                rw [← hf]
                congr 1

theorem run_places : ∀ {fs : List Field} {pl : List (Nat × Nat)}, fs.mapM (fun f => match szOf P f.type with
        | some n => some (f.offset, n)
        | none => none) = some pl → ∀ w, (fs.mapM (fun f => (do pure (f.offset, ← sizeOf f.type) : Sem (Nat × Nat)))).run P w = .ok pl w := by
  intro fs
  induction fs with
  | nil => intro pl h w; simp at h; subst h; simp
  | cons f fs ih =>
    intro pl h w
    simp only [List.mapM_cons, bind, Option.bind] at h
    cases h1 : szOf P f.type with
    | none => rw [h1] at h; cases h
    | some n =>
      rw [h1] at h
      simp only at h
      split at h
      · cases h
      · rename_i r h2
        cases h
        simp only [List.mapM_cons, Sem.run_bind, run_sz h1, Result.andThen_ok, Sem.run_pure]
        rw [ih h2]
        rfl

/-- Bounds of a slice expression. -/
theorem cut_ok {l top top' m h : Nat} {lo hi : Option Operand} {lo' hi' : Option Opd} (hT : TR ι T a.tmps) (hlo : compO lo = some lo') (hhi : compO hi = some hi') (hc : cut T l top lo' hi' = some (m, h)) (ht : top ≤ top') (w : World) :
    (Instr.sliceBounds true l top' (lo.map a.eval) (hi.map a.eval) none).run P w = .ok (m, h, top') w ∧ m ≤ h ∧ (h ≤ top ∨ h = l) := by
  have hh : ∀ h0, cutHi T l top hi' = some h0 → (match hi.map a.eval, (none : Option Value) with
        | some v, some _ => Instr.sliceBound v top' .slice3B
        | some v, none => Instr.sliceBound v top' .sliceAcap
        | none, none => (pure l : Sem Nat)
        | none, some _ => stuck "Slice: max without high").run P w = .ok h0 w ∧ (h0 ≤ top ∨ h0 = l) := by
    intro h0 e0
    cases hi with
    | none =>
      simp only [compO, Option.some.injEq] at hhi
      subst hhi
      cases e0
      exact ⟨rfl, .inr rfl⟩
    | some x =>
      simp only [compO] at hhi
      cases hx : compX x with
      | none => rw [hx] at hhi; cases hhi
      | some y =>
        rw [hx] at hhi
        cases hhi
        simp only [cutHi] at e0
        cases hp : place (oev T y) with
        | none => rw [hp] at e0; cases e0
        | some h1 =>
          rw [hp] at e0
          simp only at e0
          cases hb : Nat.ble h1 top with
          | false => rw [hb] at e0; cases e0
          | true =>
            rw [hb] at e0
            cases e0
            have hle : h0 ≤ top := Nat.le_of_ble_eq_true hb
            obtain ⟨k, hk⟩ := place_inv hp (compX_ok hx hT)
            refine ⟨?_, .inl hle⟩
            simp only [Option.map_some, hk, Instr.sliceBound, asIntOf, Sem.run_bind, Sem.run_pure, Result.andThen_ok]
            rw [if_pos ⟨by omega, by omega⟩]
            rfl
  have hl : ∀ h0 m0, cutLo T h0 lo' = some m0 → (match lo.map a.eval with
      | some v => Instr.sliceBound v h0 (if (none : Option Value).isSome then .slice3C else .sliceB)
      | none => (pure 0 : Sem Nat)).run P w = .ok m0 w ∧ m0 ≤ h0 := by
    intro h0 m0 e0
    cases lo with
    | none =>
      simp only [compO, Option.some.injEq] at hlo
      subst hlo
      cases e0
      exact ⟨rfl, Nat.zero_le _⟩
    | some x =>
      simp only [compO] at hlo
      cases hx : compX x with
      | none => rw [hx] at hlo; cases hlo
      | some y =>
        rw [hx] at hlo
        cases hlo
        simp only [cutLo] at e0
        cases hp : place (oev T y) with
        | none => rw [hp] at e0; cases e0
        | some h1 =>
          rw [hp] at e0
          simp only at e0
          cases hb : Nat.ble h1 h0 with
          | false => rw [hb] at e0; cases e0
          | true =>
            rw [hb] at e0
            cases e0
            have hle : m0 ≤ h0 := Nat.le_of_ble_eq_true hb
            obtain ⟨k, hk⟩ := place_inv hp (compX_ok hx hT)
            refine ⟨?_, hle⟩
            simp only [Option.map_some, hk, Instr.sliceBound, asIntOf, Sem.run_bind, Sem.run_pure, Result.andThen_ok]
            rw [if_pos ⟨by omega, by omega⟩]
            rfl
  unfold cut at hc
  cases e1 : cutHi T l top hi' with
  | none => rw [e1] at hc; cases hc
  | some h0 =>
    rw [e1] at hc
    simp only at hc
    cases e2 : cutLo T h0 lo' with
    | none => rw [e2] at hc; cases hc
    | some m0 =>
      rw [e2] at hc
      cases hc
      obtain ⟨r1, hb⟩ := hh _ e1
      obtain ⟨r2, hle⟩ := hl _ _ e2
      refine ⟨?_, hle, hb⟩
      cases hi <;> cases lo <;> simp only [Option.map_none, Option.map_some, Sem.run_pure, Result.ok.injEq] at r1 r2 ⊢ <;> simp_all [Instr.sliceBounds]

theorem part_ok {ag : Bool} {t : TypeId} {size off : Nat} {l l' : List Value} {v : Value} (hag : aggB P t = some ag) (hsz : szOf P t = some size) (hl : LR ι l l')
    (he : partL ag l off size = some v) : ∃ v', VR ι v v' ∧ ∀ w, (part t ⟨l'⟩ off).run P w = .ok v' w := by
  cases ag with
  | true =>
    simp only [partL] at he
    cases hs : sub l off size with
    | none => rw [hs] at he; cases he
    | some r =>
      rw [hs] at he
      cases he
      obtain ⟨r', h1, h2, h3, h4⟩ := LR.sub (tl := []) hl hs
      refine ⟨.agg ⟨r'⟩, .agg h1, fun w => ?_⟩
      simp only [part, Sem.run_bind, run_agg hag, Result.andThen_ok, if_true, run_sz hsz, Sem.run_pure]
      congr 2
      apply Array.ext'
      simp only [List.append_nil] at h3
      simp [← h3, List.extract_toArray, List.extract_eq_take_drop]
  | false =>
    simp only [partL] at he
    obtain ⟨v', h1, h2⟩ := LR.nth (tl := []) hl he
    refine ⟨v', h2, fun w => ?_⟩
    have h1' : (⟨l'⟩ : Array Value)[off]? = some v' := by simpa using h1
    simp only [part, Sem.run_bind, run_agg hag, Result.andThen_ok]
    simp [h1']
end
end Go.Sim

/- Structs of plain cells, compared. -/
namespace Go.Sim
set_option linter.all false
open Go
variable [Rho] [Asm] [SymOK]
section
variable {P : Program} {ι : Io} {T : Tm} {a : Act}

theorem same1_plain {x y : Value} {b : Bool} (h : same1 x y = some b) : ∃ k p q, x = .int k p ∧ y = .int k q ∧ b = (p == q) := by
  unfold same1 at h
  split at h
  · rename_i k p l q
    split at h
    · rename_i hk
      cases kindB_eq hk
      cases h
      exact ⟨_, _, _, rfl, rfl, eqI_eq _ _⟩
    · cases h
  · cases h

theorem sameL_cons {x y : Value} {l m : List Value} {b : Bool} (h : sameL (x :: l) (y :: m) = some b) : ∃ c, same1 x y = some c ∧ ((c = true ∧ sameL l m = some b) ∨ (c = false ∧ b = false)) := by
  simp only [sameL] at h
  split at h
  · cases h
  · rename_i h1
    exact ⟨true, h1, .inl ⟨rfl, h⟩⟩
  · rename_i h1
    cases h
    exact ⟨false, h1, .inr ⟨rfl, rfl⟩⟩
theorem sameL_append : ∀ {l m : List Value} {l2 m2 : List Value} {b : Bool}, l.length = m.length → sameL (l ++ l2) (m ++ m2) = some b → ∃ c, sameL l m = some c ∧ ((c = true ∧ sameL l2 m2 = some b) ∨ (c = false ∧ b = false))
  | [], [], _, _, b, _, h => ⟨true, rfl, .inl ⟨rfl, h⟩⟩
  | [], _ :: _, _, _, _, h, _ => by simp at h
  | _ :: _, [], _, _, _, h, _ => by simp at h
  | x :: l, y :: m, l2, m2, b, hl, h => by
    obtain ⟨c, h1, h2⟩ := sameL_cons h
    rcases h2 with ⟨rfl, h2⟩ | ⟨rfl, rfl⟩
    · obtain ⟨c2, h3, h4⟩ := sameL_append (by simpa using hl) h2
      exact ⟨c2, by simp only [sameL, h1, h3], h4⟩
    · exact ⟨false, by simp only [sameL, h1], .inr ⟨rfl, rfl⟩⟩
theorem sameL_real : ∀ {l m l' m' : List Value} {b : Bool}, sameL l m = some b → LR ι l l' → LR ι m m' → sameL l' m' = some b
  | [], [], _, _, _, h, hl, hm => by cases hl; cases hm; exact h
  | [], _ :: _, _, _, _, h, _, _ => by simp [sameL] at h
  | _ :: _, [], _, _, _, h, _, _ => by simp [sameL] at h
  | x :: l, y :: m, _, _, b, h, hl, hm => by
    obtain ⟨c, h1, h2⟩ := sameL_cons h
    cases hl with
    | cons hx hl =>
      cases hm with
      | cons hy hm =>
        obtain ⟨e1, e2⟩ := same1_ok h1 hx hy
        rw [e1, e2]
        rcases h2 with ⟨rfl, h2⟩ | ⟨rfl, rfl⟩
        · simp only [sameL, h1, sameL_real h2 hl hm]
        · simp only [sameL, h1]
/-- What is told the same is the same, and all numbers. -/
theorem sameL_true : ∀ {l m : List Value}, sameL l m = some true → m = l ∧ ∀ x ∈ l, ∃ k n, x = .int k n
  | [], [], _ => ⟨rfl, by simp⟩
  | [], _ :: _, h => by simp [sameL] at h
  | _ :: _, [], h => by simp [sameL] at h
  | x :: l, y :: m, h => by
    obtain ⟨c, h1, h2⟩ := sameL_cons h
    rcases h2 with ⟨rfl, h2⟩ | ⟨rfl, h2⟩
    · obtain ⟨k, p, q, rfl, rfl, h3⟩ := same1_plain h1
      have : p = q := by simpa using h3.symm
      subst this
      obtain ⟨e1, e2⟩ := sameL_true h2
      exact ⟨by rw [e1], fun x hx => (List.mem_cons.1 hx).elim (fun e => ⟨_, _, e⟩) (e2 x)⟩
    · cases h2

/-- The value of a type whose cells are l. -/
def Holds (P : Program) (t : TypeId) (l : List Value) (x : Value) : Prop := ∃ b, aggB P t = some b ∧ (if b then x = .agg ⟨l⟩ else l = [x])

theorem part_holds {t : TypeId} {n off : Nat} {l : List Value} (ht : (aggB P t).isSome) (hs : szOf P t = some n) (hn : aggB P t = some false → n = 1) (h : off + n ≤ l.length) (w : World) :
    ∃ x, (part t ⟨l⟩ off).run P w = .ok x w ∧ Holds P t ((l.drop off).take n) x := by
  obtain ⟨b, hb⟩ := Option.isSome_iff_exists.1 ht
  cases b with
  | true =>
    refine ⟨.agg ⟨(l.drop off).take n⟩, ?_, true, hb, rfl⟩
    simp only [part, Sem.run_bind, run_agg hb, Result.andThen_ok, if_true, run_sz hs, Sem.run_pure]
    congr 2
    apply Array.ext'
    simp [List.extract_eq_take_drop]
  | false =>
    have h1 := hn hb
    subst h1
    have hlt : off < l.length := by omega
    refine ⟨l[off], ?_, false, hb, ?_⟩
    · have : (⟨l⟩ : Array Value)[off]? = some l[off] := by simp [hlt]
      simp only [part, Sem.run_bind, run_agg hb, Result.andThen_ok]
      simp [this]
    · simp only [Bool.false_eq_true, if_false]
      rw [List.drop_eq_getElem_cons hlt]
      rfl

theorem eqT_agg : ∀ {d : Nat} {t : TypeId} {n : Nat}, eqT P d t = some n → (aggB P t).isSome ∧ (aggB P t = some false → n = 1)
  | 0, _, _, h => by simp [eqT] at h
  | d + 1, t, n, h => by
    unfold eqT at h
    split at h
    · rename_i k hu; cases h; simp [aggB, hu]
    · rename_i fs hu; simp [aggB, hu]
    · cases h

theorem eqFs_ok {eq : TypeId → Option Nat} {D : Nat} (ih : ∀ t n, eq t = some n → (aggB P t).isSome ∧ (aggB P t = some false → n = 1) ∧ ∀ l m x y b w, Holds P t l x → Holds P t m y → l.length = n → m.length = n → sameL l m = some b → (Op.equalIn D t x y).run P w = .ok b w) :
    ∀ {fs : List Field} {off n : Nat} {l m : List Value} {b : Bool} {w : World}, eqFs P eq fs off = some n → l.length = n → m.length = n → sameL (l.drop off) (m.drop off) = some b → off ≤ n →
      (Op.eqFields D ⟨l⟩ ⟨m⟩ fs).run P w = .ok b w
  | [], off, n, l, m, b, w, h, hl, hm, hs, _ => by
    simp only [eqFs, Option.some.injEq] at h
    subst h
    rw [List.drop_of_length_le (by omega), List.drop_of_length_le (by omega)] at hs
    simp only [sameL, Option.some.injEq] at hs
    subst hs
    rfl
  | f :: fs, off, n, l, m, b, w, h, hl, hm, hs, hle => by
    simp only [eqFs] at h
    cases he : eq f.type with
    | none => rw [he] at h; cases h
    | some k =>
      rw [he] at h
      simp only at h
      split at h
      · rename_i hc
        obtain ⟨h1, h2, h3⟩ := hc
        obtain ⟨i1, i2, i3⟩ := ih _ _ he
        have hk : off + k ≤ n := by
          have : ∀ {fs : List Field} {o : Nat}, eqFs P eq fs o = some n → o ≤ n := by
            intro fs
            induction fs with
            | nil => intro o h; simp only [eqFs, Option.some.injEq] at h; omega
            | cons f fs ihf =>
              intro o h
              simp only [eqFs] at h
              split at h
              · cases h
              · split at h
                · have := ihf h; omega
                · cases h
          exact this h
        obtain ⟨x, hx, hx2⟩ := part_holds (off := off) (l := l) i1 h3 i2 (by omega) w
        obtain ⟨y, hy, hy2⟩ := part_holds (off := off) (l := m) i1 h3 i2 (by omega) w
        have e1 : l.drop off = (l.drop off).take k ++ l.drop (off + k) := by rw [← List.drop_drop, List.take_append_drop]
        have e2 : m.drop off = (m.drop off).take k ++ m.drop (off + k) := by rw [← List.drop_drop, List.take_append_drop]
        rw [e1, e2] at hs
        obtain ⟨c, hc, hd⟩ := sameL_append (by simp; omega) hs
        have r := i3 _ _ x y c w hx2 hy2 (by simp; omega) (by simp; omega) hc
        simp only [Op.eqFields, h2, ne_eq, not_false_eq_true, if_true, Sem.run_bind, h1, hx, hy, Result.andThen_ok, r, Sem.run_ite]
        rcases hd with ⟨rfl, hd⟩ | ⟨rfl, rfl⟩
        · simp only [Bool.not_true, Bool.false_eq_true, if_false]
          exact eqFs_ok ih h hl hm hd hk
        · rfl
      · cases h

theorem eqT_ok : ∀ {d : Nat} {t : TypeId} {n : Nat}, eqT P d t = some n → ∀ {D : Nat} {l m : List Value} {x y : Value} {b : Bool} {w : World}, Holds P t l x → Holds P t m y → l.length = n → m.length = n → sameL l m = some b →
    (Op.equalIn (d + D) t x y).run P w = .ok b w
  | 0, _, _, h, _, _, _, _, _, _, _, _, _, _, _, _ => by simp [eqT] at h
  | d + 1, t, n, h, D, l, m, x, y, b, w, hx, hy, hl, hm, hs => by
    unfold eqT at h
    rw [show d + 1 + D = (d + D) + 1 from by omega]
    split at h
    · rename_i k hu
      cases h
      have ha : aggB P t = some false := by simp [aggB, hu]
      obtain ⟨b1, hb1, hx⟩ := hx
      obtain ⟨b2, hb2, hy⟩ := hy
      rw [ha] at hb1 hb2
      cases hb1
      cases hb2
      simp only [Bool.false_eq_true, if_false] at hx hy
      subst hx
      subst hy
      obtain ⟨c, hc, hd⟩ := sameL_cons hs
      obtain ⟨k', p, q, rfl, rfl, e⟩ := same1_plain hc
      have hb : b = (p == q) := by
        rcases hd with ⟨rfl, hd⟩ | ⟨rfl, rfl⟩
        · simp only [sameL, Option.some.injEq] at hd
          rw [← hd, ← e]
        · exact e
      rw [hb]
      exact run_equalIn_int w _ t k' _ p q hu
    · rename_i fs hu
      split at h
      · cases h
      · rename_i hst
        have hf : P.fieldsOf t = fs := by simp [Program.fieldsOf, hu]
        have ha : aggB P t = some true := by simp [aggB, hu]
        obtain ⟨b1, hb1, hx⟩ := hx
        obtain ⟨b2, hb2, hy⟩ := hy
        rw [ha] at hb1 hb2
        cases hb1
        cases hb2
        simp only [if_true] at hx hy
        subst hx
        subst hy
        rw [run_equalIn_struct w _ t _ _ (by rw [hf]; exact hu) (by simpa using hst), hf]
        exact eqFs_ok (fun t n he => ⟨(eqT_agg he).1, (eqT_agg he).2, fun l m x y b w h1 h2 h3 h4 h5 => eqT_ok he h1 h2 h3 h4 h5⟩) h hl hm (by simpa using hs) (Nat.zero_le _)
    · cases h

theorem VR.boolI {b : Bool} {v : Value} (h : VR ι (.bool b) v) : v = .bool b := by cases h; rfl
theorem VR.intI {k : IntKind} {n : Int} {v : Value} (h : VR ι (.int k n) v) : v = .int k n := by cases h; rfl
theorem VR.strI {s : ByteArray} {v : Value} (h : VR ι (.string s) v) : v = .string s := by cases h; rfl
theorem VR.aggI {l : List Value} {v : Value} (h : VR ι (.agg ⟨l⟩) v) : ∃ l', v = .agg ⟨l'⟩ ∧ LR ι l l' := by cases h; exact ⟨_, rfl, by assumption⟩
theorem VR.tupI {l : List Value} {v : Value} (h : VR ι (.tuple ⟨l⟩) v) : ∃ l', v = .tuple ⟨l'⟩ ∧ LR ι l l' := by cases h; exact ⟨_, rfl, by assumption⟩
theorem VR.ptrI {b o : Nat} {v : Value} (h : VR ι (.pointer (some ⟨b, o, none⟩)) v) : ∃ r c, v = .pointer (some ⟨r, o, none⟩) ∧ ι b = some (r, c) := by cases h; exact ⟨_, _, rfl, by assumption⟩
theorem VR.ptrA {x : Addr} {v : Value} (h : VR ι (.pointer (some x)) v) : ∃ y, v = .pointer (some y) := by cases h; exact ⟨_, rfl⟩
theorem VR.ptr0I {v : Value} (h : VR ι (.pointer none) v) : v = .pointer none := by cases h; rfl
theorem VR.sl0I {n k : Nat} {v : Value} (hk : k < 2 ^ 64) (h : VR ι (.slice none n k) v) : v = .slice none n k := by
  generalize hc : (Value.slice none n k) = x at h
  cases h <;> cases hc
  · omega
  · rfl
theorem VR.slI {b o n k : Nat} {v : Value} (hk : k < 2 ^ 64) (h : VR ι (.slice (some ⟨b, o, none⟩) n k) v) : ∃ r c, v = .slice (some ⟨r, o, none⟩) n k ∧ ι b = some (r, c) := by
  cases h
  · exact ⟨_, _, rfl, by assumption⟩
  · omega
theorem VR.slN {x : Option Addr} {n k : Nat} {v : Value} (h : VR ι (.slice x n k) v) : ∃ y k', v = .slice y n k' := by cases h <;> exact ⟨_, _, rfl⟩
theorem VR.slUI {b o n z : Nat} {v : Value} (h : VR ι (.slice (some ⟨b, o, none⟩) n (2 ^ 64 + z)) v) : ∃ r c k, v = .slice (some ⟨r, o, none⟩) n k ∧ ι b = some (r, c) ∧ n ≤ k ∧ o + k * z = c ∧ 0 < z ∧ z < 2 ^ 64 := by
  generalize hc : 2 ^ 64 + z = cc at h
  cases h with
  | sl hb hk => omega
  | slU hb h1 h2 h3 h4 =>
    have hz := Nat.add_left_cancel hc
    subst hz
    exact ⟨_, _, _, rfl, hb, h1, h2, h3, h4⟩
theorem VR.slB {b o n k : Nat} {v : Value} (h : VR ι (.slice (some ⟨b, o, none⟩) n k) v) : ∃ r c k', v = .slice (some ⟨r, o, none⟩) n k' ∧ ι b = some (r, c) := by cases h <;> exact ⟨_, _, _, rfl, by assumption⟩
theorem VR.mapI {b : Nat} {v : Value} (h : VR ι (.map (some b)) v) : ∃ r c, v = .map (some r) ∧ ι b = some (r, c) := by cases h; exact ⟨_, _, rfl, by assumption⟩
theorem VR.map0I {v : Value} (h : VR ι (.map none) v) : v = .map none := by cases h; rfl
theorem map_ok {x : Option Opd} {g : Opd → POp} {p : POp} (h : x.map g = some p) : ∃ y, x = some y ∧ p = g y := by
  cases x with
  | none => cases h
  | some y => exact ⟨y, rfl, by cases h; rfl⟩

theorem appU_eq : ∀ (l m : List UInt8), appU l m = l ++ m
  | [], m => rfl
  | v :: l, m => by simp [appU, appU_eq l m]
theorem lenU_eq : ∀ (l : List UInt8), lenU l = l.length
  | [] => rfl
  | _ :: l => by simp [lenU, lenU_eq l]
theorem eqU_eq : ∀ (l m : List UInt8), eqU l m = (l == m)
  | [], [] => rfl
  | [], _ :: _ => rfl
  | _ :: _, [] => rfl
  | a :: l, b :: m => by
    simp only [eqU, List.cons_beq_cons]
    split
    · rename_i h
      have := Nat.eq_of_beq_eq_true h
      rw [eqU_eq l m, UInt8.toNat_inj.1 this]
      simp
    · rename_i h
      have := Nat.ne_of_beq_eq_false h
      have hne : a ≠ b := fun e => this (by rw [e])
      simp [hne]
theorem p_str_inv {op : BinOp} {v u r : Value} (h : p_str op v u = some r) : (∃ a b, v = .string ⟨⟨a⟩⟩ ∧ u = .string ⟨⟨b⟩⟩ ∧ strB op a b = some r) ∨ p_sym op v u = some r := by
  unfold p_str at h
  split at h
  · exact .inl ⟨_, _, rfl, rfl, h⟩
  · exact .inr h
theorem strB_run {op : BinOp} {a b : List UInt8} {v : Value} (h : strB op a b = some v) (t : TypeId) (w : World) : (binOp op t (.string ⟨⟨a⟩⟩) (.string ⟨⟨b⟩⟩)).run P w = .ok v w ∧ VR ι v v := by
  have e : ∀ l : List UInt8, (ByteArray.mk ⟨l⟩).toList = l := fun l => ByteArray.toList_mk l
  cases op <;> simp only [strB] at h <;> first | (cases h; done) | skip
  · split at h
    · rename_i hl
      cases h
      refine ⟨?_, .str _⟩
      have hl := Nat.le_of_ble_eq_true hl
      rw [lenU_eq, lenU_eq] at hl
      have hl : a.length + b.length ≤ 1048576 := hl
      rw [binOp_string_add, appU_eq]
      exact run_string_add_lists w a b (by omega) (by omega)
    · cases h
  · cases h
    refine ⟨?_, .bool _⟩
    rw [binOp_string_eql, e, e, eqU_eq]
    rfl
  · cases h
    refine ⟨?_, .bool _⟩
    rw [binOp_string_neq, e, e, eqU_eq]
    rfl

theorem p_sym_run {op : BinOp} {v u v' u' r : Value} (h : p_sym op v u = some r) (hv : VR ι v v') (hu : VR ι u u') (t : TypeId) (x y : Operand) :
    ∃ r', VR ι r r' ∧ ∀ w, (binOp op t v' u').run P w = .ok r' w ∧ (eqGuard op t x y v' u').run P w = .ok () w := by
  unfold p_sym at h
  split at h
  · rename_i k l hk hl
    obtain ⟨p, rfl, dp⟩ := symK_ok hk hv
    obtain ⟨q, rfl, dq⟩ := symK_ok hl hu
    split at h
    · cases h
    · rename_i hkk
      have hkk := kindB_eq hkk
      subst hkk
      have g : ∀ w, (eqGuard op t x y (.int k p) (.int k q)).run P w = .ok () w := fun w => by cases op <;> simp [eqGuard]
      have leq : ∀ a b : Int, (!decide (b < a)) = decide (a ≤ b) := fun a b => by rw [Bool.eq_iff_iff]; simp
      split at h <;> cases h
      · exact ⟨_, .sym (.add dp dq), fun w => ⟨by simp [binOp, Op.intArith], g w⟩⟩
      · exact ⟨_, .sym (.sub dp dq), fun w => ⟨by simp [binOp, Op.intArith], g w⟩⟩
      · exact ⟨_, .sym (.mul dp dq), fun w => ⟨by simp [binOp, Op.intArith], g w⟩⟩
      · exact ⟨_, dec_ok (.eq dp dq), fun w => ⟨by simp [binOp, Op.intCmp], g w⟩⟩
      · exact ⟨_, decNot_ok (.eq dp dq), fun w => ⟨by simp [binOp, Op.intCmp, bne], g w⟩⟩
      · exact ⟨_, dec_ok (.lt dp dq), fun w => ⟨by simp [binOp, Op.intCmp], g w⟩⟩
      · exact ⟨_, dec_ok (.lt dq dp), fun w => ⟨by simp [binOp, Op.intCmp], g w⟩⟩
      · exact ⟨_, decNot_ok (.lt dq dp), fun w => ⟨by simp [binOp, Op.intCmp, leq], g w⟩⟩
      · exact ⟨_, decNot_ok (.lt dp dq), fun w => ⟨by simp [binOp, Op.intCmp, leq], g w⟩⟩
  · cases h

theorem sameX_real {l m l' m' : List Value} {b : Bool} (h : sameX l m = some b) (hl : LR ι l l') (hm : LR ι m m') : sameL l' m' = some b := by
  unfold sameX at h
  split at h
  · rename_i c hc
    cases h
    exact sameL_real hc hl hm
  · exact symL_real h hl hm

theorem evBin_ok {op : BinOp} {t yt : TypeId} {x y : Operand} {x' y' : Opd} {v : Value} {dst : Option Tmp} {ty : TypeId} {pos : String} {after : Array Edge} {guard : Option (Nat × Bool)}
    (hx : compX x = some x') (hy : compX y = some y') (hT : TR ι T a.tmps) (he : evP T (.bin op x' y') = some v) : Yields P ι a ⟨dst, .binOp op t x y yt, ty, pos, after, guard⟩ v := by
  have h1 := compX_ok hx hT
  have h2 := compX_ok hy hT
  simp only [evP, evPd, p_mov, p_pick, p_build, p_bin, p_eqB, p_eqG, p_isNil, p_neg, p_not, p_conv, p_mki, p_mkf, p_fld, p_idxA, p_idxS, p_ext, p_fad, p_iadS, p_iadA, p_slcS, p_slcT, p_slcA, p_lenS, p_lenT, p_lenC, p_max, p_min, p_nilc] at he
  split at he
  · rename_i k p l q e1 e2
    rw [e1] at h1
    rw [e2] at h2
    split at he
    · rename_i hk
      cases kindB_eq hk
      refine ⟨v, (binI_run (P := P) (ι := ι) he t default).2, fun w => ?_⟩
      have r := (binI_run (P := P) (ι := ι) he t w).1
      simp only [execOp, h1.intI, h2.intI, Sem.run_bind]
      have g : (eqGuard op t x y (.int k p) (.int k q)).run P w = .ok () w := by cases op <;> simp [eqGuard]
      rw [g]
      simp only [Result.andThen_ok, r, Sem.run_pure]
    · cases he
  · rcases p_str_inv he with ⟨p, q, e1, e2, he⟩ | he
    case inr =>
      obtain ⟨r', h3, h4⟩ := p_sym_run (P := P) he h1 h2 t x y
      refine ⟨r', h3, fun w => ?_⟩
      simp only [execOp, Sem.run_bind, (h4 w).2, Result.andThen_ok, (h4 w).1, Sem.run_pure]
    rw [e1] at h1
    rw [e2] at h2
    refine ⟨v, (strB_run (P := P) (ι := ι) he t default).2, fun w => ?_⟩
    have r := (strB_run (P := P) (ι := ι) he t w).1
    simp only [execOp, h1.strI, h2.strI, Sem.run_bind]
    have g : (eqGuard op t x y (.string ⟨⟨p⟩⟩) (.string ⟨⟨q⟩⟩)).run P w = .ok () w := by cases op <;> simp [eqGuard]
    rw [g]
    simp only [Result.andThen_ok, r, Sem.run_pure]

theorem evP_ok {o : Oper} {p : POp} {v : Value} (hc : compP P o = some p) (hT : TR ι T a.tmps) (he : evP T p = some v) : Yields P ι a o v := by
  obtain ⟨dst, op, type, pos, after, guard⟩ := o
  cases op <;> simp only [compP] at hc <;> try (cases hc; done)
  case move x =>
    obtain ⟨y, hx, rfl⟩ := map_ok hc
    simp only [evP, evPd, p_mov, p_pick, p_build, p_bin, p_eqB, p_eqG, p_isNil, p_neg, p_not, p_conv, p_mki, p_mkf, p_fld, p_idxA, p_idxS, p_ext, p_fad, p_iadS, p_iadA, p_slcS, p_slcT, p_slcA, p_lenS, p_lenT, p_lenC, p_max, p_min, p_nilc, Option.some.injEq] at he
    subst he
    exact ⟨_, compX_ok hx hT, fun w => rfl⟩
  case assign x =>
    obtain ⟨y, hx, rfl⟩ := map_ok hc
    simp only [evP, evPd, p_mov, p_pick, p_build, p_bin, p_eqB, p_eqG, p_isNil, p_neg, p_not, p_conv, p_mki, p_mkf, p_fld, p_idxA, p_idxS, p_ext, p_fad, p_iadS, p_iadA, p_slcS, p_slcT, p_slcA, p_lenS, p_lenT, p_lenC, p_max, p_min, p_nilc, Option.some.injEq] at he
    subst he
    exact ⟨_, compX_ok hx hT, fun w => rfl⟩
  case pick c x y =>
    simp only [bind, Option.bind_eq_some_iff, Option.some.injEq] at hc
    obtain ⟨c', hc', x', hx', y', hy', rfl⟩ := hc
    have h1 := compX_ok hc' hT
    have h2 := compX_ok hx' hT
    have h3 := compX_ok hy' hT
    simp only [evP, evPd, p_mov, p_pick, p_build, p_bin, p_eqB, p_eqG, p_isNil, p_neg, p_not, p_conv, p_mki, p_mkf, p_fld, p_idxA, p_idxS, p_ext, p_fad, p_iadS, p_iadA, p_slcS, p_slcT, p_slcA, p_lenS, p_lenT, p_lenC, p_max, p_min, p_nilc] at he
    split at he
    · rename_i hb
      rw [hb] at h1
      cases he
      exact ⟨_, h2, fun w => by simp [execOp, h1.boolI, asBool]⟩
    · rename_i hb
      rw [hb] at h1
      cases he
      exact ⟨_, h3, fun w => by simp [execOp, h1.boolI, asBool]⟩
    · cases he
  case build t parts =>
    simp only [bind, Option.bind_eq_some_iff] at hc
    obtain ⟨z, hz, hc⟩ := hc
    split at hc
    · rename_i fs hu
      split at hc
      · rename_i pl hpl
        split at hc
        · rename_i ps hps
          cases hc
          simp only [evP, evPd, p_mov, p_pick, p_build, p_bin, p_eqB, p_eqG, p_isNil, p_neg, p_not, p_conv, p_mki, p_mkf, p_fld, p_idxA, p_idxS, p_ext, p_fad, p_iadS, p_iadA, p_slcS, p_slcT, p_slcA, p_lenS, p_lenT, p_lenC, p_max, p_min, p_nilc] at he
          split at he
          · rename_i cs hlay
            cases he
            obtain ⟨r', hf, hr⟩ := lay_ok hT hps hlay (zeroV_konst hz).cells
            refine ⟨.agg ⟨r'⟩, .agg hr, fun w => ?_⟩
            simp only [execOp, Instr.build, Sem.run_bind, run_zeroV hz, run_und hu, Result.andThen_ok]
            have hm : (fs.mapM (fun f => (do pure (f.offset, ← sizeOf f.type) : Sem (Nat × Nat)))).run P w = .ok pl.toArray w := by
              rw [Array.mapM_eq_mapM_toList]
              simp only [Sem.run_map, run_places hpl, Result.andThen_ok]
            rw [hm]
            simp only [Result.andThen_ok, Array.toList_map]
            have hf' : Instr.fill (fun x => pl.toArray[x]?) z.cells (parts.toList.map fun p => (p.1, a.eval p.2)) = some r'.toArray := by simpa using hf
            rw [hf']
            rfl
          · cases he
        · cases hc
      · cases hc
    · rename_i len e hu
      split at hc
      · rename_i n hn
        split at hc
        · rename_i ps hps
          cases hc
          simp only [evP, evPd, p_mov, p_pick, p_build, p_bin, p_eqB, p_eqG, p_isNil, p_neg, p_not, p_conv, p_mki, p_mkf, p_fld, p_idxA, p_idxS, p_ext, p_fad, p_iadS, p_iadA, p_slcS, p_slcT, p_slcA, p_lenS, p_lenT, p_lenC, p_max, p_min, p_nilc] at he
          split at he
          · rename_i cs hlay
            cases he
            obtain ⟨r', hf, hr⟩ := lay_ok hT hps hlay (zeroV_konst hz).cells
            refine ⟨.agg ⟨r'⟩, .agg hr, fun w => ?_⟩
            simp only [execOp, Instr.build, Sem.run_bind, run_zeroV hz, run_und hu, run_sz hn, Result.andThen_ok, Array.toList_map]
            have hf' : Instr.fill (fun i => some (i * n, n)) z.cells (parts.toList.map fun p => (p.1, a.eval p.2)) = some r'.toArray := by simpa using hf
            rw [hf']
            rfl
          · cases he
        · cases hc
      · cases hc
    · cases hc
  case binOp op t x y yt =>
    have hB : ∀ (x' y' : Opd) (neg : Bool), P.underlying t = some .bool → compX x = some x' → compX y = some y' → evP T (.eqB neg x' y') = some v → (∀ (p q : Bool) w, (binOp op t (.bool p) (.bool q)).run P w = .ok (.bool (xor neg (p == q))) w) →
        (∀ (p q : Bool) w, (eqGuard op t x y (.bool p) (.bool q)).run P w = .ok () w) → Yields P ι a ⟨dst, .binOp op t x y yt, type, pos, after, guard⟩ v := by
      intro x' y' neg hu hx hy he hr hg
      have h1 := compX_ok hx hT
      have h2 := compX_ok hy hT
      simp only [evP, evPd, p_mov, p_pick, p_build, p_bin, p_eqB, p_eqG, p_isNil, p_neg, p_not, p_conv, p_mki, p_mkf, p_fld, p_idxA, p_idxS, p_ext, p_fad, p_iadS, p_iadA, p_slcS, p_slcT, p_slcA, p_lenS, p_lenT, p_lenC, p_max, p_min, p_nilc] at he
      split at he
      · rename_i p q e1 e2
        rw [e1] at h1
        rw [e2] at h2
        cases he
        exact ⟨_, .bool _, fun w => by simp only [execOp, h1.boolI, h2.boolI, Sem.run_bind, hg, hr, Result.andThen_ok, Sem.run_pure]⟩
      · split at he
        · rename_i s1 s2
          obtain ⟨p, ep, dp⟩ := symBv_ok s1 h1
          obtain ⟨q, eq_, dq⟩ := symBv_ok s2 h2
          have hx : DenB (nd 24 (oev T x') [oev T y']) (p ^^ q) := .xor dp dq
          have hrun : ∀ w, (execOp a.eval ⟨dst, .binOp op t x y yt, type, pos, after, guard⟩).run P w = .ok (.value (.bool (Bool.xor neg (p == q)))) w := fun w => by
            simp only [execOp, ep, eq_, Sem.run_bind, hg, hr, Result.andThen_ok, Sem.run_pure]
          split at he
          · cases he
            refine ⟨_, dec_ok hx, fun w => ?_⟩
            rw [hrun w]
            cases p <;> cases q <;> rfl
          · cases he
            refine ⟨_, decNot_ok hx, fun w => ?_⟩
            rw [hrun w]
            cases p <;> cases q <;> rfl
        · cases he
    have hS : ∀ (x' y' : Opd) (n : Nat) (neg : Bool), eqT P 6 t = some n → aggB P t = some true → P.eqGuardType P.depth t = false → compX x = some x' → compX y = some y' → evP T (.eqG neg n x' y') = some v →
        (∀ (p q : Array Value) (b : Bool) w, (Op.equalIn 10000 t (.agg p) (.agg q)).run P w = .ok b w → (binOp op t (.agg p) (.agg q)).run P w = .ok (.bool (xor neg b)) w) → Yields P ι a ⟨dst, .binOp op t x y yt, type, pos, after, guard⟩ v := by
      intro x' y' n neg hn hag hgd hx hy he hr
      have h1 := compX_ok hx hT
      have h2 := compX_ok hy hT
      simp only [evP, evPd, p_mov, p_pick, p_build, p_bin, p_eqB, p_eqG, p_isNil, p_neg, p_not, p_conv, p_mki, p_mkf, p_fld, p_idxA, p_idxS, p_ext, p_fad, p_iadS, p_iadA, p_slcS, p_slcT, p_slcA, p_lenS, p_lenT, p_lenC, p_max, p_min, p_nilc] at he
      split at he
      · rename_i l m e1 e2
        rw [e1] at h1
        rw [e2] at h2
        obtain ⟨l', hl1, hl2⟩ := h1.aggI
        obtain ⟨m', hm1, hm2⟩ := h2.aggI
        split at he
        · rename_i hlen hlen2
          split at he
          case h_2 => cases he
          rename_i b hs
          cases he
          refine ⟨_, .bool _, fun w => ?_⟩
          have hln := Nat.eq_of_beq_eq_true hlen
          have hln2 := Nat.eq_of_beq_eq_true hlen2
          rw [len_eq, hl2.length] at hln
          rw [len_eq, hm2.length] at hln2
          have := eqT_ok (D := 9994) (w := w) hn ⟨true, hag, rfl⟩ ⟨true, hag, rfl⟩ hln hln2 (sameX_real hs hl2 hm2)
          simp only [execOp, hl1, hm1, Sem.run_bind, run_eqGuard_agg w op t x y _ _ hgd, Result.andThen_ok, hr _ _ _ w this, Sem.run_pure]
        · cases he
      · cases he
    split at hc
    · rename_i hu
      simp only [bind, Option.bind_eq_some_iff, Option.some.injEq] at hc
      obtain ⟨x', hx, y', hy, rfl⟩ := hc
      exact hB x' y' false hu hx hy he (fun p q w => by simp [binOp, Op.equal, Op.maxDepth, run_equalIn_bool' w _ t p q hu]) (fun p q w => by simp [eqGuard])
    · rename_i hu
      simp only [bind, Option.bind_eq_some_iff, Option.some.injEq] at hc
      obtain ⟨x', hx, y', hy, rfl⟩ := hc
      exact hB x' y' true hu hx hy he (fun p q w => by simp [binOp, Op.equal, Op.maxDepth, run_equalIn_bool' w _ t p q hu]) (fun p q w => by simp [eqGuard])
    · simp only [bind, Option.bind_eq_some_iff, Option.some.injEq] at hc
      obtain ⟨x', hx, y', hy, rfl⟩ := hc
      exact evBin_ok hx hy hT he
    · simp only [bind, Option.bind_eq_some_iff, Option.some.injEq] at hc
      obtain ⟨x', hx, y', hy, rfl⟩ := hc
      exact evBin_ok hx hy hT he
    · simp only [bind, Option.bind_eq_some_iff, Option.some.injEq] at hc
      obtain ⟨x', hx, y', hy, rfl⟩ := hc
      exact evBin_ok hx hy hT he
    · simp only [bind, Option.bind_eq_some_iff, Option.some.injEq] at hc
      obtain ⟨x', hx, y', hy, rfl⟩ := hc
      exact evBin_ok hx hy hT he
    · rename_i fs hu
      have hag : aggB P t = some true := by simp [aggB, hu]
      split at hc
      · rename_i n x' y' hn hx hy
        split at hc
        · cases hc
        · rename_i hgd
          cases hc
          exact hS x' y' n false hn hag (by simpa using hgd) hx hy he (fun p q b w h => by rw [run_eql_struct, h]; simp)
      · cases hc
    · rename_i fs hu
      have hag : aggB P t = some true := by simp [aggB, hu]
      split at hc
      · rename_i n x' y' hn hx hy
        split at hc
        · cases hc
        · rename_i hgd
          cases hc
          exact hS x' y' n true hn hag (by simpa using hgd) hx hy he (fun p q b w h => by rw [run_neq_struct, h]; simp)
      · cases hc
    · cases hc
    · cases hc
    · cases hc
    · cases hc
    · simp only [bind, Option.bind_eq_some_iff, Option.some.injEq] at hc
      obtain ⟨x', hx, y', hy, rfl⟩ := hc
      exact evBin_ok hx hy hT he
  case unOp op t x =>
    cases op <;> simp only at hc <;> try (cases hc; done)
    · obtain ⟨y, hx, rfl⟩ := map_ok hc
      have h1 := compX_ok hx hT
      simp only [evP, evPd, p_mov, p_pick, p_build, p_bin, p_eqB, p_eqG, p_isNil, p_neg, p_not, p_conv, p_mki, p_mkf, p_fld, p_idxA, p_idxS, p_ext, p_fad, p_iadS, p_iadA, p_slcS, p_slcT, p_slcA, p_lenS, p_lenT, p_lenC, p_max, p_min, p_nilc] at he
      split at he
      · rename_i k n e1
        rw [e1] at h1
        cases he
        refine ⟨_, .int _ _, fun w => ?_⟩
        simp only [execOp, h1.intI, Op.unary, Op.intArith, Sem.run_bind, Sem.run_pure, Result.andThen_ok, wrapF_eq]
        rfl
      · split at he
        · rename_i k hk
          obtain ⟨n, en, dn⟩ := symK_ok hk h1
          cases he
          refine ⟨_, .sym (.sub (.lit k 0) dn), fun w => ?_⟩
          simp only [execOp, en, Op.unary, Op.intArith, Sem.run_bind, Sem.run_pure, Result.andThen_ok]
        · cases he
    · obtain ⟨y, hx, rfl⟩ := map_ok hc
      have h1 := compX_ok hx hT
      simp only [evP, evPd, p_mov, p_pick, p_build, p_bin, p_eqB, p_eqG, p_isNil, p_neg, p_not, p_conv, p_mki, p_mkf, p_fld, p_idxA, p_idxS, p_ext, p_fad, p_iadS, p_iadA, p_slcS, p_slcT, p_slcA, p_lenS, p_lenT, p_lenC, p_max, p_min, p_nilc] at he
      split at he
      · rename_i b e1
        rw [e1] at h1
        cases he
        exact ⟨_, .bool _, fun w => by simp [execOp, h1.boolI, Op.unary]⟩
      · split at he
        · rename_i s1
          obtain ⟨p, ep, dp⟩ := symBv_ok s1 h1
          cases he
          exact ⟨_, .symB (.not dp), fun w => by simp [execOp, ep, Op.unary]⟩
        · cases he
  case convert src dt x =>
    split at hc
    · rename_i d k hs hu
      obtain ⟨y, hx, rfl⟩ := map_ok hc
      have h1 := compX_ok hx hT
      simp only [evP, evPd, p_mov, p_pick, p_build, p_bin, p_eqB, p_eqG, p_isNil, p_neg, p_not, p_conv, p_mki, p_mkf, p_fld, p_idxA, p_idxS, p_ext, p_fad, p_iadS, p_iadA, p_slcS, p_slcT, p_slcA, p_lenS, p_lenT, p_lenC, p_max, p_min, p_nilc] at he
      split at he
      · rename_i k' n e1
        rw [e1] at h1
        cases he
        refine ⟨_, .int _ _, fun w => ?_⟩
        simp only [execOp, Go.convert, h1.intI, Sem.run_bind, run_und hs, run_und hu, Result.andThen_ok, wrapF_eq]
        cases d <;> simp [Conv.intToInt]
      · split at he
        · rename_i l hk
          obtain ⟨n, en, dn⟩ := symK_ok hk h1
          cases he
          refine ⟨_, .sym (.conv dn), fun w => ?_⟩
          simp only [execOp, Go.convert, en, Sem.run_bind, run_und hs, run_und hu, Result.andThen_ok]
          cases d <;> simp [Conv.intToInt]
        · cases he
    · cases hc
  case makeInterface t x =>
    split at hc
    · cases hc
    · cases hc
    · rename_i hn1 hn2
      obtain ⟨y, hx, rfl⟩ := map_ok hc
      have h1 := compX_ok hx hT
      simp only [evP, evPd, p_mov, p_pick, p_build, p_bin, p_eqB, p_eqG, p_isNil, p_neg, p_not, p_conv, p_mki, p_mkf, p_fld, p_idxA, p_idxS, p_ext, p_fad, p_iadS, p_iadA, p_slcS, p_slcT, p_slcA, p_lenS, p_lenT, p_lenC, p_max, p_min, p_nilc, Option.some.injEq] at he
      subst he
      refine ⟨_, .iface t h1, fun w => ?_⟩
      cases hu : P.underlying t with
      | none => exact absurd hu hn2
      | some d =>
        cases d <;> first
          | (exact absurd hu (hn1 _))
          | (simp [execOp, Instr.makeInterface, run_und hu])
  case makeFunc fn xs ys =>
    split at hc
    · cases hc
    · rename_i hn
      simp only [bind, Option.bind_eq_some_iff, Option.some.injEq] at hc
      obtain ⟨xs', hx, ys', hy, rfl⟩ := hc
      simp only [evP, evPd, p_mov, p_pick, p_build, p_bin, p_eqB, p_eqG, p_isNil, p_neg, p_not, p_conv, p_mki, p_mkf, p_fld, p_idxA, p_idxS, p_ext, p_fad, p_iadS, p_iadA, p_slcS, p_slcT, p_slcA, p_lenS, p_lenT, p_lenC, p_max, p_min, p_nilc, Option.some.injEq] at he
      subst he
      refine ⟨.func fn ⟨(xs.map a.eval).toList⟩ ⟨(ys.map a.eval).toList⟩, .func (fun l e => hn l e) (compXs_ok hx hT) (compXs_ok hy hT), fun w => ?_⟩
      simp only [execOp, Instr.makeFunc, Sem.run_bind, Sem.run_pure, Result.andThen_ok]
  case field t x i =>
    split at hc
    · rename_i fs hu
      simp only [bind, Option.bind_eq_some_iff, Option.some.injEq] at hc
      obtain ⟨f, hf, ag, hag, n, hn, x', hx, rfl⟩ := hc
      have h1 := compX_ok hx hT
      simp only [evP, evPd, p_mov, p_pick, p_build, p_bin, p_eqB, p_eqG, p_isNil, p_neg, p_not, p_conv, p_mki, p_mkf, p_fld, p_idxA, p_idxS, p_ext, p_fad, p_iadS, p_iadA, p_slcS, p_slcT, p_slcA, p_lenS, p_lenT, p_lenC, p_max, p_min, p_nilc] at he
      split at he
      · rename_i l e1
        rw [e1] at h1
        obtain ⟨l', hl1, hl2⟩ := h1.aggI
        obtain ⟨v', hv, hr⟩ := part_ok hag hn hl2 he
        refine ⟨v', hv, fun w => ?_⟩
        simp [execOp, Instr.field, run_und hu, hf, hl1, asAgg, hr]
      · cases he
    · cases hc
  case index t x i =>
    split at hc
    · rename_i len e hu
      simp only [bind, Option.bind_eq_some_iff, Option.some.injEq] at hc
      obtain ⟨ag, hag, n, hn, x', hx, i', hi, rfl⟩ := hc
      have h1 := compX_ok hx hT
      have h2 := compX_ok hi hT
      simp only [evP, evPd, p_mov, p_pick, p_build, p_bin, p_eqB, p_eqG, p_isNil, p_neg, p_not, p_conv, p_mki, p_mkf, p_fld, p_idxA, p_idxS, p_ext, p_fad, p_iadS, p_iadA, p_slcS, p_slcT, p_slcA, p_lenS, p_lenT, p_lenC, p_max, p_min, p_nilc] at he
      split at he
      · rename_i l j e1 e2
        rw [e1] at h1
        obtain ⟨l', hl1, hl2⟩ := h1.aggI
        obtain ⟨k, hk⟩ := place_inv e2 h2
        split at he
        · cases he
        · rename_i hlt
          have hlt' : j < len := by simpa [Nat.blt_eq] using hlt
          obtain ⟨v', hv, hr⟩ := part_ok hag hn hl2 he
          refine ⟨v', hv, fun w => ?_⟩
          have hr' : (part e ⟨l'⟩ (j * n)).run P w = .ok v' w := hr w
          simp [execOp, Instr.index, run_und hu, hl1, hk, asIntOf, hlt', run_sz hn, hr']
      · cases he
    · cases hc
  case extract x i =>
    simp only [bind, Option.bind_eq_some_iff, Option.some.injEq] at hc
    obtain ⟨x', hx, rfl⟩ := hc
    have h1 := compX_ok hx hT
    simp only [evP, evPd, p_mov, p_pick, p_build, p_bin, p_eqB, p_eqG, p_isNil, p_neg, p_not, p_conv, p_mki, p_mkf, p_fld, p_idxA, p_idxS, p_ext, p_fad, p_iadS, p_iadA, p_slcS, p_slcT, p_slcA, p_lenS, p_lenT, p_lenC, p_max, p_min, p_nilc] at he
    split at he
    · rename_i l e1
      rw [e1] at h1
      obtain ⟨l', hl1, hl2⟩ := h1.tupI
      obtain ⟨v', hv, hr⟩ := LR.nth (tl := []) hl2 he
      refine ⟨v', hr, fun w => ?_⟩
      have hv' : (⟨l'⟩ : Array Value)[i]? = some v' := by simpa using hv
      simp [execOp, Instr.extract, hl1, hv']
    · cases he
  case fieldAddr t x i =>
    split at hc
    · rename_i fs hu
      simp only [bind, Option.bind_eq_some_iff] at hc
      obtain ⟨f, hf, n, hn, hc⟩ := hc
      split at hc
      · cases hc
      · rename_i h0
        simp only [Option.bind_eq_some_iff, Option.some.injEq] at hc
        obtain ⟨x', hx, rfl⟩ := hc
        have h1 := compX_ok hx hT
        simp only [evP, evPd, p_mov, p_pick, p_build, p_bin, p_eqB, p_eqG, p_isNil, p_neg, p_not, p_conv, p_mki, p_mkf, p_fld, p_idxA, p_idxS, p_ext, p_fad, p_iadS, p_iadA, p_slcS, p_slcT, p_slcA, p_lenS, p_lenT, p_lenC, p_max, p_min, p_nilc] at he
        split at he
        · rename_i b o e1
          rw [e1] at h1
          cases he
          obtain ⟨r, c, hr, hb⟩ := h1.ptrI
          refine ⟨_, .ptr hb, fun w => ?_⟩
          simp only [execOp, Instr.fieldAt, Sem.run_bind, run_und hu, Result.andThen_ok, hf, hr, Instr.sureAddr, Sem.run_pure, fieldPlace, run_sz hn, if_neg h0]
          by_cases hz : f.offset = 0 <;> simp [Addr.add, hz]
        · cases he
    · cases hc
  case indexAddr t x i =>
    split at hc
    · rename_i len e hu
      simp only [bind, Option.bind_eq_some_iff, Option.some.injEq] at hc
      obtain ⟨n, hn, x', hx, i', hi, rfl⟩ := hc
      have h1 := compX_ok hx hT
      have h2 := compX_ok hi hT
      simp only [evP, evPd, p_mov, p_pick, p_build, p_bin, p_eqB, p_eqG, p_isNil, p_neg, p_not, p_conv, p_mki, p_mkf, p_fld, p_idxA, p_idxS, p_ext, p_fad, p_iadS, p_iadA, p_slcS, p_slcT, p_slcA, p_lenS, p_lenT, p_lenC, p_max, p_min, p_nilc] at he
      split at he
      · rename_i b o j e1 e2
        rw [e1] at h1
        obtain ⟨k, hk⟩ := place_inv e2 h2
        obtain ⟨r, c, hr, hb⟩ := h1.ptrI
        split at he
        · rename_i hlt
          have hlt' : j < len := by simpa [Nat.blt_eq] using hlt
          cases he
          refine ⟨_, .ptr hb, fun w => ?_⟩
          simp only [execOp, Instr.indexAt, Sem.run_bind, run_und hu, Result.andThen_ok, hk, asIntOf, hr, Instr.sureAddr, Sem.run_pure]
          rw [if_pos ⟨by omega, by omega⟩]
          by_cases hz : j * n = 0 <;> simp [Addr.add, hz, run_sz hn]
        · cases he
      · cases he
    · rename_i e hu
      simp only [bind, Option.bind_eq_some_iff, Option.some.injEq] at hc
      obtain ⟨n, hn, x', hx, i', hi, rfl⟩ := hc
      have h1 := compX_ok hx hT
      have h2 := compX_ok hi hT
      simp only [evP, evPd, p_mov, p_pick, p_build, p_bin, p_eqB, p_eqG, p_isNil, p_neg, p_not, p_conv, p_mki, p_mkf, p_fld, p_idxA, p_idxS, p_ext, p_fad, p_iadS, p_iadA, p_slcS, p_slcT, p_slcA, p_lenS, p_lenT, p_lenC, p_max, p_min, p_nilc] at he
      split at he
      · rename_i b o len k0 j e1 e2
        rw [e1] at h1
        obtain ⟨k, hk⟩ := place_inv e2 h2
        obtain ⟨r, c, k', hr, hb⟩ := h1.slB
        split at he
        · rename_i hlt
          have hlt' : j < len := by simpa [Nat.blt_eq] using hlt
          cases he
          refine ⟨_, .ptr hb, fun w => ?_⟩
          simp only [execOp, Instr.indexAt, Sem.run_bind, run_und hu, Result.andThen_ok, hk, asIntOf, hr, Sem.run_pure]
          rw [if_pos ⟨by omega, by omega⟩]
          by_cases hz : j * n = 0 <;> simp [Addr.add, hz, run_sz hn]
        · cases he
      · cases he
    · cases hc
  case slice t x lo hi mx =>
    split at hc
    · rename_i e hu
      simp only [bind, Option.bind_eq_some_iff, Option.some.injEq] at hc
      obtain ⟨n, hn, x', hx, lo', hlo, hi', hhi, rfl⟩ := hc
      have h1 := compX_ok hx hT
      simp only [evP, evPd, p_mov, p_pick, p_build, p_bin, p_eqB, p_eqG, p_isNil, p_neg, p_not, p_conv, p_mki, p_mkf, p_fld, p_idxA, p_idxS, p_ext, p_fad, p_iadS, p_iadA, p_slcS, p_slcT, p_slcA, p_lenS, p_lenT, p_lenC, p_max, p_min, p_nilc] at he
      split at he
      · rename_i ad len k e1
        rw [e1] at h1
        split at he
        · rename_i hk64
          have hk64' : k < 2 ^ 64 := by simpa [Nat.blt_eq] using hk64
          split at he
          · rename_i m h hcut
            obtain ⟨_, hmh, _⟩ := cut_ok (P := P) hT hlo hhi hcut (Nat.le_refl _) default
            have hrun : ∀ w, (Instr.sliceBounds true len k (lo.map a.eval) (hi.map a.eval) none).run P w = .ok (m, h, k) w := fun w => (cut_ok hT hlo hhi hcut (Nat.le_refl _) w).1
            cases ad with
            | none =>
              have hv := h1.sl0I hk64'
              have hres : v = .slice none (h - m) (k - m) := by
                split at he
                · cases he; rfl
                · cases he; rfl
              subst hres
              refine ⟨_, .sl0 _ _ (by omega), fun w => ?_⟩
              simp only [execOp, Instr.sliceAt, Instr.slice, Sem.run_bind, run_und hu, Result.andThen_ok, hv, Option.map_none, hrun, run_sz hn, Sem.run_pure]
              split <;> rfl
            | some ad =>
              obtain ⟨b, o, sp⟩ := ad
              cases sp with
              | some s => cases h1
              | none =>
                obtain ⟨r, c, hr', hb⟩ := h1.slI hk64'
                split at he
                · rename_i hkm
                  have hkm' : k = m := Nat.eq_of_beq_eq_true hkm
                  cases he
                  refine ⟨_, .sl hb (show k - m < 2 ^ 64 by omega), fun w => ?_⟩
                  simp only [execOp, Instr.sliceAt, Instr.slice, Sem.run_bind, run_und hu, Result.andThen_ok, hr', Option.map_none, hrun, run_sz hn, Sem.run_pure, if_pos hkm']
                  rfl
                · rename_i hkm
                  have hkm' : ¬ k = m := Nat.ne_of_beq_eq_false hkm
                  cases he
                  refine ⟨_, .sl hb (show k - m < 2 ^ 64 by omega), fun w => ?_⟩
                  simp only [execOp, Instr.sliceAt, Instr.slice, Sem.run_bind, run_und hu, Result.andThen_ok, hr', Option.map_none, hrun, run_sz hn, Sem.run_pure, if_neg hkm', Option.map_some]
                  by_cases hz : m * n = 0 <;> simp [Addr.add, hz]
          · cases he
        · split at he
          · rename_i b o
            split at he
            · rename_i m h hk hcut
              have hk' : k = 2 ^ 64 + n := Nat.eq_of_beq_eq_true hk
              subst hk'
              obtain ⟨r, c, kk, hr', hb, hnk, hc, hz, hz2⟩ := h1.slUI
              obtain ⟨_, hmh, hht⟩ := cut_ok (P := P) hT hlo hhi hcut hnk default
              have hrun : ∀ w, (Instr.sliceBounds true len kk (lo.map a.eval) (hi.map a.eval) none).run P w = .ok (m, h, kk) w := fun w => (cut_ok hT hlo hhi hcut hnk w).1
              have hhn : h ≤ len := by omega
              split at he
              · rename_i hmh2
                have e : m = h := Nat.eq_of_beq_eq_true hmh2
                subst e
                cases he
                refine ⟨.slice (some (if kk = m then ⟨r, o, none⟩ else (⟨r, o, none⟩ : Addr).add (m * n))) 0 (kk - m), .slE _ _, fun w => ?_⟩
                simp only [execOp, Instr.sliceAt, Instr.slice, Sem.run_bind, run_und hu, Result.andThen_ok, hr', Option.map_none, hrun, run_sz hn, Sem.run_pure, Nat.sub_self]
                by_cases hkm : kk = m <;> simp [hkm]
              · rename_i hmh2
                have e : m ≠ h := Nat.ne_of_beq_eq_false hmh2
                cases he
                have hlt : m < kk := by omega
                have hmul : m * n + (kk - m) * n = kk * n := by rw [← Nat.add_mul]; congr 1; omega
                refine ⟨_, .slU (o := o + m * n) (k := kk - m) hb (show h - m ≤ kk - m by omega) (by omega) hz hz2, fun w => ?_⟩
                simp only [execOp, Instr.sliceAt, Instr.slice, Sem.run_bind, run_und hu, Result.andThen_ok, hr', Option.map_none, hrun, run_sz hn, Sem.run_pure, if_neg (show ¬ kk = m by omega), Option.map_some]
                by_cases hz : m * n = 0 <;> simp [Addr.add, hz]
            · cases he
          · cases he
      · cases he
    · cases hc
  case nilCheck x =>
    obtain ⟨y, hx, rfl⟩ := map_ok hc
    have h1 := compX_ok hx hT
    simp only [evP, evPd, p_mov, p_pick, p_build, p_bin, p_eqB, p_eqG, p_isNil, p_neg, p_not, p_conv, p_mki, p_mkf, p_fld, p_idxA, p_idxS, p_ext, p_fad, p_iadS, p_iadA, p_slcS, p_slcT, p_slcA, p_lenS, p_lenT, p_lenC, p_max, p_min, p_nilc] at he
    split at he
    · rename_i ad e1
      rw [e1] at h1
      cases he
      obtain ⟨y', hy⟩ := h1.ptrA
      rw [hy] at h1
      exact ⟨_, h1, fun w => by simp only [execOp, hy]; rfl⟩
    · cases he
  case call c =>
    obtain ⟨callee, args, argTypes⟩ := c
    cases callee with
    | value g => cases hc
    | invoke r m => cases hc
    | builtin b =>
      have hres : ∀ w, (execOp a.eval ⟨dst, .call ⟨.builtin b, args, argTypes⟩, type, pos, after, guard⟩).run P w = (builtin b argTypes type (args.map fun | .const _ => true | _ => false) (args.map a.eval)).run P w := by
        intro w
        simp only [execOp, resolve, invoke, Sem.run_bind, Sem.run_pure, Result.andThen_ok]
        rfl
      cases b <;> simp only at hc <;> try (cases hc; done)
      case len =>
        split at hc
        · rename_i e x hu hx0
          obtain ⟨y, hx, rfl⟩ := map_ok hc
          have h1 := compX_ok hx hT
          simp only [evP, evPd, p_mov, p_pick, p_build, p_bin, p_eqB, p_eqG, p_isNil, p_neg, p_not, p_conv, p_mki, p_mkf, p_fld, p_idxA, p_idxS, p_ext, p_fad, p_iadS, p_iadA, p_slcS, p_slcT, p_slcA, p_lenS, p_lenT, p_lenC, p_max, p_min, p_nilc] at he
          split at he
          · rename_i ad n k e1
            rw [e1] at h1
            cases he
            obtain ⟨y', k', hv⟩ := h1.slN
            refine ⟨_, .int _ _, fun w => ?_⟩
            rw [hres]
            cases ht : argTypes[0]? with
            | none => rw [ht] at hu; cases hu
            | some t =>
              rw [ht] at hu
              simp only [Option.bind_some] at hu
              simp [builtin, Builtin.len_, ht, hx0, run_und hu, hv, goInt]
          · cases he
        · rename_i x hu hx0
          obtain ⟨y, hx, rfl⟩ := map_ok hc
          have h1 := compX_ok hx hT
          simp only [evP, evPd, p_mov, p_pick, p_build, p_bin, p_eqB, p_eqG, p_isNil, p_neg, p_not, p_conv, p_mki, p_mkf, p_fld, p_idxA, p_idxS, p_ext, p_fad, p_iadS, p_iadA, p_slcS, p_slcT, p_slcA, p_lenS, p_lenT, p_lenC, p_max, p_min, p_nilc] at he
          split at he
          · rename_i s e1
            rw [e1] at h1
            cases he
            refine ⟨_, .int _ _, fun w => ?_⟩
            rw [hres]
            cases ht : argTypes[0]? with
            | none => rw [ht] at hu; cases hu
            | some t =>
              rw [ht] at hu
              simp only [Option.bind_some] at hu
              simp [builtin, Builtin.len_, ht, hx0, run_und hu, h1.strI, goInt]
          · cases he
        · rename_i n e x hu hx0
          cases hc
          simp only [evP, evPd, p_mov, p_pick, p_build, p_bin, p_eqB, p_eqG, p_isNil, p_neg, p_not, p_conv, p_mki, p_mkf, p_fld, p_idxA, p_idxS, p_ext, p_fad, p_iadS, p_iadA, p_slcS, p_slcT, p_slcA, p_lenS, p_lenT, p_lenC, p_max, p_min, p_nilc, Option.some.injEq] at he
          subst he
          refine ⟨_, .int _ _, fun w => ?_⟩
          rw [hres]
          cases ht : argTypes[0]? with
          | none => rw [ht] at hu; cases hu
          | some t =>
            rw [ht] at hu
            simp only [Option.bind_some] at hu
            simp [builtin, Builtin.len_, ht, hx0, run_und hu, goInt]
        · cases hc
      case max =>
        cases hxs : compXs args with
        | none => rw [hxs] at hc; cases hc
        | some xs =>
          rw [hxs] at hc
          cases hc
          have hl := compXs_ok hxs hT
          simp only [evP, evPd, p_mov, p_pick, p_build, p_bin, p_eqB, p_eqG, p_isNil, p_neg, p_not, p_conv, p_mki, p_mkf, p_fld, p_idxA, p_idxS, p_ext, p_fad, p_iadS, p_iadA, p_slcS, p_slcT, p_slcA, p_lenS, p_lenT, p_lenC, p_max, p_min, p_nilc] at he
          split at he
          · cases he
          · rename_i v0 l0 e0
            rw [e0] at hl
            split at he
            · rename_i k n
              generalize hm : (args.map a.eval).toList = m at hl
              cases hl with
              | cons hv hl =>
                split at he
                · rename_i r0 h0
                  cases he
                  obtain ⟨r1, r2⟩ := maxL_ok (P := P) h0 hl
                  refine ⟨v, r2 ⟨_, _, rfl⟩, fun w => ?_⟩
                  rw [hres]
                  simp only [builtin, Builtin.max_, Sem.run_bind, hm, hv.intI]
                  rw [r1]
                  simp
                · split at he
                  · rename_i k1 hk1
                    obtain ⟨p, ep, dp⟩ := symK_ok hk1 hv
                    obtain ⟨n1, dn1, r1⟩ := maxS_ok (P := P) he dp hl
                    refine ⟨_, den_VR dn1, fun w => ?_⟩
                    rw [hres]
                    simp only [builtin, Builtin.max_, Sem.run_bind, hm, ep]
                    rw [r1]
                    simp
                  · cases he
            · split at he
              · rename_i k1 hk1
                generalize hm : (args.map a.eval).toList = m at hl
                cases hl with
                | cons hv hl =>
                  obtain ⟨p, ep, dp⟩ := symK_ok hk1 hv
                  obtain ⟨n1, dn1, r1⟩ := maxS_ok (P := P) he dp hl
                  refine ⟨_, den_VR dn1, fun w => ?_⟩
                  rw [hres]
                  simp only [builtin, Builtin.max_, Sem.run_bind, hm, ep]
                  rw [r1]
                  simp
              · cases he
      case min =>
        cases hxs : compXs args with
        | none => rw [hxs] at hc; cases hc
        | some xs =>
          rw [hxs] at hc
          cases hc
          have hl := compXs_ok hxs hT
          simp only [evP, evPd, p_mov, p_pick, p_build, p_bin, p_eqB, p_eqG, p_isNil, p_neg, p_not, p_conv, p_mki, p_mkf, p_fld, p_idxA, p_idxS, p_ext, p_fad, p_iadS, p_iadA, p_slcS, p_slcT, p_slcA, p_lenS, p_lenT, p_lenC, p_max, p_min, p_nilc] at he
          split at he
          · cases he
          · rename_i v0 l0 e0
            rw [e0] at hl
            split at he
            · rename_i k n
              generalize hm : (args.map a.eval).toList = m at hl
              cases hl with
              | cons hv hl =>
                split at he
                · rename_i r0 h0
                  cases he
                  obtain ⟨r1, r2⟩ := minL_ok (P := P) h0 hl
                  refine ⟨v, r2 ⟨_, _, rfl⟩, fun w => ?_⟩
                  rw [hres]
                  simp only [builtin, Builtin.min_, Sem.run_bind, hm, hv.intI]
                  rw [r1]
                  simp
                · split at he
                  · rename_i k1 hk1
                    obtain ⟨p, ep, dp⟩ := symK_ok hk1 hv
                    obtain ⟨n1, dn1, r1⟩ := minS_ok (P := P) he dp hl
                    refine ⟨_, den_VR dn1, fun w => ?_⟩
                    rw [hres]
                    simp only [builtin, Builtin.min_, Sem.run_bind, hm, ep]
                    rw [r1]
                    simp
                  · cases he
            · split at he
              · rename_i k1 hk1
                generalize hm : (args.map a.eval).toList = m at hl
                cases hl with
                | cons hv hl =>
                  obtain ⟨p, ep, dp⟩ := symK_ok hk1 hv
                  obtain ⟨n1, dn1, r1⟩ := minS_ok (P := P) he dp hl
                  refine ⟨_, den_VR dn1, fun w => ?_⟩
                  rw [hres]
                  simp only [builtin, Builtin.min_, Sem.run_bind, hm, ep]
                  rw [r1]
                  simp
              · cases he
end
end Go.Sim
