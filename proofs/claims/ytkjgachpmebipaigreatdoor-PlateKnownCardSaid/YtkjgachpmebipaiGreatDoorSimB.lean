import Derived.Test.YtkjgachpmebipaiGreatDoorSimA
/- The reckoner's programs, and how it goes through them. -/
namespace Go.Sim
set_option linter.all false
open Go
variable [Rho] [Asm]
noncomputable section

/-! ### words of a program -/
inductive Opd where
  | t (n : Nat)
  | v (x : Value)

/-- Values out of values. -/
inductive POp where
  | mov (x : Opd)
  | pick (c a b : Opd)
  | build (z : List Value) (ps : List (Nat × Nat × Opd))
  | bin (op : BinOp) (x y : Opd)
  | eqB (neg : Bool) (x y : Opd)
  | eqG (neg : Bool) (n : Nat) (x y : Opd)
  | isNil (neg : Bool) (q : Nat) (x : Opd)
  | neg (x : Opd)
  | not (x : Opd)
  | conv (k : IntKind) (x : Opd)
  | mki (t : TypeId) (x : Opd)
  | mkf (fn : Fn) (xs ys : List Opd)
  | fld (ag : Bool) (off size : Nat) (x : Opd)
  | idxA (ag : Bool) (len size : Nat) (x i : Opd)
  | idxS (x i : Opd)
  | ext (x : Opd) (i : Nat)
  | fad (off : Nat) (x : Opd)
  | iadS (size : Nat) (x i : Opd)
  | iadA (len size : Nat) (x i : Opd)
  | slcS (size : Nat) (x : Opd) (lo hi : Option Opd)
  | slcT (x : Opd) (lo hi : Option Opd)
  | slcA (len size : Nat) (x : Opd) (lo hi : Option Opd)
  | lenS (x : Opd)
  | lenT (x : Opd)
  | lenC (n : Nat)
  | max (xs : List Opd)
  | min (xs : List Opd)
  | nilc (x : Opd)
  | shf (l : Bool) (x y : Opd)
/-- Values out of values and memory. -/
inductive ROp where
  | ld1 (a : Opd)
  | ldn (n : Nat) (a : Opd)
  | lkp (n : Nat) (ag : Bool) (z : Value) (ok : Bool) (m k : Opd)
  | lenM (m : Opd)
/-- New blocks. -/
inductive AOp where
  | new (z : List Value)
  | box (x : Opd)
  | bsl (z : List Value) (len : Nat) (ps : List (Nat × Nat × Opd))
  | mks (z : List Value) (bytes : Nat) (len cap : Opd)
  | mkm (n : Nat) (ag : Bool)
  | rgs (x : Opd)
/-- Changes of memory. -/
inductive WOp where
  | st (n : Nat) (a x : Opd)
  | mup (n : Nat) (ag : Bool) (m k v : Opd)
  | app (size : Nat) (z : List Value) (s x : Opd)
  | cpy (size : Nat) (d x : Opd)
  | clr (z : List Value) (x : Opd)
  | nxt (x : Opd)
inductive IOp where
  | p (o : POp)
  | r (o : ROp)
  | a (o : AOp)
  | w (o : WOp)
  | call (f : Opd) (args : List Opd)

structure Ins where
  dst : Option Nat
  op : IOp
  grd : Option (Nat × Bool)

/-- An operation of a region that draws its order: those that come before it, and the states in which what it reads is read again. -/
structure DI where
  io : Ins
  m : Nat
  cs : List Nat

inductive IC where
  | skip
  | ops (l : List Ins)
  | draw (l : List DI)
  | seq (a b : IC)
  | cond (c : Opd) (a b : IC)
  | block (id : Nat) (a : IC)
  | loop (a : IC)
  | rng (f : Opd) (ps : List Nat) (asg body : IC)
  | exit (id : Nat)
  | scope (a : IC)
  | goto (l : Nat)
  | ret

/-! ### its memory -/
inductive LO where
  | cells (c : List Value)
  | map (n : Nat) (ag : Bool) (es : List (Value × Value))
  | loop (st : LoopState) (pend : Option Code) (T : Tr Value) (ps : List Nat) (asg body : IC)
  | defd (o : Bool)
  | ro (c : List Value)
  | siter (l : List UInt8) (pos : Nat)

structure St where
  h : Tr LO
  n : Nat
  bs : Nat
  ws : List Nat

def DT : Nat := 12
def DH : Nat := 24
def limH : Nat := 2 ^ 24 - 2
def limT : Nat := 2 ^ 12 - 2

abbrev Tm := Tr Value
def tget (T : Tm) (t : Nat) : Value := match T.get t with
  | some v => v
  | none => .tuple #[]
def tput (T : Tm) (t : Nat) (v : Value) : Tm := Tr.set DT T t (some v)
def oev (T : Tm) : Opd → Value
  | .t n => tget T n
  | .v x => x
def oevs (T : Tm) : List Opd → List Value
  | [] => []
  | x :: xs => oev T x :: oevs T xs

def mem (b : Nat) : List Nat → Bool
  | [] => false
  | c :: l => match Nat.beq b c with
    | true => true
    | false => mem b l
/-- The changed block is noted where it is not of the call's own making. -/
def note (s : St) (b : Nat) : List Nat :=
  match Nat.blt b s.bs with
  | false => s.ws
  | true => match mem b s.ws with
    | true => s.ws
    | false => b :: s.ws
def St.put (s : St) (b : Nat) (o : Option LO) : St := ⟨Tr.set DH s.h b o, s.n, s.bs, note s b⟩
def St.new (s : St) (o : LO) : St := ⟨Tr.set DH s.h s.n (some o), Nat.succ s.n, s.bs, s.ws⟩
def St.putK {β : Type} (s : St) (b : Nat) (o : Option LO) (k : St → β) : β := Tr.setK DH s.h b o fun h => k ⟨h, s.n, s.bs, note s b⟩
def St.newK {β : Type} (s : St) (o : LO) (k : St → β) : β := Tr.setK DH s.h s.n (some o) fun h => k ⟨h, Nat.succ s.n, s.bs, s.ws⟩
theorem St.putK_eq {β : Type} (s : St) (b : Nat) (o : Option LO) (k : St → β) : s.putK b o k = k (s.put b o) := Tr.setK_eq ..
theorem St.newK_eq {β : Type} (s : St) (o : LO) (k : St → β) : s.newK o k = k (s.new o) := Tr.setK_eq ..

/-! ### lists -/
def nth : List Value → Nat → Option Value
  | [], _ => none
  | v :: l, i => match i with
    | 0 => some v
    | i + 1 => nth l i
def setN : List Value → Nat → Value → List Value
  | [], _, _ => []
  | v :: l, i, x => match i with
    | 0 => x :: l
    | i + 1 => v :: setN l i x
/-- The n values from off on, if there are so many. -/
def sub : List Value → Nat → Nat → Option (List Value)
  | l, 0, n => match n with
    | 0 => some []
    | n + 1 => match l with
      | [] => none
      | v :: l => match sub l 0 n with
        | some r => some (v :: r)
        | none => none
  | [], _ + 1, _ => none
  | _ :: l, off + 1, n => sub l off n
/-- The list with some values laid over it from off on, if there is room. -/
def over : List Value → Nat → List Value → Option (List Value)
  | l, 0, xs => match xs with
    | [] => some l
    | x :: xs => match l with
      | [] => none
      | _ :: l => match over l 0 xs with
        | some r => some (x :: r)
        | none => none
  | [], _ + 1, _ => none
  | v :: l, off + 1, xs => match over l off xs with
    | some r => some (v :: r)
    | none => none
def len : List Value → Nat
  | [] => 0
  | _ :: l => Nat.succ (len l)
def app : List Value → List Value → List Value
  | [], m => m
  | v :: l, m => v :: app l m
def one : Value → Bool
  | .agg _ => false
  | .tuple _ => false
  | _ => true
def ones : List Value → Bool
  | [] => true
  | v :: l => match one v with
    | true => ones l
    | false => false
def cellsOf : Value → List Value
  | .agg ⟨cs⟩ => cs
  | v => [v]
def lay (T : Tm) : List Value → List (Nat × Nat × Opd) → Option (List Value)
  | z, [] => some z
  | z, (off, n, x) :: ps => match cellsOf (oev T x) with
    | cs => match Nat.beq (len cs) n with
      | false => none
      | true => match over z off cs with
        | some z => lay T z ps
        | none => none
def rep : Nat → List Value → List Value
  | 0, _ => []
  | n + 1, z => app z (rep n z)

/-! ### numbers -/
def ltI (x y : Int) : Bool := match x, y with
  | .ofNat a, .ofNat b => Nat.blt a b
  | .ofNat _, .negSucc _ => false
  | .negSucc _, .ofNat _ => true
  | .negSucc a, .negSucc b => Nat.blt b a
def eqI (x y : Int) : Bool := match x, y with
  | .ofNat a, .ofNat b => Nat.beq a b
  | .negSucc a, .negSucc b => Nat.beq a b
  | _, _ => false
def fits (x : Int) : Bool := match x with
  | .ofNat a => Nat.blt a 9223372036854775808
  | .negSucc a => Nat.blt a 9223372036854775808
def wrapF (k : IntKind) (n : Int) : Int := match k with
  | .i64 => match fits n with
    | true => n
    | false => IntKind.wrap .i64 n
  | k => IntKind.wrap k n
/-- A number of a list's place. -/
def place : Value → Option Nat
  | .int _ (.ofNat n) => some n
  | _ => none

def bitsK : IntKind → Nat
  | .i8 | .u8 => 8
  | .i16 | .u16 => 16
  | .i32 | .u32 => 32
  | .i64 | .u64 => 64
/-- 2 to the number of bits. -/
def twoK : IntKind → Nat
  | .i8 | .u8 => 256
  | .i16 | .u16 => 65536
  | .i32 | .u32 => 4294967296
  | .i64 | .u64 => 18446744073709551616
/-- A number's bits. -/
def toU (k : IntKind) : Int → Nat
  | .ofNat n => Nat.mod n (twoK k)
  | .negSucc n => Nat.sub (Nat.sub (twoK k) 1) (Nat.mod n (twoK k))
def shlI (a : Int) (n : Nat) : Int := match a with
  | .ofNat m => .ofNat (Nat.mul m (Nat.pow 2 n))
  | .negSucc m => .negSucc (Nat.sub (Nat.mul (Nat.succ m) (Nat.pow 2 n)) 1)
def shrI (a : Int) (n : Nat) : Int := match a with
  | .ofNat m => .ofNat (Nat.div m (Nat.pow 2 n))
  | .negSucc m => .negSucc (Nat.div m (Nat.pow 2 n))
def minN (a b : Nat) : Nat := match Nat.ble a b with
  | true => a
  | false => b
def binI (op : BinOp) (k : IntKind) (a b : Int) : Option Value := match op with
  | .add => some (.int k (wrapF k (Int.add a b)))
  | .sub => some (.int k (wrapF k (Int.sub a b)))
  | .mul => some (.int k (wrapF k (Int.mul a b)))
  | .quo => match eqI b 0 with
    | true => none
    | false => some (.int k (wrapF k (Int.tdiv a b)))
  | .rem => match eqI b 0 with
    | true => none
    | false => some (.int k (Int.tmod a b))
  | .eql => some (.bool (eqI a b))
  | .neq => some (.bool (!eqI a b))
  | .lss => some (.bool (ltI a b))
  | .leq => some (.bool (!ltI b a))
  | .gtr => some (.bool (ltI b a))
  | .geq => some (.bool (!ltI a b))
  | .and => some (.int k (wrapF k (.ofNat (Nat.land (toU k a) (toU k b)))))
  | .or => some (.int k (wrapF k (.ofNat (Nat.lor (toU k a) (toU k b)))))
  | .xor => some (.int k (wrapF k (.ofNat (Nat.xor (toU k a) (toU k b)))))
  | .andNot => some (.int k (wrapF k (.ofNat (Nat.land (toU k a) (Nat.sub (Nat.sub (twoK k) 1) (toU k b))))))
  | _ => none

def kindB : IntKind → IntKind → Bool
  | .i8, .i8 | .i16, .i16 | .i32, .i32 | .i64, .i64 | .u8, .u8 | .u16, .u16 | .u32, .u32 | .u64, .u64 => true
  | _, _ => false
/-- Whether two plain values are the same, where that can be told. -/
def same1 : Value → Value → Option Bool
  | .int k a, .int l b => match kindB k l with
    | true => some (eqI a b)
    | false => none
  | _, _ => none
def sameL : List Value → List Value → Option Bool
  | [], [] => some true
  | x :: l, y :: m => match same1 x y with
    | none => none
    | some true => sameL l m
    | some false => some false
  | _, _ => none
def maxL : Value → List Value → Option Value
  | v, [] => some v
  | v, x :: l => match v, x with
    | .int k a, .int _ b => match ltI a b with
      | true => maxL (.int k b) l
      | false => maxL (.int k a) l
    | _, _ => none
def minL : Value → List Value → Option Value
  | v, [] => some v
  | v, x :: l => match v, x with
    | .int k a, .int _ b => match ltI b a with
      | true => minL (.int k b) l
      | false => minL (.int k a) l
    | _, _ => none

/-- The bounds of a slice expression: the first place and the one behind the last. -/
def cutHi (T : Tm) (l top : Nat) : Option Opd → Option Nat
  | none => some l
  | some x => match place (oev T x) with
    | some h => match Nat.ble h top with
      | true => some h
      | false => none
    | none => none
def cutLo (T : Tm) (h : Nat) : Option Opd → Option Nat
  | none => some 0
  | some x => match place (oev T x) with
    | some m => match Nat.ble m h with
      | true => some m
      | false => none
    | none => none
def cut (T : Tm) (l : Nat) (top : Nat) (lo hi : Option Opd) : Option (Nat × Nat) :=
  match cutHi T l top hi with
  | none => none
  | some h => match cutLo T h lo with
    | none => none
    | some m => some (m, h)

def partL (ag : Bool) (l : List Value) (off size : Nat) : Option Value := match ag with
  | true => match sub l off size with
    | some r => some (.agg ⟨r⟩)
    | none => none
  | false => nth l off
/-! numbers that are not known -/
/-- The kind of a number, known or not. -/
def symK (v : Value) : Option IntKind := match v with
  | .int k _ => some k
  | .func (.yield t) ⟨.int k _ :: _⟩ ⟨[]⟩ => match Nat.blt t 20 with
    | true => some k
    | false => none
  | _ => none
/-- A truth value, known or not. -/
def symBv (v : Value) : Bool := match v with
  | .bool _ => true
  | .func (.yield t) ⟨_ :: _⟩ ⟨[]⟩ => match Nat.ble 20 t with
    | true => Nat.blt t 30
    | false => false
  | _ => false
/-- Whether two expressions are written alike. -/
def seq : Nat → Value → Value → Bool
  | 0, _, _ => false
  | n + 1, v, w => match v, w with
    | .int k a, .int l b => match kindB k l with
      | true => eqI a b
      | false => false
    | .bool true, .bool true => true
    | .bool false, .bool false => true
    | .nilFunc, .nilFunc => true
    | .func (.yield t) ⟨a :: l⟩ ⟨[]⟩, .func (.yield u) ⟨b :: m⟩ ⟨[]⟩ => match Nat.beq t u, seq n a b with
      | true, true => match l, m with
        | [], [] => true
        | [c], [d] => seq n c d
        | [c, c'], [d, d'] => match seq n c d with
          | true => seq n c' d'
          | false => false
        | _, _ => false
      | _, _ => false
    | _, _ => false
def lookA (v : Value) : List (Value × Bool) → Option Bool
  | [] => none
  | (u, b) :: l => match seq 60 v u with
    | true => some b
    | false => lookA v l
/-- What is assumed of a truth value that is not known. -/
def dec (v : Value) : Value := match lookA v Asm.asm with
  | some b => .bool b
  | none => v
def notV (v : Value) : Value := match v with
  | .bool b => .bool (!b)
  | v => nd 23 v []
def p_sym (op : BinOp) (v u : Value) : Option Value := match symK v, symK u with
  | some k, some l => match kindB k l with
    | false => none
    | true => match op with
      | .add => some (nd 1 (.int k 0) [v, u])
      | .sub => some (nd 2 (.int k 0) [v, u])
      | .mul => some (nd 3 (.int k 0) [v, u])
      | .eql => some (dec (nd 20 v [u]))
      | .neq => some (notV (dec (nd 20 v [u])))
      | .lss => some (dec (nd 21 v [u]))
      | .gtr => some (dec (nd 21 u [v]))
      | .leq => some (notV (dec (nd 21 u [v])))
      | .geq => some (notV (dec (nd 21 v [u])))
      | _ => none
  | _, _ => none
/-- Whether two structs' cells are the same, where what is assumed tells it. -/
def symL : List Value → List Value → Option Bool
  | [], [] => some true
  | x :: l, y :: m => match symK x, symK y with
    | some k, some k' => match kindB k k', (match same1 x y with
        | some b => Value.bool b
        | none => dec (nd 20 x [y])) with
      | true, .bool true => symL l m
      | true, .bool false => some false
      | _, _ => none
    | _, _ => none
  | _, _ => none
def sameX (l m : List Value) : Option Bool := match sameL l m with
  | some b => some b
  | none => symL l m
def maxS (k : IntKind) : Value → List Value → Option Value
  | v, [] => some v
  | v, x :: l => match symK x with
    | some k' => match kindB k k' with
      | true => maxS k (nd 6 (.int k 0) [v, x]) l
      | false => none
    | none => none
def minS (k : IntKind) : Value → List Value → Option Value
  | v, [] => some v
  | v, x :: l => match symK x with
    | some k' => match kindB k k' with
      | true => minS k (nd 7 (.int k 0) [v, x]) l
      | false => none
    | none => none
def p_mov (x : Opd) (T : Tm) : Option Value := some (oev T x)
def p_pick (c a b : Opd) (T : Tm) : Option Value := match oev T c with
    | .bool true => some (oev T a)
    | .bool false => some (oev T b)
    | _ => none
def p_build (z : List Value) (ps : List (Nat × Nat × Opd)) (T : Tm) : Option Value := match lay T z ps with
    | some cs => some (.agg ⟨cs⟩)
    | none => none
def appU : List UInt8 → List UInt8 → List UInt8
  | [], m => m
  | v :: l, m => v :: appU l m
def lenU : List UInt8 → Nat
  | [] => 0
  | _ :: l => Nat.succ (lenU l)
def eqU : List UInt8 → List UInt8 → Bool
  | [], [] => true
  | a :: l, b :: m => match Nat.beq a.toNat b.toNat with
    | true => eqU l m
    | false => false
  | _, _ => false
def strB (op : BinOp) (a b : List UInt8) : Option Value := match op with
  | .add => match Nat.ble (Nat.add (lenU a) (lenU b)) 1048576 with
    | true => some (.string ⟨⟨appU a b⟩⟩)
    | false => none
  | .eql => some (.bool (eqU a b))
  | .neq => some (.bool (!eqU a b))
  | _ => none
def p_str (op : BinOp) (v u : Value) : Option Value := match v, u with
  | .string ⟨⟨a⟩⟩, .string ⟨⟨b⟩⟩ => strB op a b
  | v, u => p_sym op v u
def p_bin (op : BinOp) (x y : Opd) (T : Tm) : Option Value := match oev T x, oev T y with
    | .int k a, .int l b => match kindB k l with
      | true => binI op k a b
      | false => none
    | v, u => p_str op v u
def p_eqB (neg : Bool) (x y : Opd) (T : Tm) : Option Value := match oev T x, oev T y with
    | .bool a, .bool b => some (.bool (xor neg (a == b)))
    | v, u => match symBv v, symBv u with
      | true, true => match neg with
        | true => some (dec (nd 24 v [u]))
        | false => some (notV (dec (nd 24 v [u])))
      | _, _ => none
def p_eqG (neg : Bool) (n : Nat) (x y : Opd) (T : Tm) : Option Value := match oev T x, oev T y with
    | .agg ⟨l⟩, .agg ⟨m⟩ => match Nat.beq (len l) n, Nat.beq (len m) n with
      | true, true => match sameX l m with
        | some b => some (.bool (xor neg b))
        | none => none
      | _, _ => none
    | _, _ => none
def p_isNil (neg : Bool) (q : Nat) (x : Opd) (T : Tm) : Option Value := match q, oev T x with
    | 0, .slice none _ k => match Nat.blt k 18446744073709551616 with
      | true => some (.bool (xor neg true))
      | false => none
    | 0, .slice (some _) _ _ => some (.bool (xor neg false))
    | 1, .map none => some (.bool (xor neg true))
    | 1, .map (some _) => some (.bool (xor neg false))
    | 2, .nilFunc => some (.bool (xor neg true))
    | 2, .func (.func _) _ _ => some (.bool (xor neg false))
    | 3, .nilIface => some (.bool (xor neg true))
    | 3, .iface _ _ => some (.bool (xor neg false))
    | _, _ => none
def p_neg (x : Opd) (T : Tm) : Option Value := match oev T x with
    | .int k a => some (.int k (wrapF k (Int.sub 0 a)))
    | v => match symK v with
      | some k => some (nd 2 (.int k 0) [.int k 0, v])
      | none => none
def p_not (x : Opd) (T : Tm) : Option Value := match oev T x with
    | .bool b => some (.bool (!b))
    | v => match symBv v with
      | true => some (nd 23 v [])
      | false => none
def p_conv (k : IntKind) (x : Opd) (T : Tm) : Option Value := match oev T x with
    | .int _ a => some (.int k (wrapF k a))
    | v => match symK v with
      | some _ => some (nd 8 (.int k 0) [v])
      | none => none
def p_mki (t : TypeId) (x : Opd) (T : Tm) : Option Value := some (.iface t (oev T x))
def p_mkf (fn : Fn) (xs ys : List Opd) (T : Tm) : Option Value := some (.func fn ⟨oevs T xs⟩ ⟨oevs T ys⟩)
def p_fld (ag : Bool) (off size : Nat) (x : Opd) (T : Tm) : Option Value := match oev T x with
    | .agg ⟨l⟩ => partL ag l off size
    | _ => none
def p_idxA (ag : Bool) (n size : Nat) (x i : Opd) (T : Tm) : Option Value := match oev T x, place (oev T i) with
    | .agg ⟨l⟩, some j => match Nat.blt j n with
      | false => none
      | true => partL ag l (Nat.mul j size) size
    | _, _ => none
def nthU : List UInt8 → Nat → Option UInt8
  | [], _ => none
  | v :: l, i => match i with
    | 0 => some v
    | i + 1 => nthU l i
def p_idxS (x i : Opd) (T : Tm) : Option Value := match oev T x, place (oev T i) with
    | .string ⟨⟨l⟩⟩, some j => match nthU l j with
      | some b => some (.int .u8 (.ofNat b.toNat))
      | none => none
    | _, _ => none
def p_ext (x : Opd) (i : Nat) (T : Tm) : Option Value := match oev T x with
    | .tuple ⟨l⟩ => nth l i
    | _ => none
def p_fad (off : Nat) (x : Opd) (T : Tm) : Option Value := match oev T x with
    | .pointer (some ⟨b, o, none⟩) => some (.pointer (some ⟨b, Nat.add o off, none⟩))
    | _ => none
def p_iadS (size : Nat) (x i : Opd) (T : Tm) : Option Value := match oev T x, place (oev T i) with
    | .slice (some ⟨b, o, none⟩) n _, some j => match Nat.blt j n with
      | true => some (.pointer (some ⟨b, Nat.add o (Nat.mul j size), none⟩))
      | false => none
    | _, _ => none
def p_iadA (n size : Nat) (x i : Opd) (T : Tm) : Option Value := match oev T x, place (oev T i) with
    | .pointer (some ⟨b, o, none⟩), some j => match Nat.blt j n with
      | true => some (.pointer (some ⟨b, Nat.add o (Nat.mul j size), none⟩))
      | false => none
    | _, _ => none
def p_slcS (size : Nat) (x : Opd) (lo hi : Option Opd) (T : Tm) : Option Value := match oev T x with
    | .slice a n k => match Nat.blt k 18446744073709551616 with
      | true => match cut T n k lo hi with
        | some (l, h) => match Nat.beq k l with
          | true => some (.slice a (Nat.sub h l) (Nat.sub k l))
          | false => match a with
            | some ⟨b, o, none⟩ => some (.slice (some ⟨b, Nat.add o (Nat.mul l size), none⟩) (Nat.sub h l) (Nat.sub k l))
            | none => some (.slice none (Nat.sub h l) (Nat.sub k l))
            | _ => none
        | none => none
      | false => match a with
        | some ⟨b, o, none⟩ => match Nat.beq k (Nat.add 18446744073709551616 size), cut T n n lo hi with
          | true, some (l, h) => match Nat.beq l h with
            | true => some (.slice none 0 36893488147419103232)
            | false => some (.slice (some ⟨b, Nat.add o (Nat.mul l size), none⟩) (Nat.sub h l) k)
          | _, _ => none
        | _ => none
    | _ => none
def dropU : List UInt8 → Nat → List UInt8
  | [], _ => []
  | v :: l, i => match i with
    | 0 => v :: l
    | i + 1 => dropU l i
def takeU : List UInt8 → Nat → List UInt8
  | [], _ => []
  | v :: l, i => match i with
    | 0 => []
    | i + 1 => v :: takeU l i
def p_slcT (x : Opd) (lo hi : Option Opd) (T : Tm) : Option Value := match oev T x with
    | .string ⟨⟨l⟩⟩ => match cut T (lenU l) (lenU l) lo hi with
      | some (m, h) => some (.string ⟨⟨takeU (dropU l m) (Nat.sub h m)⟩⟩)
      | none => none
    | _ => none
def p_slcA (n size : Nat) (x : Opd) (lo hi : Option Opd) (T : Tm) : Option Value := match oev T x with
    | .pointer (some ⟨b, o, none⟩) => match cut T n n lo hi with
      | some (l, h) => match Nat.beq n l with
        | true => some (.slice (some ⟨b, o, none⟩) (Nat.sub h l) (Nat.sub n l))
        | false => match Nat.blt n 18446744073709551616 with
          | true => some (.slice (some ⟨b, Nat.add o (Nat.mul l size), none⟩) (Nat.sub h l) (Nat.sub n l))
          | false => none
      | none => none
    | _ => none
def p_shf (l : Bool) (x y : Opd) (T : Tm) : Option Value := match oev T x, place (oev T y) with
    | .int k a, some n => match l with
      | true => some (.int k (wrapF k (shlI a (minN n (bitsK k)))))
      | false => some (.int k (shrI a (minN n (bitsK k))))
    | _, _ => none
def p_lenS (x : Opd) (T : Tm) : Option Value := match oev T x with
    | .slice _ n _ => some (.int .i64 (.ofNat n))
    | _ => none
def p_lenT (x : Opd) (T : Tm) : Option Value := match oev T x with
    | .string s => some (.int .i64 (.ofNat s.size))
    | _ => none
def p_lenC (n : Nat) (T : Tm) : Option Value := some (.int .i64 (.ofNat n))
def p_max (xs : List Opd) (T : Tm) : Option Value := match oevs T xs with
    | [] => none
    | v :: l => match v with
      | .int _ _ => match maxL v l with
        | some r => some r
        | none => match symK v with
          | some k => maxS k v l
          | none => none
      | v => match symK v with
        | some k => maxS k v l
        | none => none
def p_min (xs : List Opd) (T : Tm) : Option Value := match oevs T xs with
    | [] => none
    | v :: l => match v with
      | .int _ _ => match minL v l with
        | some r => some r
        | none => match symK v with
          | some k => minS k v l
          | none => none
      | v => match symK v with
        | some k => minS k v l
        | none => none
def p_nilc (x : Opd) (T : Tm) : Option Value := match oev T x with
    | .pointer (some a) => some (.pointer (some a))
    | _ => none
def evPd : POp → Tm → Option Value
  | .mov x => p_mov x
  | .pick c a b => p_pick c a b
  | .build z ps => p_build z ps
  | .bin op x y => p_bin op x y
  | .eqB neg x y => p_eqB neg x y
  | .eqG neg n x y => p_eqG neg n x y
  | .isNil neg q x => p_isNil neg q x
  | .neg x => p_neg x
  | .not x => p_not x
  | .conv k x => p_conv k x
  | .mki t x => p_mki t x
  | .mkf fn xs ys => p_mkf fn xs ys
  | .fld ag off size x => p_fld ag off size x
  | .idxA ag n size x i => p_idxA ag n size x i
  | .idxS x i => p_idxS x i
  | .ext x i => p_ext x i
  | .fad off x => p_fad off x
  | .iadS size x i => p_iadS size x i
  | .iadA n size x i => p_iadA n size x i
  | .slcS size x lo hi => p_slcS size x lo hi
  | .slcT x lo hi => p_slcT x lo hi
  | .slcA n size x lo hi => p_slcA n size x lo hi
  | .lenS x => p_lenS x
  | .lenT x => p_lenT x
  | .lenC n => p_lenC n
  | .max xs => p_max xs
  | .min xs => p_min xs
  | .nilc x => p_nilc x
  | .shf l x y => p_shf l x y
def evP (T : Tm) (o : POp) : Option Value := evPd o T

/-- A key of n cells, of a struct or of a plain type. -/
def keyed (n : Nat) (ag : Bool) (v : Value) : Bool := match ag, v with
  | true, .agg ⟨l⟩ => Nat.beq (len l) n
  | false, .int _ _ => Nat.beq 1 n
  | _, _ => false
def look (k : List Value) : List (Value × Value) → Option (Option Value)
  | [] => some none
  | (x, v) :: es => match sameL k (cellsOf x) with
    | some true => some (some v)
    | some false => look k es
    | none => none
def insertM (kl : List Value) (kv v : Value) : List (Value × Value) → Option (List (Value × Value))
  | [] => some [(kv, v)]
  | (x, y) :: es => match sameL kl (cellsOf x) with
    | some true => some ((kv, v) :: es)
    | some false => match insertM kl kv v es with
      | some r => some ((x, y) :: r)
      | none => none
    | none => none

def sameB : Bool → Bool → Bool
  | true, true => true
  | false, false => true
  | _, _ => false
def mapOf (h : Tr LO) (n : Nat) (ag : Bool) : Value → Option (List (Value × Value))
  | .map none => some []
  | .map (some b) => match h.get b with
    | some (.map n' ag' es) => match Nat.beq n n', sameB ag ag' with
      | true, true => some es
      | _, _ => none
    | _ => none
  | _ => none
/-- The first cells of a slice's row. -/
def rowOf (h : Tr LO) (n : Nat) : Option Addr → Option (List Value)
  | none => match n with
    | 0 => some []
    | _ + 1 => none
  | some ⟨b, o, none⟩ => match h.get b with
    | some (.cells cs) => sub cs o n
    | _ => none
  | _ => none
def found (ok : Bool) (v : Value) (b : Bool) : Value := match ok with
  | true => .tuple ⟨[v, .bool b]⟩
  | false => v
def r_ld1 (a : Opd) (T : Tm) (h : Tr LO) : Option Value := match oev T a with
  | .pointer (some ⟨b, o, none⟩) => match h.get b with
    | some (.cells c) => nth c o
    | _ => none
  | _ => none
def r_ldn (n : Nat) (a : Opd) (T : Tm) (h : Tr LO) : Option Value := match oev T a with
  | .pointer (some ⟨b, o, none⟩) => match h.get b with
    | some (.cells c) => match sub c o n with
      | some r => some (.agg ⟨r⟩)
      | none => none
    | _ => none
  | _ => none
def r_lkp (n : Nat) (ag : Bool) (z : Value) (ok : Bool) (m k : Opd) (T : Tm) (h : Tr LO) : Option Value := match keyed n ag (oev T k), mapOf h n ag (oev T m) with
  | true, some es => match look (cellsOf (oev T k)) es with
    | none => none
    | some (some v) => some (found ok v true)
    | some none => some (found ok z false)
  | _, _ => none
def lenE : List (Value × Value) → Nat
  | [] => 0
  | _ :: l => Nat.succ (lenE l)
def r_lenM (m : Opd) (T : Tm) (h : Tr LO) : Option Value := match oev T m with
  | .map none => some (.int .i64 (.ofNat 0))
  | .map (some b) => match h.get b with
    | some (.map _ _ es) => some (.int .i64 (.ofNat (lenE es)))
    | _ => none
  | _ => none
def evRd : ROp → Tm → Tr LO → Option Value
  | .ld1 a => r_ld1 a
  | .ldn n a => r_ldn n a
  | .lkp n ag z ok m k => r_lkp n ag z ok m k
  | .lenM m => r_lenM m
def evR (T : Tm) (h : Tr LO) (o : ROp) : Option Value := evRd o T h

def ptrAt (b : Nat) : Value := .pointer (some ⟨b, 0, none⟩)
def sliceAt (n c b : Nat) : Value := .slice (some ⟨b, 0, none⟩) n c
def mapAt (b : Nat) : Value := .map (some b)
def a_new (z : List Value) (_T : Tm) : Option (LO × (Nat → Value)) := some (.cells z, ptrAt)
def a_box (x : Opd) (T : Tm) : Option (LO × (Nat → Value)) := match cellsOf (oev T x) with
  | cs => match ones cs with
    | true => some (.cells cs, ptrAt)
    | false => none
def a_bsl (z : List Value) (n : Nat) (ps : List (Nat × Nat × Opd)) (T : Tm) : Option (LO × (Nat → Value)) := match lay T z ps with
  | some cs => match ones cs with
    | true => some (.cells cs, sliceAt n n)
    | false => none
  | none => none
def a_mks (z : List Value) (bytes : Nat) (l c : Opd) (T : Tm) : Option (LO × (Nat → Value)) := match place (oev T l), place (oev T c) with
  | some l, some c => match Nat.ble l c, Nat.ble (Nat.mul bytes c) 1048576, Nat.ble c 1048576 with
    | true, true, true => some (.cells (rep c z), sliceAt l c)
    | _, _, _ => none
  | _, _ => none
def a_mkm (n : Nat) (ag : Bool) (_T : Tm) : Option (LO × (Nat → Value)) := some (.map n ag [], mapAt)
def a_rgs (x : Opd) (T : Tm) : Option (LO × (Nat → Value)) := match oev T x with
  | .string ⟨⟨l⟩⟩ => some (.siter l 0, ptrAt)
  | _ => none
def evAd : AOp → Tm → Option (LO × (Nat → Value))
  | .new z => a_new z
  | .box x => a_box x
  | .bsl z n ps => a_bsl z n ps
  | .mks z bytes l c => a_mks z bytes l c
  | .mkm n ag => a_mkm n ag
  | .rgs x => a_rgs x
def evA (T : Tm) (o : AOp) : Option (LO × (Nat → Value)) := evAd o T

section
variable {β : Type}
def w_st (n : Nat) (a x : Opd) (T : Tm) (s : St) (k : Value → St → Option β) : Option β := match oev T a with
    | .pointer (some ⟨b, o, none⟩) => match s.h.get b with
      | some (.cells c) => match cellsOf (oev T x) with
        | cs => match Nat.beq (len cs) n, ones cs with
          | true, true => match over c o cs with
            | some c => s.putK b (some (.cells c)) fun s => k (.tuple ⟨[]⟩) s
            | none => none
          | _, _ => none
      | _ => none
    | _ => none
def w_mup (n : Nat) (ag : Bool) (m key v : Opd) (T : Tm) (s : St) (k : Value → St → Option β) : Option β := match oev T m with
    | .map (some b) => match keyed n ag (oev T key), mapOf s.h n ag (.map (some b)) with
      | true, some es => match insertM (cellsOf (oev T key)) (oev T key) (oev T v) es with
        | some es => s.putK b (some (.map n ag es)) fun s => k (.tuple ⟨[]⟩) s
        | none => none
      | _, _ => none
    | _ => none
def w_app (size : Nat) (x y : Opd) (T : Tm) (s : St) (k : Value → St → Option β) : Option β := match oev T x, oev T y with
    | .slice a n c, .slice a' m _ => match rowOf s.h (Nat.mul m size) a' with
      | none => none
      | some new => match ones new, Nat.ble (Nat.add n m) 65536, Nat.blt s.n limH with
        | true, true, true => match Nat.blt c 18446744073709551616 with
          | true => match Nat.ble (Nat.add n m) c with
            | true => match a with
              | some ⟨b, o, none⟩ => match s.h.get b with
                | some (.cells cs) => match over cs (Nat.add o (Nat.mul n size)) new with
                  | some cs => s.putK b (some (.cells cs)) fun s => k (.slice a (Nat.add n m) c) s
                  | none => none
                | _ => none
              | none => match m with
                | 0 => k (.slice none n c) s
                | _ => none
              | _ => none
            | false => match rowOf s.h (Nat.mul n size) a with
              | none => none
              | some old => s.newK (.cells (app old new)) fun s' => k (.slice (some ⟨s.n, 0, none⟩) (Nat.add n m) (Nat.add 18446744073709551616 size)) s'
          | false => match a with
            | some ⟨b, 0, none⟩ => match s.h.get b with
              | some (.cells cs) => match Nat.beq (len cs) (Nat.mul n size), Nat.beq c (Nat.add 18446744073709551616 size) with
                | true, true => s.putK b none fun s1 => s1.newK (.cells (app cs new)) fun s' => k (.slice (some ⟨s.n, 0, none⟩) (Nat.add n m) c) s'
                | _, _ => none
              | _ => none
            | _ => none
        | _, _, _ => none
    | _, _ => none
def w_cpy (size : Nat) (d x : Opd) (T : Tm) (s : St) (k : Value → St → Option β) : Option β := match oev T d, oev T x with
    | .slice a n c, .slice a' m _ => match rowOf s.h (Nat.mul (minN m n) size) a' with
      | none => none
      | some new => match a with
        | some ⟨b, o, none⟩ => match s.h.get b with
          | some (.cells cs) => match ones new, over cs o new with
            | true, some cs => s.putK b (some (.cells cs)) fun s => k (.int .i64 (.ofNat (minN m n))) s
            | _, _ => none
          | _ => none
        | none => match Nat.blt c 18446744073709551616 with
          | true => k (.int .i64 (.ofNat (minN m n))) s
          | false => none
        | _ => none
    | _, _ => none
def w_clr (z : List Value) (x : Opd) (T : Tm) (s : St) (k : Value → St → Option β) : Option β := match oev T x with
    | .slice a n _ => match n with
      | 0 => k (.tuple ⟨[]⟩) s
      | n + 1 => match a with
        | some ⟨b, o, none⟩ => match s.h.get b with
          | some (.cells cs) => match ones z, over cs o (rep (n + 1) z) with
            | true, some cs => s.putK b (some (.cells cs)) fun s => k (.tuple ⟨[]⟩) s
            | _, _ => none
          | _ => none
        | _ => none
    | _ => none
def w_nxt (x : Opd) (T : Tm) (s : St) (k : Value → St → Option β) : Option β := match oev T x with
    | .pointer (some ⟨b, 0, none⟩) => match s.h.get b with
      | some (.siter l pos) => match nthU l pos with
        | none => k (.tuple ⟨[.bool false]⟩) s
        | some c => match Nat.blt c.toNat 128 with
          | true => s.putK b (some (.siter l (Nat.succ pos))) fun s => k (.tuple ⟨[.bool true, .int .i64 (.ofNat pos), .int .i32 (.ofNat c.toNat)]⟩) s
          | false => none
      | _ => none
    | _ => none
def evWd : WOp → Tm → St → (Value → St → Option β) → Option β
  | .st n a x => w_st n a x
  | .mup n ag m key v => w_mup n ag m key v
  | .app size _ x y => w_app size x y
  | .cpy size d x => w_cpy size d x
  | .clr z x => w_clr z x
  | .nxt x => w_nxt x
def evW (T : Tm) (s : St) (o : WOp) (k : Value → St → Option β) : Option β := evWd o T s k
end

/-! ### calls -/
inductive Out where
  | norm
  | ret
  | exit (id : Nat)
  | goto (l : Nat)
inductive IRes where
  | t (n : Nat)
  | c (ag : Bool) (size : Nat) (n : Nat)
structure FI where
  code : IC
  nt : Nat
  res : List IRes

def force {β : Type} (v : Value) (k : Value → β) : β := match v with
  | .int kd n => match n with
    | .ofNat m => match m with
      | 0 => k (.int kd (.ofNat 0))
      | p + 1 => k (.int kd (.ofNat (Nat.succ p)))
    | .negSucc m => match m with
      | 0 => k (.int kd (.negSucc 0))
      | p + 1 => k (.int kd (.negSucc (Nat.succ p)))
  | .bool b => match b with
    | true => k (.bool true)
    | false => k (.bool false)
  | v => k v
theorem force_eq {β : Type} (v : Value) (k : Value → β) : force v k = k v := by
  unfold force
  split
  · split <;> split <;> rfl
  · split <;> rfl
  · rfl

def wanted (T : Tm) : Option (Nat × Bool) → Bool
  | none => true
  | some (t, b) => match tget T t with
    | .bool c => match b, c with
      | true, true => true
      | false, false => true
      | _, _ => false
    | _ => false

/-- Whether a guard is known. -/
def gOK (T : Tm) : Option (Nat × Bool) → Bool
  | none => true
  | some (t, _) => match tget T t with
    | .func (.yield _) _ _ => false
    | _ => true

section
variable {β : Type} (call : Value → List Value → St → Option (Value × St))
def i_p (op : POp) (T : Tm) (s : St) (k : Value → St → Option β) : Option β := match evP T op with
  | some v => k v s
  | none => none
def i_r (op : ROp) (T : Tm) (s : St) (k : Value → St → Option β) : Option β := match evR T s.h op with
  | some v => k v s
  | none => none
def i_a (op : AOp) (T : Tm) (s : St) (k : Value → St → Option β) : Option β := match Nat.blt s.n limH with
  | false => none
  | true => match evA T op with
    | some (lo, f) => s.newK lo fun s' => k (f s.n) s'
    | none => none
def i_w (op : WOp) (T : Tm) (s : St) (k : Value → St → Option β) : Option β := evW T s op k
def i_call (f : Opd) (args : List Opd) (T : Tm) (s : St) (k : Value → St → Option β) : Option β := match call (oev T f) (oevs T args) s with
  | some (v, s) => k v s
  | none => none
def evI (o : Ins) (T : Tm) (s : St) (k : Value → St → Option β) : Option β := match o.op with
  | .p op => i_p op T s k
  | .r op => i_r op T s k
  | .a op => i_a op T s k
  | .w op => i_w op T s k
  | .call f args => i_call call f args T s k
def putD (d : Option Nat) (T : Tm) (v : Value) (k : Tm → β) : β := match d with
  | none => k T
  | some d => Tr.setK DT T d (some v) k
def evOps : List Ins → Tm → St → (Tm → St → Option β) → Option β
  | [], T, s, k => k T s
  | o :: l, T, s, k => match wanted T o.grd with
    | true => evI call o T s fun v s => force v fun v => putD o.dst T v fun T => evOps l T s k
    | false => match gOK T o.grd with
      | true => putD o.dst T (.tuple ⟨[]⟩) fun T => evOps l T s k
      | false => none
end

/-! ### regions that draw their order -/
def veq : Nat → Value → Value → Bool
  | 0, _, _ => false
  | n + 1, v, w => match v, w with
    | .int k a, .int l b => match kindB k l with
      | true => eqI a b
      | false => false
    | .bool a, .bool b => sameB a b
    | .string ⟨⟨a⟩⟩, .string ⟨⟨b⟩⟩ => eqU a b
    | .pointer none, .pointer none => true
    | .pointer (some ⟨b, o, none⟩), .pointer (some ⟨b', o', none⟩) => match Nat.beq b b' with
      | true => Nat.beq o o'
      | false => false
    | .slice none x k, .slice none x' k' => match Nat.beq x x' with
      | true => Nat.beq k k'
      | false => false
    | .slice (some ⟨b, o, none⟩) x k, .slice (some ⟨b', o', none⟩) x' k' => match Nat.beq b b', Nat.beq o o', Nat.beq x x' with
      | true, true, true => Nat.beq k k'
      | _, _, _ => false
    | .map none, .map none => true
    | .map (some b), .map (some b') => Nat.beq b b'
    | .nilFunc, .nilFunc => true
    | .nilIface, .nilIface => true
    | .func (.func f) ⟨xs⟩ ⟨ys⟩, .func (.func g) ⟨xs'⟩ ⟨ys'⟩ => match Nat.beq f g, veqL (veq n) xs xs' with
      | true, true => veqL (veq n) ys ys'
      | _, _ => false
    | .func (.yield t) ⟨[]⟩ ⟨[]⟩, .func (.yield u) ⟨[]⟩ ⟨[]⟩ => Nat.beq t u
    | .iface t v, .iface u w => match Nat.beq t u with
      | true => veq n v w
      | false => false
    | .func (.yield t) ⟨a :: l⟩ ⟨[]⟩, w => seq 60 (nd t a l) w
    | .agg ⟨xs⟩, .agg ⟨ys⟩ => veqL (veq n) xs ys
    | .tuple ⟨xs⟩, .tuple ⟨ys⟩ => veqL (veq n) xs ys
    | _, _ => false
  where veqL (eq : Value → Value → Bool) : List Value → List Value → Bool
  | [], [] => true
  | x :: xs, y :: ys => match eq x y with
    | true => veqL eq xs ys
    | false => false
  | _, _ => false
/-- What one operation came upon, and what it yielded. -/
structure DR where
  T : Tm
  s : St
  v : Value
  lo : Option LO
def pairD (v : Value) (s : St) : Option (Value × St × Option LO) := some (v, s, none)
def stepD (call : Value → List Value → St → Option (Value × St)) (b : Nat) (o : Ins) (T : Tm) (s : St) : Option (Value × St × Option LO) := match wanted T o.grd with
  | false => match gOK T o.grd with
    | true => some (.tuple ⟨[]⟩, s, none)
    | false => none
  | true => match o.op with
    | .p op => match evP T op with
      | some v => some (v, s, none)
      | none => none
    | .r op => match evR T s.h op with
      | some v => some (v, s, none)
      | none => none
    | .a op => match evA T op with
      | some (lo, f) => Tr.setK DH s.h b (some lo) fun h => some (f b, ⟨h, s.n, s.bs, s.ws⟩, some lo)
      | none => none
    | .w op => evW T s op pairD
    | .call f args => match call (oev T f) (oevs T args) s with
      | some (v, s) => some (v, s, none)
      | none => none
def evD (call : Value → List Value → St → Option (Value × St)) (n0 : Nat) : Nat → List DI → Tm → St → Option (List DR × Tm × St)
  | _, [], T, s => some ([], T, s)
  | i, d :: l, T, s => match stepD call (Nat.add n0 i) d.io T s with
    | none => none
    | some (v, s', lo) => force v fun v => putD d.io.dst T v fun T' => match evD call n0 (Nat.succ i) l T' s' with
      | none => none
      | some (rs, T2, s2) => some (⟨T, s, v, lo⟩ :: rs, T2, s2)
/-- The memory in front of the p-th operation. -/
def hAt (h2 : Tr LO) : List DR → Nat → Tr LO
  | [], _ => h2
  | r :: rs, p => match p with
    | 0 => r.s.h
    | p + 1 => hAt h2 rs p
def chk (h2 : Tr LO) (all : List DR) (T : Tm) (o : ROp) (v : Value) : List Nat → Bool
  | [] => true
  | p :: ps => match evR T (hAt h2 all p) o with
    | none => false
    | some v' => match veq 6 v v' with
      | true => chk h2 all T o v ps
      | false => false
def recheck (h2 : Tr LO) (all : List DR) : List DI → List DR → Bool
  | d :: l, r :: rs => match (match d.io.op, wanted r.T d.io.grd with
      | .r o, true => chk h2 all r.T o r.v d.cs
      | _, _ => true) with
    | true => recheck h2 all l rs
    | false => false
  | _, _ => true
def lenD : List DI → Nat
  | [] => 0
  | _ :: l => Nat.succ (lenD l)
def evDraw {β : Type} (call : Value → List Value → St → Option (Value × St)) (l : List DI) (T : Tm) (s : St) (k : Tm → St → Option β) : Option β :=
  match Nat.ble (Nat.add s.n (lenD l)) limH with
  | false => none
  | true => match evD call s.n 0 l T ⟨s.h, Nat.add s.n (lenD l), s.bs, s.ws⟩ with
    | none => none
    | some (rs, T2, s2) => match recheck s2.h rs l rs with
      | true => k T2 s2
      | false => none

def puts : Tm → List Nat → List Value → Option Tm
  | T, [], [] => some T
  | T, t :: ts, v :: vs => match Nat.blt t limT with
    | true => puts (tput T t v) ts vs
    | false => none
  | _, _, _ => none
def argsT : Tm → Nat → List Value → Tm
  | T, _, [] => T
  | T, i, v :: vs => argsT (tput T i v) (Nat.succ i) vs
def resV (T : Tm) (h : Tr LO) : List IRes → Option (List Value)
  | [] => some []
  | r :: l => match (match r with
      | .t n => some (tget T n)
      | .c ag size n => match tget T n with
        | .pointer (some ⟨b, o, none⟩) => match h.get b with
          | some (.cells c) => match ag with
            | true => match sub c o size with
              | some r => some (.agg ⟨r⟩)
              | none => none
            | false => nth c o
          | _ => none
        | _ => none) with
    | none => none
    | some v => match resV T h l with
      | some vs => some (v :: vs)
      | none => none
def outV : List Value → Value
  | [v] => v
  | vs => .tuple ⟨vs⟩
def shut (h : Tr LO) : List Nat → Option (Tr LO)
  | [] => some h
  | d :: ds => match h.get d with
    | some (.defd true) => shut (Tr.set DH h d (some (.defd false))) ds
    | _ => none

def flatE (m : Nat) : List (Value × Value) → Bool
  | [] => true
  | (x, v) :: es => match flat m 4 x, flat m 4 v with
    | true, true => flatE m es
    | _, _ => false
def flatL (m : Nat) : List Value → Bool
  | [] => true
  | v :: l => match flat m 4 v with
    | true => flatL m l
    | false => false
def flatO (m : Nat) : LO → Bool
  | .cells c => flatL m c
  | .map _ _ es => flatE m es
  | .loop .. => false
  | .defd _ => false
  | .ro _ => true
  | .siter .. => true
/-- The caller's memory, with what the call has changed of it; none where that names what the call has made. -/
def back (m : Nat) (h' : Tr LO) : Tr LO → List Nat → Option (Tr LO)
  | h, [] => some h
  | h, b :: ws => match h'.get b with
    | some o => match flatO m o with
      | true => back m h' (Tr.set DH h b (some o)) ws
      | false => none
    | none => none
def merge (bs : Nat) : List Nat → List Nat → List Nat
  | ws, [] => ws
  | ws, b :: l => match Nat.blt b bs, mem b ws with
    | true, false => merge bs (b :: ws) l
    | _, _ => merge bs ws l
/-- The end of a call. -/
def done (s : St) (v : Value) (s' : St) : Value × St :=
  match flat s.n 4 v with
  | true => match back s.n s'.h s.h s'.ws with
    | some h => (v, ⟨h, s.n, s.bs, merge s.bs s.ws s'.ws⟩)
    | none => (v, ⟨s'.h, s'.n, s.bs, merge s.bs s.ws s'.ws⟩)
  | false => (v, ⟨s'.h, s'.n, s.bs, merge s.bs s.ws s'.ws⟩)

/-- What a jump of a round leaves for the loop. -/
def jump : Out → Option Code
  | .norm => none
  | .ret => some .ret
  | .exit id => some (.exit id)
  | .goto l => some (.goto l)

structure Cf where
  out : Out
  T : Tm
  s : St
  ds : List Nat

def isGo : Value → Bool
  | .func (.func _) _ _ => true
  | _ => false
/-- A loop over a function begins: its block, and that of its deferred calls. -/
def startL (rnd : Option Nat) (ds : List Nat) (s : St) (lo : LO) : Option (List Nat × Nat × St) := match rnd with
  | none => s.newK (.defd true) fun s1 => s1.newK lo fun s2 => some (s.n :: ds, s1.n, s2)
  | some l0 => match s.h.get l0 with
    | some (.loop _ _ _ _ _ _) => s.newK lo fun s2 => some (ds, s.n, s2)
    | _ => none
/-- It ends: what was left pending is done. -/
def endL (pend : Option Code) (T : Tm) (s : St) (ds : List Nat) : Option Cf := match pend with
  | none => some ⟨.norm, T, s, ds⟩
  | some .ret => some ⟨.ret, T, s, ds⟩
  | some (.exit id) => some ⟨.exit id, T, s, ds⟩
  | _ => none

section
variable (tab : Tr FI)
/-- One step down: 'call' and 'code' are the reckoner with less fuel. -/
def callB (code : IC → Option Nat → List Nat → Tm → St → Option Cf) (f : Value) (args : List Value) (s : St) : Option (Value × St) := match f with
  | .func (.func g) ⟨xs⟩ ⟨ys⟩ => match tab.get g with
    | none => none
    | some fi => match Nat.ble (len (app xs (app args ys))) fi.nt with
      | false => none
      | true => match code fi.code none [] (argsT .e 0 (app xs (app args ys))) ⟨s.h, s.n, s.n, []⟩ with
        | some ⟨o, T, s', ds⟩ => match o with
          | .norm | .ret => match shut s'.h ds with
            | none => none
            | some h => match resV T h fi.res with
              | some vs => some (done s (outV vs) ⟨h, s'.n, s'.bs, s'.ws⟩)
              | none => none
          | _ => none
        | none => none
  | .func (.yield l) ⟨xs⟩ ⟨ys⟩ => match xs, ys, s.h.get l with
    | [], [], some (.loop _ _ T ps asg body0) => match puts T ps args with
      | none => none
      | some T1 => match code asg (some l) [] T1 s with
        | some ⟨.norm, T2, s2, []⟩ => match s2.h.get l with
          | some (.loop .ready pend T ps asg body) => match s2.putK l (some (.loop .busy pend T ps asg body)) fun s => code body0 (some l) [] T2 s with
            | some ⟨o, _, s3, []⟩ => match s3.h.get l with
              | some (.loop _ _ T ps asg body) => match jump o with
                | none => s3.putK l (some (.loop .ready none T ps asg body)) fun s => some (.bool true, s)
                | some j => s3.putK l (some (.loop .done (some j) T ps asg body)) fun s => some (.bool false, s)
              | _ => none
            | _ => none
          | _ => none
        | _ => none
    | _, _, _ => none
  | _ => none
def codeB (call : Value → List Value → St → Option (Value × St)) (code : IC → Option Nat → List Nat → Tm → St → Option Cf)
    (c : IC) (rnd : Option Nat) (ds : List Nat) (T : Tm) (s : St) : Option Cf := match c with
  | .skip => some ⟨.norm, T, s, ds⟩
  | .ops l => evOps call l T s fun T s => some ⟨.norm, T, s, ds⟩
  | .draw l => evDraw call l T s fun T s => some ⟨.norm, T, s, ds⟩
  | .seq a b => match code a rnd ds T s with
    | some ⟨o, T, s, ds⟩ => match o with
      | .norm => code b rnd ds T s
      | o => some ⟨o, T, s, ds⟩
    | none => none
  | .cond x a b => match oev T x with
    | .bool true => code a rnd ds T s
    | .bool false => code b rnd ds T s
    | _ => none
  | .block id a => match code a rnd ds T s with
    | some ⟨o, T, s, ds⟩ => match o with
      | .exit m => match Nat.beq m id with
        | true => some ⟨.norm, T, s, ds⟩
        | false => some ⟨.exit m, T, s, ds⟩
      | o => some ⟨o, T, s, ds⟩
    | none => none
  | .loop a => match code a rnd ds T s with
    | some ⟨o, T, s, ds⟩ => match o with
      | .norm => code (.loop a) rnd ds T s
      | o => some ⟨o, T, s, ds⟩
    | none => none
  | .rng f ps asg body => match Nat.blt (Nat.succ s.n) limH, isGo (oev T f) with
    | true, true => match startL rnd ds s (.loop .ready none T ps asg body) with
      | none => none
      | some (ds, l, s2) => match call (oev T f) [.func (.yield l) ⟨[]⟩ ⟨[]⟩] s2 with
        | none => none
        | some (_, s3) => match s3.h.get l with
          | some (.loop st pend T' ps asg body) => match st with
            | .busy => none
            | _ => s3.putK l (some (.loop .exhausted pend T' ps asg body)) fun s4 => endL pend T s4 ds
          | _ => none
    | _, _ => none
  | .exit id => some ⟨.exit id, T, s, ds⟩
  | .scope a => match rnd with
    | some _ => none
    | none => match code a none ds T s with
      | some ⟨o, T, s, ds⟩ => match o with
        | .goto _ => none
        | o => some ⟨o, T, s, ds⟩
      | none => none
  | .goto l => some ⟨.goto l, T, s, ds⟩
  | .ret => some ⟨.ret, T, s, ds⟩
end

def evCode (tab : Tr FI) : Nat → IC → Option Nat → List Nat → Tm → St → Option Cf
  | 0 => fun _ _ _ _ _ => none
  | n + 1 => codeB (callB tab (evCode tab n)) (evCode tab n)
def evCall (tab : Tr FI) (n : Nat) : Value → List Value → St → Option (Value × St) := callB tab (evCode tab n)
end
end Go.Sim
