import Derived.Test.YtkjgachpmebipaiGreatDoorSimU
/- Ways to look at values, by recursors. -/
namespace Go.Sim.K
set_option linter.all false
open Go Go.Sim
variable [Rho] [Asm] [SymOK]
noncomputable section
variable {β : Type}
def d0 {A : Type} (_ : A) (e : β) : β := e
def d1 {X A : Type} (_ : X) (_ : A) (e : β) : β := e
def d2 {X Y A : Type} (_ : X) (_ : Y) (_ : A) (e : β) : β := e
def d3 {X Y Z A : Type} (_ : X) (_ : Y) (_ : Z) (_ : A) (e : β) : β := e
def d5 {X Y Z U W A : Type} (_ : X) (_ : Y) (_ : Z) (_ : U) (_ : W) (_ : A) (e : β) : β := e
def di {X Y : Type} {A : Type} (_ : X) (_ : Y) (_ : A → β → β) (_ : A) (e : β) : β := e
def u1 (_ : List Value) (_ : Unit) : Unit := ()
def u3 {A : Type} (_ : Value) (_ : List Value) (_ : A) (_ : Unit) : Unit := ()
def m_int (k : IntKind) (n : Int) (f : IntKind → Int → β) (_ : β) : β := f k n
def vInt (v : Value) : (IntKind → Int → β) → β → β :=
  Value.rec (motive_1 := fun _ => (IntKind → Int → β) → β → β) (motive_2 := fun _ => Unit) (motive_3 := fun _ => Unit) d1 m_int d2 d3 d1 d1 d3 d1 d1 d5 d0 di d0 d2 d2 u1 () u3 v
theorem vInt_eq (v : Value) (f : IntKind → Int → β) (e : β) : vInt v f e = match v with
    | .int k n => f k n
    | _ => e := by cases v <;> rfl
def m_bool (b : Bool) (f : Bool → β) (_ : β) : β := f b
def vBool (v : Value) : (Bool → β) → β → β :=
  Value.rec (motive_1 := fun _ => (Bool → β) → β → β) (motive_2 := fun _ => Unit) (motive_3 := fun _ => Unit) m_bool d2 d2 d3 d1 d1 d3 d1 d1 d5 d0 di d0 d2 d2 u1 () u3 v
theorem vBool_eq (v : Value) (f : Bool → β) (e : β) : vBool v f e = match v with
    | .bool b => f b
    | _ => e := by cases v <;> rfl
def m_addr (a : Option Addr) (f : Nat → Nat → β) (e : β) : β := Option.rec e (fun a => Addr.rec (fun b o s => Option.rec (f b o) (fun _ => e) s) a) a
def vPtr (v : Value) : (Nat → Nat → β) → β → β :=
  Value.rec (motive_1 := fun _ => (Nat → Nat → β) → β → β) (motive_2 := fun _ => Unit) (motive_3 := fun _ => Unit) d1 d2 d2 d3 d1 m_addr d3 d1 d1 d5 d0 di d0 d2 d2 u1 () u3 v
theorem vPtr_eq (v : Value) (f : Nat → Nat → β) (e : β) : vPtr v f e = match v with
    | .pointer (some ⟨b, o, none⟩) => f b o
    | _ => e := by
  cases v <;> try rfl
  rename_i a
  cases a with
  | none => rfl
  | some a => obtain ⟨b, o, s⟩ := a; cases s <;> rfl
def m_sl (a : Option Addr) (n k : Nat) (f : Option Addr → Nat → Nat → β) (_ : β) : β := f a n k
def vSl (v : Value) : (Option Addr → Nat → Nat → β) → β → β :=
  Value.rec (motive_1 := fun _ => (Option Addr → Nat → Nat → β) → β → β) (motive_2 := fun _ => Unit) (motive_3 := fun _ => Unit) d1 d2 d2 d3 d1 d1 m_sl d1 d1 d5 d0 di d0 d2 d2 u1 () u3 v
theorem vSl_eq (v : Value) (f : Option Addr → Nat → Nat → β) (e : β) : vSl v f e = match v with
    | .slice a n k => f a n k
    | _ => e := by cases v <;> rfl
def m_agg {X : Type} (a : Array Value) (_ : X) (f : List Value → β) (_ : β) : β := Array.rec f a
def vAgg (v : Value) : (List Value → β) → β → β :=
  Value.rec (motive_1 := fun _ => (List Value → β) → β → β) (motive_2 := fun _ => Unit) (motive_3 := fun _ => Unit) d1 d2 d2 d3 d1 d1 d3 d1 d1 d5 d0 di d0 m_agg d2 u1 () u3 v
theorem vAgg_eq (v : Value) (f : List Value → β) (e : β) : vAgg v f e = match v with
    | .agg ⟨l⟩ => f l
    | _ => e := by cases v <;> rfl
def m_tup {X : Type} (a : Array Value) (_ : X) (f : List Value → β) (_ : β) : β := Array.rec f a
def vTup (v : Value) : (List Value → β) → β → β :=
  Value.rec (motive_1 := fun _ => (List Value → β) → β → β) (motive_2 := fun _ => Unit) (motive_3 := fun _ => Unit) d1 d2 d2 d3 d1 d1 d3 d1 d1 d5 d0 di d0 d2 m_tup u1 () u3 v
theorem vTup_eq (v : Value) (f : List Value → β) (e : β) : vTup v f e = match v with
    | .tuple ⟨l⟩ => f l
    | _ => e := by cases v <;> rfl

/-- Numbers handed on as numerals. -/
def forceN (m : Nat) (k : Nat → β) : β := Nat.rec (k 0) (fun p _ => k (Nat.succ p)) m
theorem forceN_eq (m : Nat) (k : Nat → β) : forceN m k = k m := by cases m <;> rfl
def f1 {X : Type} (_ : X) (v : Value) (k : Value → β) : β := k v
def f0 (v : Value) (k : Value → β) : β := k v
def f2 {X Y : Type} (_ : X) (_ : Y) (v : Value) (k : Value → β) : β := k v
def f3 {X Y Z : Type} (_ : X) (_ : Y) (_ : Z) (v : Value) (k : Value → β) : β := k v
def f5 {X Y Z U W : Type} (_ : X) (_ : Y) (_ : Z) (_ : U) (_ : W) (v : Value) (k : Value → β) : β := k v
def fi (kd : IntKind) (n : Int) (_ : Value) (k : Value → β) : β := Int.rec (fun m => forceN m fun m => k (.int kd (.ofNat m))) (fun m => forceN m fun m => k (.int kd (.negSucc m))) n
def fb (b : Bool) (_ : Value) (k : Value → β) : β := Bool.rec (k (.bool false)) (k (.bool true)) b
def fp (a : Option Addr) (v : Value) (k : Value → β) : β := Option.rec (k v) (fun a => Addr.rec (fun b o s => Option.rec (forceN b fun b => forceN o fun o => k (.pointer (some ⟨b, o, none⟩))) (fun _ => k v) s) a) a
def force (v : Value) (k : Value → β) : β :=
  Value.rec (motive_1 := fun _ => Value → (Value → β) → β) (motive_2 := fun _ => Unit) (motive_3 := fun _ => Unit) fb fi f2 f3 f1 fp f3 f1 f1 f5 f0 f3 f0 f2 f2 u1 () u3 v v k
theorem force_eq (v : Value) (k : Value → β) : force v k = k v := by
  cases v <;> try rfl
  · rename_i b; cases b <;> rfl
  · rename_i kd n
    cases n
    · exact forceN_eq _ fun m => k (.int kd (.ofNat m))
    · exact forceN_eq _ fun m => k (.int kd (.negSucc m))
  · rename_i a
    cases a with
    | none => rfl
    | some a =>
      obtain ⟨b, o, s⟩ := a
      cases s with
      | none =>
        show (forceN b fun b => forceN o fun o => k (.pointer (some ⟨b, o, none⟩))) = _
        rw [forceN_eq, forceN_eq]
      | some x => rfl

/-! ### lists -/
def nth (l : List Value) : Nat → Option Value := List.rec (fun _ => none) (fun v _ ih i => Nat.rec (some v) (fun i _ => ih i) i) l
theorem nth_eq : nth = Sim.nth := by
  funext l
  induction l with
  | nil => rfl
  | cons v l ih => funext i; cases i with
    | zero => rfl
    | succ i => exact congrFun ih i
def len (l : List Value) : Nat := List.rec 0 (fun _ _ ih => Nat.succ ih) l
theorem len_eqK : len = Sim.len := by
  funext l
  induction l with
  | nil => rfl
  | cons v l ih => exact congrArg Nat.succ ih
def m_false2 {X Y : Type} (_ : X) (_ : Y) : Bool := false
def m_true1 {X : Type} (_ : X) : Bool := true
def m_true2 {X Y : Type} (_ : X) (_ : Y) : Bool := true
def m_true3 {X Y Z : Type} (_ : X) (_ : Y) (_ : Z) : Bool := true
def m_true5 {X Y Z U W : Type} (_ : X) (_ : Y) (_ : Z) (_ : U) (_ : W) : Bool := true
def one (v : Value) : Bool := Value.rec (motive_1 := fun _ => Bool) (motive_2 := fun _ => Unit) (motive_3 := fun _ => Unit) m_true1 m_true2 m_true2 m_true3 m_true1 m_true1 m_true3 m_true1 m_true1 m_true5 true m_true3 true m_false2 m_false2 u1 () u3 v
theorem one_eq : one = Sim.one := by funext v; cases v <;> rfl
def ones (l : List Value) : Bool := List.rec true (fun v _ ih => Bool.rec false ih (one v)) l
theorem ones_eq : ones = Sim.ones := by
  funext l
  induction l with
  | nil => rfl
  | cons v l ih =>
    show (Bool.rec false (ones l) (one v) : Bool) = _
    rw [ih, one_eq]
    simp only [Sim.ones]
    cases Sim.one v <;> rfl
def cellsOf (v : Value) : List Value := vAgg v (fun l => l) (.cons v .nil)
theorem cellsOf_eq : cellsOf = Sim.cellsOf := by funext v; cases v <;> rfl
/-- The first n, handed on as a list that is laid out. -/
def take (n : Nat) : List Value → (List Value → Option β) → Option β :=
  Nat.rec (fun _ k => k .nil) (fun _ ih l k => List.rec none (fun v l _ => ih l fun r => k (.cons v r)) l) n
theorem take_eq : ∀ (n : Nat) (l : List Value) (k : List Value → Option β), take n l k = (Sim.sub l 0 n).bind k
  | 0, l, k => by cases l <;> rfl
  | n + 1, [], k => rfl
  | n + 1, v :: l, k => by
    show take n l (fun r => k (.cons v r)) = _
    rw [take_eq n l]
    have : Sim.sub (v :: l) 0 (n + 1) = match Sim.sub l 0 n with
      | some r => some (v :: r)
      | none => none := by rw [Sim.sub]; rfl
    rw [this]
    cases Sim.sub l 0 n <;> rfl
def sub (l : List Value) : Nat → Nat → (List Value → Option β) → Option β :=
  List.rec (fun off n k => Nat.rec (take n .nil k) (fun _ _ => none) off) (fun v l ih off n k => Nat.rec (take n (.cons v l) k) (fun off _ => ih off n k) off) l
theorem sub_eqK : ∀ (l : List Value) (off n : Nat) (k : List Value → Option β), sub l off n k = (Sim.sub l off n).bind k
  | [], 0, n, k => take_eq n [] k
  | [], off + 1, n, k => rfl
  | v :: l, 0, n, k => take_eq n (v :: l) k
  | v :: l, off + 1, n, k => by
    show sub l off n k = _
    rw [sub_eqK l off n k]
    rfl
def over0 (xs : List Value) : List Value → (List Value → Option β) → Option β :=
  List.rec (fun l k => k l) (fun x _ ih l k => List.rec none (fun _ l _ => ih l fun r => k (.cons x r)) l) xs
theorem over0_eq : ∀ (xs l : List Value) (k : List Value → Option β), over0 xs l k = (Sim.over l 0 xs).bind k
  | [], l, k => by cases l <;> rfl
  | x :: xs, [], k => rfl
  | x :: xs, v :: l, k => by
    show over0 xs l (fun r => k (.cons x r)) = _
    rw [over0_eq xs l]
    have : Sim.over (v :: l) 0 (x :: xs) = match Sim.over l 0 xs with
      | some r => some (x :: r)
      | none => none := by rw [Sim.over]; rfl
    rw [this]
    cases Sim.over l 0 xs <;> rfl
def over (l : List Value) : Nat → List Value → (List Value → Option β) → Option β :=
  List.rec (fun off xs k => Nat.rec (over0 xs .nil k) (fun _ _ => none) off) (fun v l ih off xs k => Nat.rec (over0 xs (.cons v l) k) (fun off _ => ih off xs fun r => k (.cons v r)) off) l
theorem over_eq : ∀ (l : List Value) (off : Nat) (xs : List Value) (k : List Value → Option β), over l off xs k = (Sim.over l off xs).bind k
  | [], 0, xs, k => over0_eq xs [] k
  | [], off + 1, xs, k => rfl
  | v :: l, 0, xs, k => over0_eq xs (v :: l) k
  | v :: l, off + 1, xs, k => by
    show over l off xs (fun r => k (.cons v r)) = _
    rw [over_eq l off xs]
    have : Sim.over (v :: l) (off + 1) xs = match Sim.over l off xs with
      | some r => some (v :: r)
      | none => none := by rw [Sim.over]; rfl
    rw [this]
    cases Sim.over l off xs <;> rfl
end
end Go.Sim.K
