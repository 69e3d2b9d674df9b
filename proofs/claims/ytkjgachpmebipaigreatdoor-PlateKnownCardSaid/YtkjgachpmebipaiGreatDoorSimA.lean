import Derived.CallsIn
import Derived.RangeFuncIn
import Derived.RangeFuncLeaves
/- A reckoner for closed calls: trees, the relation between its values and the machine's, and the words of its programs. -/
namespace Go.Sim
set_option linter.all false
open Go

/-! ### trees keyed by numbers -/
inductive Tr (α : Type) where
  | e
  | n (l : Tr α) (v : Option α) (r : Tr α)

/-- A way down a tree. -/
inductive Path where
  | e
  | l (p : Path)
  | r (p : Path)
def half (k : Nat) : Bool := Nat.beq (Nat.mod k (nat_lit 2)) (nat_lit 0)
noncomputable def pathF (d : Nat) : Nat → Path :=
  Nat.rec (fun _ => .e) (fun _ ih k => Nat.rec .e (fun k _ => Bool.rec (.r (ih (Nat.div k (nat_lit 2)))) (.l (ih (Nat.div k (nat_lit 2)))) (half k)) k) d
noncomputable def path (k : Nat) : Path := pathF k k
noncomputable def num (p : Path) : Nat := Path.rec 0 (fun _ ih => 2 * ih + 1) (fun _ ih => 2 * ih + 2) p
theorem num_pathF (d : Nat) : ∀ k, k ≤ d → num (pathF d k) = k := by
  have q : ∀ n, (half n = true ∧ n % 2 = 0) ∨ (half n = false ∧ n % 2 = 1) := fun n => by
    unfold half
    cases hb : Nat.beq (Nat.mod n 2) 0
    · right
      have := Nat.ne_of_beq_eq_false hb
      have : n % 2 ≠ 0 := this
      exact ⟨rfl, by omega⟩
    · left
      exact ⟨rfl, Nat.eq_of_beq_eq_true hb⟩
  induction d with
  | zero => intro k h; have : k = 0 := by omega
            subst this; rfl
  | succ d ih =>
    intro k h
    cases k with
    | zero => rfl
    | succ k =>
      have e : pathF (d + 1) (k + 1) = if half k then .l (pathF d (Nat.div k 2)) else .r (pathF d (Nat.div k 2)) := by
        show (Bool.rec (.r (pathF d (Nat.div k 2))) (.l (pathF d (Nat.div k 2))) (half k) : Path) = _
        cases half k <;> rfl
      have hd : Nat.div k 2 = k / 2 := rfl
      have hi := ih (Nat.div k 2) (by rw [hd]; omega)
      rw [e]
      rcases q k with ⟨h1, h2⟩ | ⟨h1, h2⟩
      · rw [h1, if_pos rfl]
        show 2 * num (pathF d (Nat.div k 2)) + 1 = k + 1
        rw [hi, hd]; omega
      · rw [h1, if_neg (by simp)]
        show 2 * num (pathF d (Nat.div k 2)) + 2 = k + 1
        rw [hi, hd]; omega
theorem path_inj {j k : Nat} (h : path j = path k) : j = k := by
  have h1 := num_pathF j j (Nat.le_refl _)
  have h2 := num_pathF k k (Nat.le_refl _)
  unfold path at h
  rw [h] at h1
  omega

namespace Tr
variable {α β : Type}
noncomputable def getP (p : Path) : Tr α → Option α :=
  Path.rec (fun t => Tr.rec none (fun _ v _ _ _ => v) t) (fun _ ih t => Tr.rec none (fun l _ _ _ _ => ih l) t) (fun _ ih t => Tr.rec none (fun _ _ r _ _ => ih r) t) p
noncomputable def setP (p : Path) : Tr α → Option α → Tr α :=
  Path.rec (fun t x => Tr.rec (.n .e x .e) (fun l _ r _ _ => .n l x r) t) (fun _ ih t x => Tr.rec (.n (ih .e x) none .e) (fun l v r _ _ => .n (ih l x) v r) t) (fun _ ih t x => Tr.rec (.n .e none (ih .e x)) (fun l v r _ _ => .n l v (ih r x)) t) p
noncomputable def setKP (p : Path) : Tr α → Option α → (Tr α → β) → β :=
  Path.rec (fun t x f => Tr.rec (f (.n .e x .e)) (fun l _ r _ _ => f (.n l x r)) t) (fun _ ih t x f => Tr.rec (ih .e x fun l => f (.n l none .e)) (fun l v r _ _ => ih l x fun l => f (.n l v r)) t) (fun _ ih t x f => Tr.rec (ih .e x fun r => f (.n .e none r)) (fun l v r _ _ => ih r x fun r => f (.n l v r)) t) p
noncomputable def get (t : Tr α) (k : Nat) : Option α := getP (path k) t
noncomputable def set (_d : Nat) (t : Tr α) (k : Nat) (x : Option α) : Tr α := setP (path k) t x
/-- The same, handed on evaluated. -/
noncomputable def setK (_d : Nat) (t : Tr α) (k : Nat) (x : Option α) (f : Tr α → β) : β := setKP (path k) t x f
theorem setKP_eq (p : Path) : ∀ (t : Tr α) (x : Option α) (f : Tr α → β), setKP p t x f = f (setP p t x) := by
  induction p with
  | e => intro t x f; cases t <;> rfl
  | l p ih => intro t x f; cases t <;> exact ih _ _ _
  | r p ih => intro t x f; cases t <;> exact ih _ _ _
theorem setK_eq (d : Nat) (t : Tr α) (k : Nat) (x : Option α) (f : Tr α → β) : setK d t k x f = f (set d t k x) := setKP_eq _ _ _ _
theorem getP_e (p : Path) : getP p (Tr.e : Tr α) = none := by cases p <;> rfl
theorem get_e (k : Nat) : (Tr.e : Tr α).get k = none := getP_e _
theorem getP_set (p : Path) : ∀ (q : Path) (t : Tr α) (x : Option α), (p = q → getP p (setP q t x) = x) ∧ (p ≠ q → getP p (setP q t x) = getP p t) := by
  induction p with
  | e =>
    intro q t x
    cases q with
    | e => refine ⟨fun _ => ?_, fun h => absurd rfl h⟩; cases t <;> rfl
    | l q => refine ⟨fun h => (by cases h), fun _ => ?_⟩; cases t <;> rfl
    | r q => refine ⟨fun h => (by cases h), fun _ => ?_⟩; cases t <;> rfl
  | l p ih =>
    intro q t x
    cases q with
    | e =>
      refine ⟨fun h => (by cases h), fun _ => ?_⟩
      cases t
      · exact getP_e p
      · rfl
    | l q =>
      refine ⟨fun h => ?_, fun h => ?_⟩
      · cases h; cases t <;> exact (ih p _ x).1 rfl
      · have hn : p ≠ q := fun e => h (by rw [e])
        cases t
        · exact ((ih q _ x).2 hn).trans (getP_e p)
        · exact (ih q _ x).2 hn
    | r q =>
      refine ⟨fun h => (by cases h), fun _ => ?_⟩
      cases t
      · exact getP_e p
      · rfl
  | r p ih =>
    intro q t x
    cases q with
    | e =>
      refine ⟨fun h => (by cases h), fun _ => ?_⟩
      cases t
      · exact getP_e p
      · rfl
    | r q =>
      refine ⟨fun h => ?_, fun h => ?_⟩
      · cases h; cases t <;> exact (ih p _ x).1 rfl
      · have hn : p ≠ q := fun e => h (by rw [e])
        cases t
        · exact ((ih q _ x).2 hn).trans (getP_e p)
        · exact (ih q _ x).2 hn
    | l q =>
      refine ⟨fun h => (by cases h), fun _ => ?_⟩
      cases t
      · exact getP_e p
      · rfl
theorem get_set (d : Nat) (t : Tr α) (k : Nat) (x : Option α) (j : Nat) (_h : k + 1 < 2 ^ d) : (set d t k x).get j = if j = k then x else t.get j := by
  by_cases e : j = k
  · subst e; rw [if_pos rfl]; exact (getP_set _ _ t x).1 rfl
  · rw [if_neg e]; exact (getP_set _ _ t x).2 fun h => e (path_inj h)
end Tr

/-! ### values -/
/-- The machine's block, and how many cells it has, of a block of the reckoner's. -/
abbrev Io := Nat → Option (Nat × Nat)

/-! ### numbers that are not known: expressions -/
/-- What the symbols stand for. -/
class Rho where
  ρ : Nat → Int
  val : Nat → Value
  B : Nat
  W0 : Nat → Option Obj
/-- What is assumed of expressions. -/
class Asm where
  asm : List (Value × Bool)
/-- Nothing is left open. -/
abbrev Rho.zero : Rho := ⟨fun _ => 0, fun _ => .nilFunc, 0, fun _ => none⟩
abbrev Asm.none : Asm := ⟨[]⟩
/-- A node of an expression. -/
abbrev nd (t : Nat) (a : Value) (l : List Value) : Value := .func (.yield t) ⟨a :: l⟩ ⟨[]⟩
section
variable [Rho]
/-- What an expression for a number comes to. -/
inductive Den : Value → IntKind → Int → Prop
  | lit (k : IntKind) (n : Int) : Den (.int k n) k n
  | sym (k : IntKind) (i : Nat) : Den (nd 0 (.int k (.ofNat i)) []) k (Rho.ρ i)
  | add {a b : Value} {k : IntKind} {x y z : Int} : Den a k x → Den b k y → Den (nd 1 (.int k z) [a, b]) k (k.wrap (x + y))
  | sub {a b : Value} {k : IntKind} {x y z : Int} : Den a k x → Den b k y → Den (nd 2 (.int k z) [a, b]) k (k.wrap (x - y))
  | mul {a b : Value} {k : IntKind} {x y z : Int} : Den a k x → Den b k y → Den (nd 3 (.int k z) [a, b]) k (k.wrap (x * y))
  | max {a b : Value} {k : IntKind} {x y z : Int} : Den a k x → Den b k y → Den (nd 6 (.int k z) [a, b]) k (if x < y then y else x)
  | min {a b : Value} {k : IntKind} {x y z : Int} : Den a k x → Den b k y → Den (nd 7 (.int k z) [a, b]) k (if y < x then y else x)
  | conv {a : Value} {k l : IntKind} {x z : Int} : Den a l x → Den (nd 8 (.int k z) [a]) k (k.wrap x)
/-- .. and for a truth value. -/
inductive DenB : Value → Bool → Prop
  | lit (b : Bool) : DenB (.bool b) b
  | eq {a b : Value} {k : IntKind} {x y : Int} : Den a k x → Den b k y → DenB (nd 20 a [b]) (x == y)
  | lt {a b : Value} {k : IntKind} {x y : Int} : Den a k x → Den b k y → DenB (nd 21 a [b]) (decide (x < y))
  | not {a : Value} {x : Bool} : DenB a x → DenB (nd 23 a []) (!x)
  | xor {a b : Value} {x y : Bool} : DenB a x → DenB b y → DenB (nd 24 a [b]) (x ^^ y)
  | sym (i : Nat) : DenB (nd 25 (.int .i64 (.ofNat i)) []) (decide (Rho.ρ i ≠ 0))
end
/-- A value of one cell of which nothing is known. -/
abbrev unk : Value := .func (.yield 31) ⟨[.nilFunc]⟩ ⟨[]⟩
def single (v : Value) : Bool := match v with
  | .agg _ => false
  | .tuple _ => false
  | _ => true
/-- What is assumed holds. -/
class SymOK [Rho] [Asm] : Prop where
  ok : ∀ c ∈ Asm.asm, ∀ b, DenB c.1 b → b = c.2
theorem SymOK.none [Rho] : @SymOK _ Asm.none := @SymOK.mk _ Asm.none fun c h => by cases h
variable [Rho]
mutual
inductive VR (ι : Io) : Value → Value → Prop
  | bool (b : Bool) : VR ι (.bool b) (.bool b)
  | int (k : IntKind) (n : Int) : VR ι (.int k n) (.int k n)
  | float (k : FloatKind) (n : Nat) : VR ι (.float k n) (.float k n)
  | str (s : ByteArray) : VR ι (.string s) (.string s)
  | ptr {b r c o : Nat} : ι b = some (r, c) → VR ι (.pointer (some ⟨b, o, none⟩)) (.pointer (some ⟨r, o, none⟩))
  | ptr0 : VR ι (.pointer none) (.pointer none)
  | sl {b r c o n k : Nat} : ι b = some (r, c) → k < 2 ^ 64 → VR ι (.slice (some ⟨b, o, none⟩) n k) (.slice (some ⟨r, o, none⟩) n k)
  | slU {b r c o n z k : Nat} : ι b = some (r, c) → n ≤ k → o + k * z = c → 0 < z → z < 2 ^ 64 → VR ι (.slice (some ⟨b, o, none⟩) n (2 ^ 64 + z)) (.slice (some ⟨r, o, none⟩) n k)
  | slE (x : Addr) (k : Nat) : VR ι (.slice none 0 (2 ^ 65)) (.slice (some x) 0 k)
  | sl0 (n k : Nat) : k < 2 ^ 64 → VR ι (.slice none n k) (.slice none n k)
  | map {b r c : Nat} : ι b = some (r, c) → VR ι (.map (some b)) (.map (some r))
  | map0 : VR ι (.map none) (.map none)
  | func {fn : Fn} {xs ys xs' ys' : List Value} : (∀ l, fn ≠ .yield l) → LR ι xs xs' → LR ι ys ys' → VR ι (.func fn ⟨xs⟩ ⟨ys⟩) (.func fn ⟨xs'⟩ ⟨ys'⟩)
  | yld {b r c : Nat} : ι b = some (r, c) → VR ι (.func (.yield b) #[] #[]) (.func (.yield r) #[] #[])
  | sym {t : Nat} {a : Value} {l : List Value} {k : IntKind} {n : Int} : Den (nd t a l) k n → VR ι (.func (.yield t) ⟨a :: l⟩ ⟨[]⟩) (.int k n)
  | symB {t : Nat} {a : Value} {l : List Value} {b : Bool} : DenB (nd t a l) b → VR ι (.func (.yield t) ⟨a :: l⟩ ⟨[]⟩) (.bool b)
  | unk {v : Value} : single v = true → VR ι (.func (.yield 31) ⟨[.nilFunc]⟩ ⟨[]⟩) v
  | opq {i : Nat} {v : Value} : v = Rho.val i → single v = true → VR ι (.func (.yield 30) ⟨[.nilFunc, .int .u64 (.ofNat i)]⟩ ⟨[]⟩) v
  | nilf : VR ι .nilFunc .nilFunc
  | iface (t : TypeId) {v v' : Value} : VR ι v v' → VR ι (.iface t v) (.iface t v')
  | nili : VR ι .nilIface .nilIface
  | agg {xs xs' : List Value} : LR ι xs xs' → VR ι (.agg ⟨xs⟩) (.agg ⟨xs'⟩)
  | tup {xs xs' : List Value} : LR ι xs xs' → VR ι (.tuple ⟨xs⟩) (.tuple ⟨xs'⟩)
inductive LR (ι : Io) : List Value → List Value → Prop
  | nil : LR ι [] []
  | cons {v v' : Value} {l l' : List Value} : VR ι v v' → LR ι l l' → LR ι (v :: l) (v' :: l')
end

def Ext (ι ι' : Io) : Prop := ∀ b r, ι b = some r → ι' b = some r
theorem Ext.refl (ι : Io) : Ext ι ι := fun _ _ h => h
theorem Ext.trans {ι ι' ι'' : Io} (h : Ext ι ι') (h' : Ext ι' ι'') : Ext ι ι'' := fun b r hb => h' b r (h b r hb)

mutual
theorem VR.mono {ι ι' : Io} (h : Ext ι ι') : ∀ {v v' : Value}, VR ι v v' → VR ι' v v'
  | _, _, .bool b => .bool b
  | _, _, .int k n => .int k n
  | _, _, .float k n => .float k n
  | _, _, .str s => .str s
  | _, _, .ptr hb => .ptr (h _ _ hb)
  | _, _, .ptr0 => .ptr0
  | _, _, .sl hb hk => .sl (h _ _ hb) hk
  | _, _, .slU hb h1 h2 h3 h4 => .slU (h _ _ hb) h1 h2 h3 h4
  | _, _, .slE x k => .slE x k
  | _, _, .sl0 n k hk => .sl0 n k hk
  | _, _, .map hb => .map (h _ _ hb)
  | _, _, .map0 => .map0
  | _, _, .func hf h1 h2 => .func hf (LR.mono h h1) (LR.mono h h2)
  | _, _, .yld hb => .yld (h _ _ hb)
  | _, _, .sym hd => .sym hd
  | _, _, .symB hd => .symB hd
  | _, _, .unk h => .unk h
  | _, _, .opq e h => .opq e h
  | _, _, .nilf => .nilf
  | _, _, .iface t hv => .iface t (VR.mono h hv)
  | _, _, .nili => .nili
  | _, _, .agg hl => .agg (LR.mono h hl)
  | _, _, .tup hl => .tup (LR.mono h hl)
theorem LR.mono {ι ι' : Io} (h : Ext ι ι') : ∀ {l l' : List Value}, LR ι l l' → LR ι' l l'
  | _, _, .nil => .nil
  | _, _, .cons hv hl => .cons (VR.mono h hv) (LR.mono h hl)
end

mutual
/-- What is known to be of ι keeps to it. -/
theorem VR.back {ι ι' : Io} (h : Ext ι ι') : ∀ {v x y : Value}, VR ι v x → VR ι' v y → VR ι v y
  | _, _, _, .bool b, hy => by cases hy; exact .bool b
  | _, _, _, .int k n, hy => by cases hy; exact .int k n
  | _, _, _, .float k n, hy => by cases hy; exact .float k n
  | _, _, _, .str s, hy => by cases hy; exact .str s
  | _, _, _, .ptr hb, hy => by
    cases hy with
    | ptr hb' => rw [h _ _ hb] at hb'; cases hb'; exact .ptr hb
  | _, _, _, .ptr0, hy => by cases hy; exact .ptr0
  | _, _, _, .sl hb hk, hy => by
    cases hy with
    | sl hb' hk' => rw [h _ _ hb] at hb'; cases hb'; exact .sl hb hk
    | slU hb' h1 h2 h3 h4 => omega
  | _, _, _, .slU (z := z) hb h1 h2 h3 h4, hy => by
    generalize hc : 2 ^ 64 + z = cc at hy
    cases hy with
    | sl hb' hk' => omega
    | slU hb' h1' h2' h3' h4' =>
      have hz := Nat.add_left_cancel hc
      subst hz
      rw [h _ _ hb] at hb'; cases hb'; exact .slU hb h1' h2' h3' h4'
  | _, _, _, .slE x k, hy => by
    generalize hc : 2 ^ 65 = cc at hy
    cases hy with
    | sl0 _ _ hk' => omega
    | slE y k' => exact .slE y k'
  | _, _, _, .sl0 n k hk, hy => by
    cases hy with
    | sl0 _ _ hk' => exact .sl0 n k hk
    | slE y k' => omega
  | _, _, _, .map hb, hy => by
    cases hy with
    | map hb' => rw [h _ _ hb] at hb'; cases hb'; exact .map hb
  | _, _, _, .map0, hy => by cases hy; exact .map0
  | _, _, _, .func hf h1 h2, hy => by
    cases hy with
    | func hf' h1' h2' => exact .func hf (LR.back h h1 h1') (LR.back h h2 h2')
    | yld hb => exact absurd rfl (hf _)
    | sym hd => exact absurd rfl (hf _)
    | symB hd => exact absurd rfl (hf _)
    | unk h => exact absurd rfl (hf _)
    | opq _ h => exact absurd rfl (hf _)
  | _, _, _, .sym hd, hy => by
    cases hy with
    | func hf' h1' h2' => exact absurd rfl (hf' _)
    | sym hd' => exact .sym hd'
    | symB hd' => exact .symB hd'
    | unk h => exact .unk h
    | opq e h => exact .opq e h
  | _, _, _, .symB hd, hy => by
    cases hy with
    | func hf' h1' h2' => exact absurd rfl (hf' _)
    | sym hd' => exact .sym hd'
    | symB hd' => exact .symB hd'
    | unk h => exact .unk h
    | opq e h => exact .opq e h
  | _, _, _, .unk hd, hy => by
    cases hy with
    | func hf' h1' h2' => exact absurd rfl (hf' _)
    | sym hd' => exact .sym hd'
    | symB hd' => exact .symB hd'
    | unk h => exact .unk h
  | _, _, _, .opq e h, hy => by
    cases hy with
    | func hf' h1' h2' => exact absurd rfl (hf' _)
    | sym hd' => exact .sym hd'
    | symB hd' => exact .symB hd'
    | opq e h => exact .opq e h
  | _, _, _, .yld hb, hy => by
    cases hy with
    | func hf' h1' h2' => exact absurd rfl (hf' _)
    | yld hb' => rw [h _ _ hb] at hb'; cases hb'; exact .yld hb
  | _, _, _, .nilf, hy => by cases hy; exact .nilf
  | _, _, _, .iface t hv, hy => by
    cases hy with
    | iface _ hv' => exact .iface t (VR.back h hv hv')
  | _, _, _, .nili, hy => by cases hy; exact .nili
  | _, _, _, .agg hl, hy => by
    cases hy with
    | agg hl' => exact .agg (LR.back h hl hl')
  | _, _, _, .tup hl, hy => by
    cases hy with
    | tup hl' => exact .tup (LR.back h hl hl')
theorem LR.back {ι ι' : Io} (h : Ext ι ι') : ∀ {l x y : List Value}, LR ι l x → LR ι' l y → LR ι l y
  | _, _, _, .nil, hy => by cases hy; exact .nil
  | _, _, _, .cons hv hl, hy => by
    cases hy with
    | cons hv' hl' => exact .cons (VR.back h hv hv') (LR.back h hl hl')
end

/-- No block from m on is named. -/
def flat (m : Nat) : Nat → Value → Bool
  | 0, _ => false
  | d + 1, v => match v with
    | .bool _ | .int _ _ | .float _ _ | .string _ | .pointer none | .slice none _ _ | .map none | .nilFunc | .nilIface => true
    | .pointer (some a) => Nat.blt a.block m
    | .slice (some a) _ _ => Nat.blt a.block m
    | .map (some r) => Nat.blt r m
    | .func (.yield l) ⟨[]⟩ _ => Nat.blt l m
    | .func (.yield _) ⟨_ :: _⟩ _ => true
    | .func _ xs ys => xs.toList.all (flat m d) && ys.toList.all (flat m d)
    | .iface _ v => flat m d v
    | .agg xs => xs.toList.all (flat m d)
    | .tuple xs => xs.toList.all (flat m d)
    | _ => false

theorem LR.backFlat {ι ι' : Io} {m d : Nat} (ih : ∀ v v', flat m d v = true → VR ι' v v' → VR ι v v') : ∀ {l l' : List Value}, l.all (flat m d) = true → LR ι' l l' → LR ι l l'
  | _, _, _, .nil => .nil
  | _, _, hf, .cons hv hl => by
    simp only [List.all_cons, Bool.and_eq_true] at hf
    exact .cons (ih _ _ hf.1 hv) (LR.backFlat ih hf.2 hl)
theorem VR.backFlat {ι ι' : Io} {m : Nat} (h : ∀ b r, b < m → ι' b = some r → ι b = some r) : ∀ (d : Nat) (v v' : Value), flat m d v = true → VR ι' v v' → VR ι v v' := by
  have lt : ∀ {a b : Nat}, Nat.blt a b = true → a < b := fun h => by simpa [Nat.blt_eq] using h
  intro d
  induction d with
  | zero => intro v v' hf _; simp [flat] at hf
  | succ d ih =>
    intro v v' hf hv
    cases hv with
    | bool b => exact .bool b
    | int k n => exact .int k n
    | float k n => exact .float k n
    | str s => exact .str s
    | ptr hb => exact .ptr (h _ _ (lt hf) hb)
    | ptr0 => exact .ptr0
    | sl hb hk => exact .sl (h _ _ (lt hf) hb) hk
    | slU hb h1 h2 h3 h4 => exact .slU (h _ _ (lt hf) hb) h1 h2 h3 h4
    | slE x k => exact .slE x k
    | sl0 n k hk => exact .sl0 n k hk
    | map hb => exact .map (h _ _ (lt hf) hb)
    | map0 => exact .map0
    | func hn h1 h2 =>
      rename_i fn xs ys xs' ys'
      have hf' : (xs.all (flat m d) && ys.all (flat m d)) = true := by
        cases fn <;> first | exact hf | exact absurd rfl (hn _)
      simp only [Bool.and_eq_true] at hf'
      exact .func hn (LR.backFlat ih hf'.1 h1) (LR.backFlat ih hf'.2 h2)
    | yld hb => exact .yld (h _ _ (lt hf) hb)
    | sym hd => exact .sym hd
    | symB hd => exact .symB hd
    | unk h => exact .unk h
    | opq e h => exact .opq e h
    | nilf => exact .nilf
    | iface t hv => exact .iface t (ih _ _ hf hv)
    | nili => exact .nili
    | agg hl => exact .agg (LR.backFlat ih hf hl)
    | tup hl => exact .tup (LR.backFlat ih hf hl)

theorem LR.refl0 {ι : Io} {d : Nat} (ih : ∀ v, flat 0 d v = true → VR ι v v) : ∀ (l : List Value), l.all (flat 0 d) = true → LR ι l l
  | [], _ => .nil
  | v :: l, hf => by
    simp only [List.all_cons, Bool.and_eq_true] at hf
    exact .cons (ih v hf.1) (LR.refl0 ih l hf.2)
end Go.Sim
