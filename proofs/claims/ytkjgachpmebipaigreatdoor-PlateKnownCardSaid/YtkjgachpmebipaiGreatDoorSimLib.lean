import Derived.Test.YtkjgachpmebipaiGreatDoorSimZ3
import Derived.Below
import Derived.Lib.Join
import Derived.Lib.ItoaNum
import Derived.Lib.LaidTab
import Derived.Sort.Grow
import Derived.Deep.Draws
/- Two functions of the library, as calls that are known. -/
namespace Go.Sim
set_option linter.all false
open Go Go.RowKit
variable [Rho] [Asm] [SymOK]
noncomputable section

def digs : Nat → Nat → List UInt8
  | 0, _ => []
  | d + 1, u => if u < 10 then [UInt8.ofNat (48 + u)] else digs d (u / 10) ++ [UInt8.ofNat (48 + u % 10)]
theorem digs_eq : ∀ (d u : Nat), u < 10 ^ (d + 1) → digs (d + 1) u = Lib.decDigits u
  | 0, u, h => by
    have h' : u < 10 := by simpa using h
    unfold digs Lib.decDigits
    rw [if_pos h', dif_pos h']
  | d + 1, u, h => by
    unfold digs
    rw [Lib.decDigits]
    by_cases h' : u < 10
    · rw [if_pos h', dif_pos h']
    · rw [if_neg h', dif_neg h', digs_eq d (u / 10) (by rw [Nat.div_lt_iff_lt_mul (by omega)]; exact h)]
def itoaR (z : Int) : List UInt8 := match z with
  | .ofNat n => digs 20 n
  | .negSucc n => 45 :: digs 20 (n + 1)
theorem itoaR_eq {z : Int} (h0 : -9223372036854775808 ≤ z) (h1 : z ≤ 9223372036854775807) : itoaR z = Lib.itoa z := by
  unfold itoaR Lib.itoa
  cases z with
  | ofNat n =>
    have h1' : (n : Int) ≤ 9223372036854775807 := h1
    have : ¬ (Int.ofNat n < 0) := by show ¬ ((n : Int) < 0); omega
    rw [if_neg this]
    exact digs_eq 19 n (by show n < 10 ^ 20; omega)
  | negSucc n =>
    rw [if_pos (Int.negSucc_lt_zero n)]
    have : n + 1 < 10 ^ 20 := by omega
    exact congrArg (45 :: ·) (digs_eq 19 (n + 1) this)
theorem eqU_ok {l m : List UInt8} (h : eqU l m = true) : l = m := by
  rw [eqU_eq] at h
  simpa using h

theorem Kept.below {w w' : World} (h : Below w.heap.size w w') : Kept w w' := ⟨h.os, h.tape, h.output, h.size, h.block⟩
theorem Kept.refl (w : World) : Kept w w := ⟨rfl, rfl, rfl, Nat.le_refl _, fun _ _ => rfl⟩
theorem Kept.grow (w : World) (k : Nat) (os : Array Obj) : Kept w (Sort.grow (w.drewN k) os) :=
  ⟨rfl, rfl, rfl, by simp [Sort.grow, World.drewN], fun i hi => by
    show (w.heap ++ os)[i]? = _
    rw [Array.getElem?_append_left hi]⟩

section
variable {P : Program} {f n : Nat} {fn : Func}
theorem gplain (hfn : P.funcs[f]? = some fn) (hb : fn.body.isSome = true) (hname : (fn.name == "runtime.NumGoroutine") = false) {fv' : Value} {args : List Value} {ι : Io} (hv : VR ι (.func (.func f) ⟨[]⟩ ⟨[]⟩) fv') {w : World} {R : Value → World → Prop}
    (h : Calls P f ⟨args⟩ w fun e w' => ∃ v', e = .returned v' ∧ R v' w') : CallR P fv' args w R := by
  cases hv with
  | func a b c =>
    cases b
    cases c
    exact .inl ⟨f, [], [], fn, rfl, hfn, hb, hname, fun m => callsIn_wide.2 (by simpa using h)⟩

def itoaG (f n g : Nat) (tab : List Value) (z : Int) (r : List UInt8) : Gen := ⟨f, [.int .i64 z], some (g, tab), n, [], .string ⟨⟨r⟩⟩⟩
theorem gItoa {g c : Nat} {tab : List Value} {z : Int} {r : List UInt8} {name : String} (hfn : P.funcs[f]? = some fn) (hb : fn.body.isSome = true) (hname : (fn.name == "runtime.NumGoroutine") = false)
    (hc : ∀ (n : Int), -9223372036854775808 ≤ n → n ≤ 9223372036854775807 → ∀ w : World, Lib.TabIs P w name .u64 Lib.pow10Tab → Calls P f #[.int .i64 n] w fun e w' => e = .returned (.string ⟨(Lib.itoa n).toArray⟩) ∧ ∃ k os, w' = Sort.grow (w.drewN k) os)
    (hg : P.globalNamed name = some g) (hgs : gsize P g = some c) (htab : (Lib.pow10Tab.map fun z => Value.int .u64 z) = tab) (hn : (Nat.ble P.globals.size n && (Nat.ble n limH && Nat.blt g n)) = true)
    (hz : (decide (-9223372036854775808 ≤ z) && (decide (z ≤ 9223372036854775807) && eqU (itoaR z) r)) = true) : GFact P (itoaG f n g tab z r) := by
  simp only [Bool.and_eq_true, decide_eq_true_eq] at hn hz
  obtain ⟨n1, n2, n3⟩ := hn
  obtain ⟨z1, z2, z3⟩ := hz
  refine ⟨⟨Nat.le_of_ble_eq_true n1, by simpa [itoaG] using Nat.le_of_ble_eq_true n2⟩, fun ι w fv' args' h1 h2 h3 => ?_⟩
  have ht : Lib.TabIs P w name .u64 Lib.pow10Tab := by
    have hget : (itoaG f n g tab z r).st.h.get g = some (LO.ro tab) := by
      show (Tr.set DH .e g (some (LO.ro tab))).get g = _
      rw [Tr.get_set DH _ _ _ _ (lim_le (by have := blt_true n3; have := Nat.le_of_ble_eq_true n2; omega)), if_pos rfl]
    obtain ⟨r', c', x, e1, e2, cs, t, fz, rfl, e3⟩ := h3.obj g _ hget
    rw [h3.pin g c hgs] at e1
    cases e1
    unfold Lib.TabIs World.var?
    rw [hg]
    simp only [Option.bind_some, e2]
    rw [htab, ← e3]
  have hargs : args' = [.int .i64 z] := by
    cases h2 with
    | cons a b => cases b; rw [a.intI]
  subst hargs
  refine gplain hfn hb hname h1 ((hc z z1 z2 w ht).mono ?_)
  rintro e w' ⟨rfl, k, os, rfl⟩
  refine ⟨_, rfl, fun ι => ?_, Kept.grow _ _ _⟩
  rw [← itoaR_eq z1 z2, eqU_ok z3]
  exact .str _

def strCells : List (List UInt8) → List Value
  | [] => []
  | x :: l => .string ⟨⟨x⟩⟩ :: strCells l
theorem strCells_inv {ι : Io} : ∀ {xs : List (List UInt8)} {l : List Value}, LR ι (strCells xs) l → l = strCells xs
  | [], l, h => by cases h; rfl
  | x :: xs, l, h => by
    cases h with
    | cons a b => rw [a.strI, strCells_inv b]; rfl
theorem strCells_get : ∀ {xs : List (List UInt8)} {j : Nat} {x : ByteArray}, (xs.map fun x => (⟨⟨x⟩⟩ : ByteArray))[j]? = some x → (strCells xs)[j]? = some (.string x)
  | [], j, x, h => by simp at h
  | y :: xs, j, x, h => by
    cases j with
    | zero => simp at h; subst h; rfl
    | succ j => exact strCells_get (xs := xs) (j := j) (by simpa using h)
def joinR (sep : List UInt8) : List (List UInt8) → List UInt8
  | [] => []
  | x :: r => appU x (joinT sep r)
  where joinT (sep : List UInt8) : List (List UInt8) → List UInt8
  | [] => []
  | x :: r => appU sep (appU x (joinT sep r))
theorem joinT_eq (sep : List UInt8) : ∀ r, joinR.joinT sep r = Lib.joinTail sep r
  | [] => rfl
  | x :: r => by
    simp only [joinR.joinT, appU_eq, joinT_eq sep r, Lib.joinTail, List.map_cons, List.flatten_cons, List.append_assoc]
theorem joinR_eq (sep : List UInt8) : ∀ xs, joinR sep xs = Lib.join xs sep
  | [] => rfl
  | x :: r => by simp only [joinR, appU_eq, joinT_eq, Lib.join_cons]
def joinG (f n k : Nat) (xs : List (List UInt8)) (sep r : List UInt8) : Gen := ⟨f, [.slice (some ⟨n, 0, none⟩) k k, .string ⟨⟨sep⟩⟩], none, n, [.cells (strCells xs)], .string ⟨⟨r⟩⟩⟩
def joinGU (f n k : Nat) (xs : List (List UInt8)) (sep r : List UInt8) : Gen := ⟨f, [.slice (some ⟨n, 0, none⟩) k (2 ^ 64 + 1), .string ⟨⟨sep⟩⟩], none, n, [.cells (strCells xs)], .string ⟨⟨r⟩⟩⟩
def lenL : List (List UInt8) → Nat
  | [] => 0
  | _ :: l => Nat.succ (lenL l)
theorem lenL_eq : ∀ (l : List (List UInt8)), lenL l = l.length
  | [] => rfl
  | _ :: l => by simp [lenL, lenL_eq l]
theorem gJoin {k : Nat} {xs : List (List UInt8)} {sep r : List UInt8} (hfn : P.funcs[f]? = some fn) (hb : fn.body.isSome = true) (hname : (fn.name == "runtime.NumGoroutine") = false)
    (hc : ∀ (bk o c : Nat) (xs : List ByteArray) (sep : ByteArray) (w : World), (∀ (j : Nat) x, xs[j]? = some x → w.cell? ⟨bk, o + j, none⟩ = some (.string x)) → bk < w.heap.size → xs.length ≤ 140737488355328 → xs.length ≤ c →
      (Lib.join (xs.map (·.data.toList)) sep.data.toList).length ≤ 140737488355328 → Calls P f #[.slice (some ⟨bk, o, none⟩) xs.length c, .string sep] w fun e w' => e = .returned (.string ⟨(Lib.join (xs.map (·.data.toList)) sep.data.toList).toArray⟩) ∧ Below w.heap.size w w')
    (hn : (Nat.ble P.globals.size n && Nat.blt n limH) = true) (hx : (Nat.beq (lenL xs) k && (Nat.blt k 100000 && (Nat.blt (lenU r) 100000 && eqU (joinR sep xs) r))) = true) : GFact P (joinG f n k xs sep r) := by
  simp only [Bool.and_eq_true] at hn hx
  obtain ⟨n1, n2⟩ := hn
  obtain ⟨x1, x2, x3, x4⟩ := hx
  have x1 := beqN x1
  rw [lenL_eq] at x1
  have x2 := blt_true x2
  have x3 := blt_true x3
  rw [lenU_eq] at x3
  have x4 := eqU_ok x4
  refine ⟨⟨Nat.le_of_ble_eq_true n1, by have := blt_true n2; show n + 1 ≤ limH; omega⟩, fun ι w fv' args' h1 h2 h3 => ?_⟩
  cases h2 with
  | cons ha hb' =>
    cases hb' with
    | cons hs hnil =>
      cases hnil
      obtain ⟨b, c, rfl, hbl⟩ := ha.slI (by omega)
      rw [hs.strI]
      have hget : (joinG f n k xs sep r).st.h.get n = some (.cells (strCells xs)) := by
        show (Tr.set DH .e n (some (LO.cells (strCells xs)))).get n = _
        rw [Tr.get_set DH _ _ _ _ (lim_ok (blt_true n2)), if_pos rfl]
      obtain ⟨r', c', x, e1, e2, cs, t, rfl, e3, l', tl, e4, e5⟩ := h3.obj n _ hget
      rw [hbl] at e1
      cases e1
      have hl := strCells_inv e5
      have hmap : ((xs.map fun x => (⟨⟨x⟩⟩ : ByteArray)).map (·.data.toList)) = xs := by
        rw [List.map_map]
        exact List.map_id' xs
      have hlen : (xs.map fun x => (⟨⟨x⟩⟩ : ByteArray)).length = k := by simpa using x1
      have hj : Lib.join ((xs.map fun x => (⟨⟨x⟩⟩ : ByteArray)).map (·.data.toList)) (⟨⟨sep⟩⟩ : ByteArray).data.toList = r := by
        rw [hmap]
        show Lib.join xs sep = r
        rw [← joinR_eq, x4]
      have hcall := hc b 0 k (xs.map fun x => ⟨⟨x⟩⟩) ⟨⟨sep⟩⟩ w (fun j x hj => by
        rw [cell_of_row w b (0 + j) cs t (0, 0) e2, Nat.zero_add, ← Array.getElem?_toList, e4, hl]
        have := strCells_get hj
        rw [List.getElem?_append_left (List.getElem?_eq_some_iff.1 this).1]
        exact this) (h3.bound _ _ _ hbl) (by rw [hlen]; omega) (by rw [hlen]; exact Nat.le_refl _) (by rw [hj]; omega)
      rw [hlen, hj] at hcall
      refine gplain hfn hb hname h1 (hcall.mono ?_)
      rintro e w' ⟨rfl, hbw⟩
      exact ⟨_, rfl, fun ι => .str _, Kept.below hbw⟩
theorem gJoinU {k : Nat} {xs : List (List UInt8)} {sep r : List UInt8} (hfn : P.funcs[f]? = some fn) (hb : fn.body.isSome = true) (hname : (fn.name == "runtime.NumGoroutine") = false)
    (hc : ∀ (bk o c : Nat) (xs : List ByteArray) (sep : ByteArray) (w : World), (∀ (j : Nat) x, xs[j]? = some x → w.cell? ⟨bk, o + j, none⟩ = some (.string x)) → bk < w.heap.size → xs.length ≤ 140737488355328 → xs.length ≤ c →
      (Lib.join (xs.map (·.data.toList)) sep.data.toList).length ≤ 140737488355328 → Calls P f #[.slice (some ⟨bk, o, none⟩) xs.length c, .string sep] w fun e w' => e = .returned (.string ⟨(Lib.join (xs.map (·.data.toList)) sep.data.toList).toArray⟩) ∧ Below w.heap.size w w')
    (hn : (Nat.ble P.globals.size n && Nat.blt n limH) = true) (hx : (Nat.beq (lenL xs) k && (Nat.blt k 100000 && (Nat.blt (lenU r) 100000 && eqU (joinR sep xs) r))) = true) : GFact P (joinGU f n k xs sep r) := by
  simp only [Bool.and_eq_true] at hn hx
  obtain ⟨n1, n2⟩ := hn
  obtain ⟨x1, x2, x3, x4⟩ := hx
  have x1 := beqN x1
  rw [lenL_eq] at x1
  have x2 := blt_true x2
  have x3 := blt_true x3
  rw [lenU_eq] at x3
  have x4 := eqU_ok x4
  refine ⟨⟨Nat.le_of_ble_eq_true n1, by have := blt_true n2; show n + 1 ≤ limH; omega⟩, fun ι w fv' args' h1 h2 h3 => ?_⟩
  cases h2 with
  | cons ha hb' =>
    cases hb' with
    | cons hs hnil =>
      cases hnil
      obtain ⟨b, c, kk, rfl, hbl, hkk, _⟩ := VR.slUI (z := 1) ha
      rw [hs.strI]
      have hget : (joinGU f n k xs sep r).st.h.get n = some (.cells (strCells xs)) := by
        show (Tr.set DH .e n (some (LO.cells (strCells xs)))).get n = _
        rw [Tr.get_set DH _ _ _ _ (lim_ok (blt_true n2)), if_pos rfl]
      obtain ⟨r', c', x, e1, e2, cs, t, rfl, e3, l', tl, e4, e5⟩ := h3.obj n _ hget
      rw [hbl] at e1
      cases e1
      have hl := strCells_inv e5
      have hmap : ((xs.map fun x => (⟨⟨x⟩⟩ : ByteArray)).map (·.data.toList)) = xs := by
        rw [List.map_map]
        exact List.map_id' xs
      have hlen : (xs.map fun x => (⟨⟨x⟩⟩ : ByteArray)).length = k := by simpa using x1
      have hj : Lib.join ((xs.map fun x => (⟨⟨x⟩⟩ : ByteArray)).map (·.data.toList)) (⟨⟨sep⟩⟩ : ByteArray).data.toList = r := by
        rw [hmap]
        show Lib.join xs sep = r
        rw [← joinR_eq, x4]
      have hcall := hc b 0 kk (xs.map fun x => ⟨⟨x⟩⟩) ⟨⟨sep⟩⟩ w (fun j x hj => by
        rw [cell_of_row w b (0 + j) cs t (0, 0) e2, Nat.zero_add, ← Array.getElem?_toList, e4, hl]
        have := strCells_get hj
        rw [List.getElem?_append_left (List.getElem?_eq_some_iff.1 this).1]
        exact this) (h3.bound _ _ _ hbl) (by rw [hlen]; omega) (by rw [hlen]; exact hkk) (by rw [hj]; omega)
      rw [hlen, hj] at hcall
      refine gplain hfn hb hname h1 (hcall.mono ?_)
      rintro e w' ⟨rfl, hbw⟩
      exact ⟨_, rfl, fun ι => .str _, Kept.below hbw⟩
end
end
end Go.Sim
