/- Part 32 of the proof: TxV. -/
import Derived.Deep.WholeRow
import Derived.Test.YtljefjngmembkaaGreatDoorT21
import Derived.Test.YtljefjngmembkaaGreatDoorT29
import Derived.Test.YtljefjngmembkaaGreatDoorT30
namespace Go.Proofs.YtljefjngmembkaaGreatDoor
set_option linter.all false
open Go.RowKit Go.Lib Go.Tx
theorem wpList_load_rowW {P : Program} {ops : Array Oper} {rest : List Oper} {o : Oper} {a : Act} {w : World} {Q : Exit → Act → World → Prop} (hw : Region.wanted o (yielded ops a.tmps) = true) (ty : TypeId) (x : Operand) (ho : o.op = .load ty x)
    (g : Nat) (hx : a.eval x = .pointer (some ⟨g,0,none⟩)) (t : TypeId) (cs : Array Value) (fr : Nat × Nat) (d : TypeDesc) (hg : w.heap[g]? = some (.cells cs t fr))
    (hu : P.underlying ty = some d) (hd : (match d with | .struct _ | .array _ _ => true | _ => false) = true) (hi : (P.info? ty).map (·.size) = some cs.size)
    (h : wpList P ops Q rest (a.put o.dst (.agg cs)) w) : wpList P ops Q (o :: rest) a w :=
  wpList_step fun K hK => by rw [if_pos hw]; exact wp_load_row ty x ho g hx t cs fr d hg hu hd hi (hK _ _ h)
theorem dec_short (u : Nat) (h : u < 1000) : (Lib.decDigits u).length ≤ 3 := by
  rw [Lib.decDigits]
  split
  · simp
  · rw [Lib.decDigits]
    split
    · simp
    · rw [Lib.decDigits]
      split
      · simp
      · omega
theorem itoa_short {n : Int} (h : -999 ≤ n ∧ n ≤ 999) : (itoa n).length ≤ 4 := by
  unfold itoa
  split
  · have := dec_short n.natAbs (by omega)
    rw [List.length_cons]
    omega
  · have := dec_short n.toNat (by omega)
    omega
theorem span_short {a b : Int} (h : -999 ≤ a ∧ a ≤ 999) (h2 : -999 ≤ b ∧ b ≤ 999) : (spanT 58 (a,b)).length ≤ 9 := by
  unfold spanT
  have := itoa_short h
  have := itoa_short h2
  simp only [List.length_append,List.length_cons]
  omega
theorem shT_short : ∀ (sh : List R2),(∀ s ∈ sh,-60 ≤ s.1 ∧ s.1 ≤ s.2 ∧ s.2 ≤ 60) → (shT sh).length ≤ 16 * sh.length
  | [],_ => Nat.le_refl _
  | s :: sh,h => by
    have ih := shT_short sh fun x hx => h x (List.mem_cons_of_mem _ hx)
    have h1 := h s List.mem_cons_self
    have h2 := span_short (a := s.1) (b := s.2) (by omega) (by omega)
    have h3 : (spanT 58 s).length ≤ 9 := h2
    rw [shT_cons,List.length_append,List.length_cons]
    unfold lineT
    rw [List.length_append,Tx.join_two,join_one,List.length_append,List.length_cons]
    simp only [shiftW,List.length_cons,List.length_nil]
    omega
theorem text_short {J : Jb} (hF : J.Full) : (textJ J).length ≤ 300 := by
  obtain ⟨p,t,r,u,d,x,y,le,wi,me,len,sh⟩ := hF
  have a1 := span_short (a := J.p1) (b := J.p2) (by omega) (by omega)
  have a2 := span_short (a := J.t1) (b := J.t2) (by omega) (by omega)
  have a3 := span_short (a := J.r1) (b := J.r2) (by omega) (by omega)
  have a4 := span_short (a := J.u1) (b := J.u2) (by omega) (by omega)
  have a5 := span_short (a := J.d1) (b := J.d2) (by omega) (by omega)
  have a6 := span_short (a := J.x1) (b := J.x2) (by omega) (by omega)
  have a7 := span_short (a := J.y1) (b := J.y2) (by omega) (by omega)
  have a8 := itoa_short (n := J.le) (by omega)
  have a9 := itoa_short (n := J.wi) (by omega)
  have a10 := itoa_short (n := J.me) (by omega)
  have a11 := shT_short J.sh sh
  unfold textJ lineT
  simp only [List.length_append,Tx.join_two,join_one,List.length_cons,List.length_nil,tongueW,fileW,passW]
  omega
def TunOK8 : Prop := ∀ (w : World),8 ≤ w.heap.size → Calls Tryz.prog 5 #[] w fun e w' => e = .returned (.bool true) ∧ Below w.heap.size w w'
end Go.Proofs.YtljefjngmembkaaGreatDoor
