/-
  No cell of these rows narrows 'for every input' (looked for: loops, veiled, ifaces, maps, wideKeys, modest, calm, conditions, laid).
  DERIVED. THE GIVEN ROWS OF THIS SEAT. 2 by the template 'for every input the law returns true; each argument reads behind the call as it read before'; 0 by the template 'total and deterministic' (their statements: YtbbekjcldbbhiaaTotals.lean).
  GIVEN WITH THE SEED: the statements are not yours to turn. If you find one false, say at which input.
  Laid BY PROGRAM, IN A SANDBOX (cutbox-rows.mjs): the forced cells as the released guide's own fill.sh prints them over the translation 8ca67d9d51c59d79… (all of the seat's roots in one cut). By AI agents, Wed Nov 11 2026. No macro, syntax, notation, axiom, sorry.
-/
import Derived.Test.YtbbekjcldbbhiaaChecked
import GoSem.Claim
import GoSem.ClaimJoined
import GoSem.ClaimMapViews
import Derived.JoinedTies
import Derived.KernelRfl
namespace Go.Proofs.Ytbbekjcldbbhiaa
/- THE CELL 'sum', in the pinned program and in every row, IS THE sha256 OF THE DUMP (.gsa) THAT YtbbekjcldbbhiaaProg.lean LOADS. Nothing in Lean hashes anything: it is a label: what it is worth is what the hold of that sum in a sandbox is worth. -/
noncomputable def Try.pinned : Pinned := { name := "ytbbekjcldbbhiaa", sum := "8ca67d9d51c59d794daef1f49f277ef0bb195a58b6e8890df9ea6ad408cf45c5", checked := Try.checked }
namespace Rows
def none {H : Type} : Left H := { results := [], args := [] }

/-- 'musettelaw01.ReedShortest': WHATEVER THE INPUT: true; the input reads as it did. -/
def reedShortestSpec : ChangeSpec := { name := "reedShortest", fn := fun _ => fun
  | [d1, d2] => { results := [.lit (.bool true)], args := [d1, d2] }
  | _ => none }
def reedShortestRow : OpenClaim := { program := "ytbbekjcldbbhiaa", sum := "8ca67d9d51c59d794daef1f49f277ef0bb195a58b6e8890df9ea6ad408cf45c5", func := "musette/musettelaw01.ReedShortest", spec := "reedShortest", unfollowed := true, recurses := true, plainKeys := false, apart := false }
def ReedShortestSaid : Prop := reedShortestRow.holds Try.pinned (OpenSpec.ofChange reedShortestSpec)

/-- ITS FALSE NEIGHBOUR: 'it returns false'. Refute it at one input. -/
def reedShortestWrong : ChangeSpec := { name := "reedShortest", fn := fun _ => fun
  | [d1, d2] => { results := [.lit (.bool false)], args := [d1, d2] }
  | _ => none }
def ReedShortestWrongFalsely : Prop := reedShortestRow.holds Try.pinned (OpenSpec.ofChange reedShortestWrong)

/-- 'musettelaw01.ReedFewest': WHATEVER THE INPUT: true; the input reads as it did. -/
def reedFewestSpec : ChangeSpec := { name := "reedFewest", fn := fun _ => fun
  | [d] => { results := [.lit (.bool true)], args := [d] }
  | _ => none }
def reedFewestRow : OpenClaim := { program := "ytbbekjcldbbhiaa", sum := "8ca67d9d51c59d794daef1f49f277ef0bb195a58b6e8890df9ea6ad408cf45c5", func := "musette/musettelaw01.ReedFewest", spec := "reedFewest", unfollowed := true, recurses := true, plainKeys := false, apart := false }
def ReedFewestSaid : Prop := reedFewestRow.holds Try.pinned (OpenSpec.ofChange reedFewestSpec)

/-- ITS FALSE NEIGHBOUR: 'it returns false'. Refute it at one input. -/
def reedFewestWrong : ChangeSpec := { name := "reedFewest", fn := fun _ => fun
  | [d] => { results := [.lit (.bool false)], args := [d] }
  | _ => none }
def ReedFewestWrongFalsely : Prop := reedFewestRow.holds Try.pinned (OpenSpec.ofChange reedFewestWrong)

/- THE SECOND FORM. 'bulk': how many values and letters a reading holds, each counted each time it is reached (what is shared counts as often as it is met; a slice's spare places count too). A statement '..UptoSaid' is the law's where the arguments, and the package variables that the reading takes, are together of bulk at most 1048576: NARROWER than '..Said'. Prove '..Said' where nothing that the law and all that it calls make is longer than what came in: it says more and counts as full. Else prove '..UptoSaid'. A law counts once. -/
mutual
def uptoBulk {H : Type} : DataW H → Nat
  | .lit (.string bytes) => bytes.length + 1
  | .lit _ => 1
  | .nil => 1
  | .ptr d => uptoBulk d + 1
  | .slice elems spare => uptoBulkAll elems + uptoBulkAll spare + 1
  | .agg parts => uptoBulkAll parts + 1
  | .iface _ d => uptoBulk d + 1
  | .map entries => uptoBulkEntries entries + 1
  | .held _ => 1
def uptoBulkAll {H : Type} : List (DataW H) → Nat
  | [] => 0
  | d :: r => uptoBulk d + uptoBulkAll r
def uptoBulkEntries {H : Type} : List (Lit × DataW H) → Nat
  | [] => 0
  | x :: r => uptoBulkEntry x + uptoBulkEntries r
def uptoBulkEntry {H : Type} : Lit × DataW H → Nat
  | (.string bytes, d) => bytes.length + uptoBulk d + 1
  | (_, d) => uptoBulk d + 1
 end
def uptoSmall : (H : Type) → List (DataW H) → Bool := fun _ ds => decide (uptoBulkAll ds ≤ 1048576)
def OpenSpec.upto (s : _root_.Go.ChangeSpec) : _root_.Go.OpenSpec := { _root_.Go.OpenSpec.ofChange s with cond := some uptoSmall }

/-- 'musettelaw01.ReedShortest', WHERE WHAT IT READS IS OF BULK AT MOST 1048576: true; the input reads as it did. -/
def reedShortestUptoRow : OpenClaim := { program := "ytbbekjcldbbhiaa", sum := "8ca67d9d51c59d794daef1f49f277ef0bb195a58b6e8890df9ea6ad408cf45c5", func := "musette/musettelaw01.ReedShortest", spec := "reedShortest", unfollowed := true, recurses := true, plainKeys := false, apart := false, narrowed := true }
def ReedShortestUptoSaid : Prop := reedShortestUptoRow.holds Try.pinned (OpenSpec.upto reedShortestSpec)

/-- 'musettelaw01.ReedFewest', WHERE WHAT IT READS IS OF BULK AT MOST 1048576: true; the input reads as it did. -/
def reedFewestUptoRow : OpenClaim := { program := "ytbbekjcldbbhiaa", sum := "8ca67d9d51c59d794daef1f49f277ef0bb195a58b6e8890df9ea6ad408cf45c5", func := "musette/musettelaw01.ReedFewest", spec := "reedFewest", unfollowed := true, recurses := true, plainKeys := false, apart := false, narrowed := true }
def ReedFewestUptoSaid : Prop := reedFewestUptoRow.holds Try.pinned (OpenSpec.upto reedFewestSpec)

end Rows
end Go.Proofs.Ytbbekjcldbbhiaa
