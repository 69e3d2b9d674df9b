/-
  No cell of these rows narrows 'for every input' (looked for: loops, veiled, ifaces, maps, wideKeys, modest, calm, conditions, laid).
  DERIVED. THE GIVEN ROWS OF THIS SEAT. 4 by the template 'for every input the law returns true; each argument reads behind the call as it read before'; 0 by the template 'total and deterministic' (their statements: YtolabejbhaeddaaTotals.lean).
  GIVEN WITH THE SEED: the statements are not yours to turn. If you find one false, say at which input.
  Laid BY PROGRAM, IN A SANDBOX (cutbox-rows.mjs): the forced cells as the released guide's own fill.sh prints them over the translation 3645332d5463d475… (all of the seat's roots in one cut). By AI agents, Wed Nov 11 2026. No macro, syntax, notation, axiom, sorry.
-/
import Derived.Test.YtolabejbhaeddaaChecked
import GoSem.Claim
import GoSem.ClaimJoined
import GoSem.ClaimMapViews
import Derived.JoinedTies
import Derived.KernelRfl
namespace Go.Proofs.Ytolabejbhaeddaa
/- THE CELL 'sum', in the pinned program and in every row, IS THE sha256 OF THE DUMP (.gsa) THAT YtolabejbhaeddaaProg.lean LOADS. Nothing in Lean hashes anything: it is a label: what it is worth is what the hold of that sum in a sandbox is worth. -/
noncomputable def Try.pinned : Pinned := { name := "ytolabejbhaeddaa", sum := "3645332d5463d475736fa7df7deca201b97ad0aa5ee9737fb7f8d84922a79c6d", checked := Try.checked }
namespace Rows
def none {H : Type} : Left H := { results := [], args := [] }

/-- 'musettelaw01.ReedGames': WHATEVER THE INPUT: true; the input reads as it did. -/
def reedGamesSpec : ChangeSpec := { name := "reedGames", fn := fun _ => fun
  | [d1, d2] => { results := [.lit (.bool true)], args := [d1, d2] }
  | _ => none }
def reedGamesRow : OpenClaim := { program := "ytolabejbhaeddaa", sum := "3645332d5463d475736fa7df7deca201b97ad0aa5ee9737fb7f8d84922a79c6d", func := "musette/musettelaw01.ReedGames", spec := "reedGames", unfollowed := true, recurses := true, plainKeys := false, apart := false }
def ReedGamesSaid : Prop := reedGamesRow.holds Try.pinned (OpenSpec.ofChange reedGamesSpec)

/-- ITS FALSE NEIGHBOUR: 'it returns false'. Refute it at one input. -/
def reedGamesWrong : ChangeSpec := { name := "reedGames", fn := fun _ => fun
  | [d1, d2] => { results := [.lit (.bool false)], args := [d1, d2] }
  | _ => none }
def ReedGamesWrongFalsely : Prop := reedGamesRow.holds Try.pinned (OpenSpec.ofChange reedGamesWrong)

/-- 'musettelaw01.ReedBlanks': WHATEVER THE INPUT: true; the input reads as it did. -/
def reedBlanksSpec : ChangeSpec := { name := "reedBlanks", fn := fun _ => fun
  | [d1, d2, d3, d4] => { results := [.lit (.bool true)], args := [d1, d2, d3, d4] }
  | _ => none }
def reedBlanksRow : OpenClaim := { program := "ytolabejbhaeddaa", sum := "3645332d5463d475736fa7df7deca201b97ad0aa5ee9737fb7f8d84922a79c6d", func := "musette/musettelaw01.ReedBlanks", spec := "reedBlanks", unfollowed := true, recurses := true, plainKeys := false, apart := false }
def ReedBlanksSaid : Prop := reedBlanksRow.holds Try.pinned (OpenSpec.ofChange reedBlanksSpec)

/-- ITS FALSE NEIGHBOUR: 'it returns false'. Refute it at one input. -/
def reedBlanksWrong : ChangeSpec := { name := "reedBlanks", fn := fun _ => fun
  | [d1, d2, d3, d4] => { results := [.lit (.bool false)], args := [d1, d2, d3, d4] }
  | _ => none }
def ReedBlanksWrongFalsely : Prop := reedBlanksRow.holds Try.pinned (OpenSpec.ofChange reedBlanksWrong)

/-- 'musettelaw01.ReedAll': WHATEVER THE INPUT: true; the input reads as it did. -/
def reedAllSpec : ChangeSpec := { name := "reedAll", fn := fun _ => fun
  | [d] => { results := [.lit (.bool true)], args := [d] }
  | _ => none }
def reedAllRow : OpenClaim := { program := "ytolabejbhaeddaa", sum := "3645332d5463d475736fa7df7deca201b97ad0aa5ee9737fb7f8d84922a79c6d", func := "musette/musettelaw01.ReedAll", spec := "reedAll", unfollowed := true, recurses := true, plainKeys := false, apart := false }
def ReedAllSaid : Prop := reedAllRow.holds Try.pinned (OpenSpec.ofChange reedAllSpec)

/-- ITS FALSE NEIGHBOUR: 'it returns false'. Refute it at one input. -/
def reedAllWrong : ChangeSpec := { name := "reedAll", fn := fun _ => fun
  | [d] => { results := [.lit (.bool false)], args := [d] }
  | _ => none }
def ReedAllWrongFalsely : Prop := reedAllRow.holds Try.pinned (OpenSpec.ofChange reedAllWrong)

/-- 'musettelaw01.ReedGame': WHATEVER THE INPUT: true; the input reads as it did. -/
def reedGameSpec : ChangeSpec := { name := "reedGame", fn := fun _ => fun
  | [d] => { results := [.lit (.bool true)], args := [d] }
  | _ => none }
def reedGameRow : OpenClaim := { program := "ytolabejbhaeddaa", sum := "3645332d5463d475736fa7df7deca201b97ad0aa5ee9737fb7f8d84922a79c6d", func := "musette/musettelaw01.ReedGame", spec := "reedGame", unfollowed := true, recurses := true, plainKeys := false, apart := false }
def ReedGameSaid : Prop := reedGameRow.holds Try.pinned (OpenSpec.ofChange reedGameSpec)

/-- ITS FALSE NEIGHBOUR: 'it returns false'. Refute it at one input. -/
def reedGameWrong : ChangeSpec := { name := "reedGame", fn := fun _ => fun
  | [d] => { results := [.lit (.bool false)], args := [d] }
  | _ => none }
def ReedGameWrongFalsely : Prop := reedGameRow.holds Try.pinned (OpenSpec.ofChange reedGameWrong)

/- THE SECOND FORM. 'bulk': how many values and letters a reading holds, each counted each time it is reached (what is shared counts as often as it is met; a slice's spare places count too). A statement '..UptoSaid' is the law's where the arguments, and the package variables that the reading takes, are together of bulk at most 1048576: NARROWER than '..Said'. Prove '..Said' where nothing that the law and all that it calls make is longer than what came in: it says more and counts as full. Else prove '..UptoSaid'. A law counts once. -/
mutual
def uptoBulk {H : Type} : DataW H → Nat
  | .lit (.string bytes) => bytes.length + 1
  | .lit _ => 1
  | .nil => 1
  | .ptr d => uptoBulk d + 1
  | .slice elems spare => uptoBulkAll elems + uptoBulkAll spare + 1
  | .agg parts => uptoBulkAll parts + 1
  | .iface _ d => uptoBulk d + 1
  | .map entries => uptoBulkEntries entries + 1
  | .held _ => 1
def uptoBulkAll {H : Type} : List (DataW H) → Nat
  | [] => 0
  | d :: r => uptoBulk d + uptoBulkAll r
def uptoBulkEntries {H : Type} : List (Lit × DataW H) → Nat
  | [] => 0
  | x :: r => uptoBulkEntry x + uptoBulkEntries r
def uptoBulkEntry {H : Type} : Lit × DataW H → Nat
  | (.string bytes, d) => bytes.length + uptoBulk d + 1
  | (_, d) => uptoBulk d + 1
 end
def uptoSmall : (H : Type) → List (DataW H) → Bool := fun _ ds => decide (uptoBulkAll ds ≤ 1048576)
def OpenSpec.upto (s : _root_.Go.ChangeSpec) : _root_.Go.OpenSpec := { _root_.Go.OpenSpec.ofChange s with cond := some uptoSmall }

/-- 'musettelaw01.ReedGames', WHERE WHAT IT READS IS OF BULK AT MOST 1048576: true; the input reads as it did. -/
def reedGamesUptoRow : OpenClaim := { program := "ytolabejbhaeddaa", sum := "3645332d5463d475736fa7df7deca201b97ad0aa5ee9737fb7f8d84922a79c6d", func := "musette/musettelaw01.ReedGames", spec := "reedGames", unfollowed := true, recurses := true, plainKeys := false, apart := false, narrowed := true }
def ReedGamesUptoSaid : Prop := reedGamesUptoRow.holds Try.pinned (OpenSpec.upto reedGamesSpec)

/-- 'musettelaw01.ReedBlanks', WHERE WHAT IT READS IS OF BULK AT MOST 1048576: true; the input reads as it did. -/
def reedBlanksUptoRow : OpenClaim := { program := "ytolabejbhaeddaa", sum := "3645332d5463d475736fa7df7deca201b97ad0aa5ee9737fb7f8d84922a79c6d", func := "musette/musettelaw01.ReedBlanks", spec := "reedBlanks", unfollowed := true, recurses := true, plainKeys := false, apart := false, narrowed := true }
def ReedBlanksUptoSaid : Prop := reedBlanksUptoRow.holds Try.pinned (OpenSpec.upto reedBlanksSpec)

/-- 'musettelaw01.ReedAll', WHERE WHAT IT READS IS OF BULK AT MOST 1048576: true; the input reads as it did. -/
def reedAllUptoRow : OpenClaim := { program := "ytolabejbhaeddaa", sum := "3645332d5463d475736fa7df7deca201b97ad0aa5ee9737fb7f8d84922a79c6d", func := "musette/musettelaw01.ReedAll", spec := "reedAll", unfollowed := true, recurses := true, plainKeys := false, apart := false, narrowed := true }
def ReedAllUptoSaid : Prop := reedAllUptoRow.holds Try.pinned (OpenSpec.upto reedAllSpec)

/-- 'musettelaw01.ReedGame', WHERE WHAT IT READS IS OF BULK AT MOST 1048576: true; the input reads as it did. -/
def reedGameUptoRow : OpenClaim := { program := "ytolabejbhaeddaa", sum := "3645332d5463d475736fa7df7deca201b97ad0aa5ee9737fb7f8d84922a79c6d", func := "musette/musettelaw01.ReedGame", spec := "reedGame", unfollowed := true, recurses := true, plainKeys := false, apart := false, narrowed := true }
def ReedGameUptoSaid : Prop := reedGameUptoRow.holds Try.pinned (OpenSpec.upto reedGameSpec)

end Rows
end Go.Proofs.Ytolabejbhaeddaa
