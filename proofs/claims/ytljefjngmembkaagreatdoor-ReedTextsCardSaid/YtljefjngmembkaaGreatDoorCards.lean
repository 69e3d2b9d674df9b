/-
  DERIVED. GIVEN WITH THE SEED: THE CARDS: each row of YtljefjngmembkaaGreatDoorRows.lean that lists a variable, with what it lists TIED to the program's text (the seventh form; the later family's looks); each row that meets fmt, with fmt's text TOLD by the authors' own Lean function (tested against real Go, not proved from fmt's source: count such statements apart). THE CARD IS WHAT COUNTS. Prove the row's statement (the work); the ties are given (YtljefjngmembkaaGreatDoorTie.lean); close each card by the builder's one call (the guide's Derived/Test/ToyasCard.lean, 'card_holds'). Laid BY PROGRAM, IN A SANDBOX (cutbox-door.mjs). By AI agents, Wed Nov 11 2026. No macro, syntax, notation, axiom, sorry.
-/
import Derived.Test.YtljefjngmembkaaGreatDoorRows
import GoSem.ClaimSeven
namespace Go.Proofs.YtljefjngmembkaaGreatDoor
namespace Rows

/-- THE TIED CARD OF 'musettelaw01.ReedTexts'. -/
def reedTextsCard : Claim7 := { stood := { row := reedTextsRow, standIns := [], harness := (true, "628bc7f4a9fada29a1e5d7837a5c2b6afdcc7fc1ef1ea15f85e916735c11e783"), looks := true }, kinds := [], alts := [], laidByText := true, laidKinds := [.data, .data, .data, .data, .sentinel, .sentinel, .pinned], laidTests := true, laidLooks := .later }
def ReedTextsCardSaid : Prop := Claim7.holds Tryz.pinned (.plain (OpenSpec.ofChange reedTextsSpec)) reedTextsCard

/-- THE TIED CARD OF 'musettelaw01.ReedRead'. -/
def reedReadCard : Claim7 := { stood := { row := reedReadRow, standIns := [], harness := (true, "628bc7f4a9fada29a1e5d7837a5c2b6afdcc7fc1ef1ea15f85e916735c11e783"), looks := true }, kinds := [], alts := [], laidByText := true, laidKinds := [.data, .data, .data, .data, .sentinel, .sentinel, .pinned], laidTests := true, laidLooks := .later }
def ReedReadCardSaid : Prop := Claim7.holds Tryz.pinned (.plain (OpenSpec.ofChange reedReadSpec)) reedReadCard

/-- THE SECOND FORM's CARD OF 'musettelaw01.ReedTexts'. -/
def reedTextsUptoCard : Claim7 := { stood := { row := reedTextsUptoRow, standIns := [], harness := (true, "628bc7f4a9fada29a1e5d7837a5c2b6afdcc7fc1ef1ea15f85e916735c11e783"), looks := true }, kinds := [], alts := [], laidByText := true, laidKinds := [.data, .data, .data, .data, .sentinel, .sentinel, .pinned], laidTests := true, laidLooks := .later }
def ReedTextsUptoCardSaid : Prop := Claim7.holds Tryz.pinned (.plain (OpenSpec.upto reedTextsSpec)) reedTextsUptoCard

/-- THE SECOND FORM's CARD OF 'musettelaw01.ReedRead'. -/
def reedReadUptoCard : Claim7 := { stood := { row := reedReadUptoRow, standIns := [], harness := (true, "628bc7f4a9fada29a1e5d7837a5c2b6afdcc7fc1ef1ea15f85e916735c11e783"), looks := true }, kinds := [], alts := [], laidByText := true, laidKinds := [.data, .data, .data, .data, .sentinel, .sentinel, .pinned], laidTests := true, laidLooks := .later }
def ReedReadUptoCardSaid : Prop := Claim7.holds Tryz.pinned (.plain (OpenSpec.upto reedReadSpec)) reedReadUptoCard
end Rows
end Go.Proofs.YtljefjngmembkaaGreatDoor
