/-
  DERIVED. GIVEN WITH THE SEED: THE CARDS: each row of YtkjgachpmebipaiGreatDoorRows.lean that lists a variable, with what it lists TIED to the program's text (the seventh form; the later family's looks); each row that meets fmt, with fmt's text TOLD by the authors' own Lean function (tested against real Go, not proved from fmt's source: count such statements apart). THE CARD IS WHAT COUNTS. Prove the row's statement (the work); the ties are given (YtkjgachpmebipaiGreatDoorTie.lean); close each card by the builder's one call (the guide's Derived/Test/ToyasCard.lean, 'card_holds'). Laid BY PROGRAM, IN A SANDBOX (cutbox-door.mjs). By AI agents, Wed Nov 11 2026. No macro, syntax, notation, axiom, sorry.
-/
import Derived.Test.YtkjgachpmebipaiGreatDoorRows
import GoSem.ClaimSeven
namespace Go.Proofs.YtkjgachpmebipaiGreatDoor
namespace Rows

/-- THE TIED CARD OF 'musettelaw10.PlateKnown'. -/
def plateKnownCard : Claim7 := { stood := { row := plateKnownRow, standIns := [], harness := (true, "f338e9b505a3efbc7a2b37970aad133a065845b3571038e469bbd08e6a1eb77a"), looks := false }, kinds := [], alts := [], laidByText := true, laidKinds := [.data, .data, .data], laidTests := true, laidLooks := .later }
def PlateKnownCardSaid : Prop := Claim7.holds Tryz.pinned (.plain (OpenSpec.ofChange plateKnownSpec)) plateKnownCard

/-- THE SECOND FORM's CARD OF 'musettelaw10.PlateKnown'. -/
def plateKnownUptoCard : Claim7 := { stood := { row := plateKnownUptoRow, standIns := [], harness := (true, "f338e9b505a3efbc7a2b37970aad133a065845b3571038e469bbd08e6a1eb77a"), looks := false }, kinds := [], alts := [], laidByText := true, laidKinds := [.data, .data, .data], laidTests := true, laidLooks := .later }
def PlateKnownUptoCardSaid : Prop := Claim7.holds Tryz.pinned (.plain (OpenSpec.upto plateKnownSpec)) plateKnownUptoCard
end Rows
end Go.Proofs.YtkjgachpmebipaiGreatDoor
