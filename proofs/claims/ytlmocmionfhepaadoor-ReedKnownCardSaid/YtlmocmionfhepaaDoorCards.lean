/-
  DERIVED. GIVEN WITH THE SEED: THE CARDS: each row of YtlmocmionfhepaaDoorRows.lean that lists a variable, with what it lists TIED to the program's text (the seventh form; the later family's looks); each row that meets fmt, with fmt's text TOLD by the authors' own Lean function (tested against real Go, not proved from fmt's source: count such statements apart). THE CARD IS WHAT COUNTS. Prove the row's statement (the work); the ties are given (YtlmocmionfhepaaDoorTie.lean); close each card by the builder's one call (the guide's Derived/Test/ToyasCard.lean, 'card_holds'). Laid BY PROGRAM, IN A SANDBOX (cutbox-door.mjs). By AI agents, Wed Nov 11 2026. No macro, syntax, notation, axiom, sorry.
-/
import Derived.Test.YtlmocmionfhepaaDoorRows
import GoSem.ClaimSeven
namespace Go.Proofs.YtlmocmionfhepaaDoor
namespace Rows

/-- THE TIED CARD OF 'musettelaw01.ReedKnown'. -/
def reedKnownCard : Claim7 := { stood := { row := reedKnownRow, standIns := [], harness := (true, "8e9fd8aa83b3715febc50371ccdfe43151deec5abd34153acfa77b9ab3370d4d"), looks := false }, kinds := [], alts := [], laidByText := true, laidKinds := [.data, .data, .data], laidTests := true, laidLooks := .later }
def ReedKnownCardSaid : Prop := Claim7.holds Tryd.pinned (.plain (OpenSpec.ofChange reedKnownSpec)) reedKnownCard

/-- THE SECOND FORM's CARD OF 'musettelaw01.ReedKnown'. -/
def reedKnownUptoCard : Claim7 := { stood := { row := reedKnownUptoRow, standIns := [], harness := (true, "8e9fd8aa83b3715febc50371ccdfe43151deec5abd34153acfa77b9ab3370d4d"), looks := false }, kinds := [], alts := [], laidByText := true, laidKinds := [.data, .data, .data], laidTests := true, laidLooks := .later }
def ReedKnownUptoCardSaid : Prop := Claim7.holds Tryd.pinned (.plain (OpenSpec.upto reedKnownSpec)) reedKnownUptoCard
end Rows
end Go.Proofs.YtlmocmionfhepaaDoor
