/-
  DERIVED. GIVEN WITH THE SEED: THE CARDS: each row of YtoijppmkkhgkdacGreatDoorRows.lean that lists a variable, with what it lists TIED to the program's text (the seventh form; the later family's looks); each row that meets fmt, with fmt's text TOLD by the authors' own Lean function (tested against real Go, not proved from fmt's source: count such statements apart). THE CARD IS WHAT COUNTS. Prove the row's statement (the work); the ties are given (YtoijppmkkhgkdacGreatDoorTie.lean); close each card by the builder's one call (the guide's Derived/Test/ToyasCard.lean, 'card_holds'). Laid BY PROGRAM, IN A SANDBOX (cutbox-door.mjs). By AI agents, Wed Nov 11 2026. No macro, syntax, notation, axiom, sorry.
-/
import Derived.Test.YtoijppmkkhgkdacGreatDoorRows
import GoSem.ClaimSeven
namespace Go.Proofs.YtoijppmkkhgkdacGreatDoor
namespace Rows

/-- THE TIED CARD OF 'notarylaw.JsonWrapped'. -/
def jsonWrappedCard : Claim7 := { stood := { row := jsonWrappedRow, standIns := [], harness := (true, "a5cfe640e382da9a7393e9185005e6fec263f93d0e6e01dff4016c434cb9faf5"), looks := true }, kinds := [], alts := [], laidByText := true, laidKinds := [.data, .data, .data, .data, .sentinel, .sentinel, .pinned], laidTests := true, laidLooks := .later }
def JsonWrappedCardSaid : Prop := Claim7.holds Tryz.pinned (.plain (OpenSpec.ofChange jsonWrappedSpec)) jsonWrappedCard

/-- THE TIED CARD OF 'notarylaw.JsonOrdered'. -/
def jsonOrderedCard : Claim7 := { stood := { row := jsonOrderedRow, standIns := [], harness := (true, "a5cfe640e382da9a7393e9185005e6fec263f93d0e6e01dff4016c434cb9faf5"), looks := true }, kinds := [], alts := [], laidByText := true, laidKinds := [.data, .data, .data, .data, .sentinel, .sentinel, .pinned], laidTests := true, laidLooks := .later }
def JsonOrderedCardSaid : Prop := Claim7.holds Tryz.pinned (.plain (OpenSpec.ofChange jsonOrderedSpec)) jsonOrderedCard

/-- THE TIED CARD OF 'notarylaw.JsonNumbers'. -/
def jsonNumbersCard : Claim7 := { stood := { row := jsonNumbersRow, standIns := [], harness := (true, "a5cfe640e382da9a7393e9185005e6fec263f93d0e6e01dff4016c434cb9faf5"), looks := true }, kinds := [], alts := [], laidByText := true, laidKinds := [.data, .data, .data, .data, .sentinel, .sentinel, .pinned], laidTests := true, laidLooks := .later }
def JsonNumbersCardSaid : Prop := Claim7.holds Tryz.pinned (.plain (OpenSpec.ofChange jsonNumbersSpec)) jsonNumbersCard

/-- THE TIED CARD OF 'notarylaw.JsonStrings'. -/
def jsonStringsCard : Claim7 := { stood := { row := jsonStringsRow, standIns := [], harness := (true, "a5cfe640e382da9a7393e9185005e6fec263f93d0e6e01dff4016c434cb9faf5"), looks := true }, kinds := [], alts := [], laidByText := true, laidKinds := [.data, .data, .data, .data, .sentinel, .sentinel, .pinned], laidTests := true, laidLooks := .later }
def JsonStringsCardSaid : Prop := Claim7.holds Tryz.pinned (.plain (OpenSpec.ofChange jsonStringsSpec)) jsonStringsCard

/-- THE TIED CARD OF 'notarylaw.JsonBlanks'. -/
def jsonBlanksCard : Claim7 := { stood := { row := jsonBlanksRow, standIns := [], harness := (true, "a5cfe640e382da9a7393e9185005e6fec263f93d0e6e01dff4016c434cb9faf5"), looks := true }, kinds := [], alts := [], laidByText := true, laidKinds := [.data, .data, .data, .data, .sentinel, .sentinel, .pinned], laidTests := true, laidLooks := .later }
def JsonBlanksCardSaid : Prop := Claim7.holds Tryz.pinned (.plain (OpenSpec.ofChange jsonBlanksSpec)) jsonBlanksCard

/-- THE SECOND FORM's CARD OF 'notarylaw.JsonWrapped'. -/
def jsonWrappedUptoCard : Claim7 := { stood := { row := jsonWrappedUptoRow, standIns := [], harness := (true, "a5cfe640e382da9a7393e9185005e6fec263f93d0e6e01dff4016c434cb9faf5"), looks := true }, kinds := [], alts := [], laidByText := true, laidKinds := [.data, .data, .data, .data, .sentinel, .sentinel, .pinned], laidTests := true, laidLooks := .later }
def JsonWrappedUptoCardSaid : Prop := Claim7.holds Tryz.pinned (.plain (OpenSpec.upto jsonWrappedSpec)) jsonWrappedUptoCard

/-- THE SECOND FORM's CARD OF 'notarylaw.JsonOrdered'. -/
def jsonOrderedUptoCard : Claim7 := { stood := { row := jsonOrderedUptoRow, standIns := [], harness := (true, "a5cfe640e382da9a7393e9185005e6fec263f93d0e6e01dff4016c434cb9faf5"), looks := true }, kinds := [], alts := [], laidByText := true, laidKinds := [.data, .data, .data, .data, .sentinel, .sentinel, .pinned], laidTests := true, laidLooks := .later }
def JsonOrderedUptoCardSaid : Prop := Claim7.holds Tryz.pinned (.plain (OpenSpec.upto jsonOrderedSpec)) jsonOrderedUptoCard

/-- THE SECOND FORM's CARD OF 'notarylaw.JsonNumbers'. -/
def jsonNumbersUptoCard : Claim7 := { stood := { row := jsonNumbersUptoRow, standIns := [], harness := (true, "a5cfe640e382da9a7393e9185005e6fec263f93d0e6e01dff4016c434cb9faf5"), looks := true }, kinds := [], alts := [], laidByText := true, laidKinds := [.data, .data, .data, .data, .sentinel, .sentinel, .pinned], laidTests := true, laidLooks := .later }
def JsonNumbersUptoCardSaid : Prop := Claim7.holds Tryz.pinned (.plain (OpenSpec.upto jsonNumbersSpec)) jsonNumbersUptoCard

/-- THE SECOND FORM's CARD OF 'notarylaw.JsonStrings'. -/
def jsonStringsUptoCard : Claim7 := { stood := { row := jsonStringsUptoRow, standIns := [], harness := (true, "a5cfe640e382da9a7393e9185005e6fec263f93d0e6e01dff4016c434cb9faf5"), looks := true }, kinds := [], alts := [], laidByText := true, laidKinds := [.data, .data, .data, .data, .sentinel, .sentinel, .pinned], laidTests := true, laidLooks := .later }
def JsonStringsUptoCardSaid : Prop := Claim7.holds Tryz.pinned (.plain (OpenSpec.upto jsonStringsSpec)) jsonStringsUptoCard

/-- THE SECOND FORM's CARD OF 'notarylaw.JsonBlanks'. -/
def jsonBlanksUptoCard : Claim7 := { stood := { row := jsonBlanksUptoRow, standIns := [], harness := (true, "a5cfe640e382da9a7393e9185005e6fec263f93d0e6e01dff4016c434cb9faf5"), looks := true }, kinds := [], alts := [], laidByText := true, laidKinds := [.data, .data, .data, .data, .sentinel, .sentinel, .pinned], laidTests := true, laidLooks := .later }
def JsonBlanksUptoCardSaid : Prop := Claim7.holds Tryz.pinned (.plain (OpenSpec.upto jsonBlanksSpec)) jsonBlanksUptoCard
end Rows
end Go.Proofs.YtoijppmkkhgkdacGreatDoor
