/-
  DERIVED. GIVEN WITH THE SEED: THE CARDS: each row of YtbbopknnoamkbaaGreatDoorRows.lean that lists a variable, with what it lists TIED to the program's text (the seventh form; the later family's looks); each row that meets fmt, with fmt's text TOLD by the authors' own Lean function (tested against real Go, not proved from fmt's source: count such statements apart). THE CARD IS WHAT COUNTS. Prove the row's statement (the work); the ties are given (YtbbopknnoamkbaaGreatDoorTie.lean); close each card by the builder's one call (the guide's Derived/Test/ToyasCard.lean, 'card_holds'). Laid BY PROGRAM, IN A SANDBOX (cutbox-door.mjs). By AI agents, Wed Nov 11 2026. No macro, syntax, notation, axiom, sorry.
-/
import Derived.Test.YtbbopknnoamkbaaGreatDoorRows
import GoSem.ClaimSeven
namespace Go.Proofs.YtbbopknnoamkbaaGreatDoor
namespace Rows

/-- THE TIED CARD OF 'notarylaw.JsonPrints'. -/
def jsonPrintsCard : Claim7 := { stood := { row := jsonPrintsRow, standIns := [], harness := (true, "f56201c4b2d5215231d2761e4a9107814429d80fc0cf0a12a8a121e665f209f2"), looks := true }, kinds := [], alts := [], laidByText := true, laidKinds := [.data, .data, .data, .data, .sentinel, .sentinel, .pinned], laidTests := true, laidLooks := .later }
def JsonPrintsCardSaid : Prop := Claim7.holds Tryz.pinned (.plain (OpenSpec.ofChange jsonPrintsSpec)) jsonPrintsCard

/-- THE TIED CARD OF 'notarylaw.JsonAgain'. -/
def jsonAgainCard : Claim7 := { stood := { row := jsonAgainRow, standIns := [], harness := (true, "f56201c4b2d5215231d2761e4a9107814429d80fc0cf0a12a8a121e665f209f2"), looks := true }, kinds := [], alts := [], laidByText := true, laidKinds := [.data, .data, .data, .data, .sentinel, .sentinel, .pinned], laidTests := true, laidLooks := .later }
def JsonAgainCardSaid : Prop := Claim7.holds Tryz.pinned (.plain (OpenSpec.ofChange jsonAgainSpec)) jsonAgainCard

/-- THE TIED CARD OF 'notarylaw.JsonWrapped'. -/
def jsonWrappedCard : Claim7 := { stood := { row := jsonWrappedRow, standIns := [], harness := (true, "f56201c4b2d5215231d2761e4a9107814429d80fc0cf0a12a8a121e665f209f2"), looks := true }, kinds := [], alts := [], laidByText := true, laidKinds := [.data, .data, .data, .data, .sentinel, .sentinel, .pinned], laidTests := true, laidLooks := .later }
def JsonWrappedCardSaid : Prop := Claim7.holds Tryz.pinned (.plain (OpenSpec.ofChange jsonWrappedSpec)) jsonWrappedCard

/-- THE TIED CARD OF 'notarylaw.JsonOrdered'. -/
def jsonOrderedCard : Claim7 := { stood := { row := jsonOrderedRow, standIns := [], harness := (true, "f56201c4b2d5215231d2761e4a9107814429d80fc0cf0a12a8a121e665f209f2"), looks := true }, kinds := [], alts := [], laidByText := true, laidKinds := [.data, .data, .data, .data, .sentinel, .sentinel, .pinned], laidTests := true, laidLooks := .later }
def JsonOrderedCardSaid : Prop := Claim7.holds Tryz.pinned (.plain (OpenSpec.ofChange jsonOrderedSpec)) jsonOrderedCard

/-- THE TIED CARD OF 'notarylaw.JsonNumbers'. -/
def jsonNumbersCard : Claim7 := { stood := { row := jsonNumbersRow, standIns := [], harness := (true, "f56201c4b2d5215231d2761e4a9107814429d80fc0cf0a12a8a121e665f209f2"), looks := true }, kinds := [], alts := [], laidByText := true, laidKinds := [.data, .data, .data, .data, .sentinel, .sentinel, .pinned], laidTests := true, laidLooks := .later }
def JsonNumbersCardSaid : Prop := Claim7.holds Tryz.pinned (.plain (OpenSpec.ofChange jsonNumbersSpec)) jsonNumbersCard

/-- THE TIED CARD OF 'notarylaw.JsonStrings'. -/
def jsonStringsCard : Claim7 := { stood := { row := jsonStringsRow, standIns := [], harness := (true, "f56201c4b2d5215231d2761e4a9107814429d80fc0cf0a12a8a121e665f209f2"), looks := true }, kinds := [], alts := [], laidByText := true, laidKinds := [.data, .data, .data, .data, .sentinel, .sentinel, .pinned], laidTests := true, laidLooks := .later }
def JsonStringsCardSaid : Prop := Claim7.holds Tryz.pinned (.plain (OpenSpec.ofChange jsonStringsSpec)) jsonStringsCard

/-- THE TIED CARD OF 'notarylaw.JsonBlanks'. -/
def jsonBlanksCard : Claim7 := { stood := { row := jsonBlanksRow, standIns := [], harness := (true, "f56201c4b2d5215231d2761e4a9107814429d80fc0cf0a12a8a121e665f209f2"), looks := true }, kinds := [], alts := [], laidByText := true, laidKinds := [.data, .data, .data, .data, .sentinel, .sentinel, .pinned], laidTests := true, laidLooks := .later }
def JsonBlanksCardSaid : Prop := Claim7.holds Tryz.pinned (.plain (OpenSpec.ofChange jsonBlanksSpec)) jsonBlanksCard

/-- THE TIED CARD OF 'notarylaw.TokenSigns'. -/
def tokenSignsCard : Claim7 := { stood := { row := tokenSignsRow, standIns := [], harness := (true, "f56201c4b2d5215231d2761e4a9107814429d80fc0cf0a12a8a121e665f209f2"), looks := true }, kinds := [], alts := [], laidByText := true, laidKinds := [.data, .data, .data, .data, .sentinel, .sentinel, .data, .pinned], laidTests := true, laidLooks := .later }
def TokenSignsCardSaid : Prop := Claim7.holds Tryz.pinned (.plain (OpenSpec.ofChange tokenSignsSpec)) tokenSignsCard

/-- THE TIED CARD OF 'notarylaw.TokenClean'. -/
def tokenCleanCard : Claim7 := { stood := { row := tokenCleanRow, standIns := [], harness := (true, "f56201c4b2d5215231d2761e4a9107814429d80fc0cf0a12a8a121e665f209f2"), looks := true }, kinds := [], alts := [], laidByText := true, laidKinds := [.data, .data, .data, .data, .sentinel, .sentinel, .data, .pinned], laidTests := true, laidLooks := .later }
def TokenCleanCardSaid : Prop := Claim7.holds Tryz.pinned (.plain (OpenSpec.ofChange tokenCleanSpec)) tokenCleanCard

/-- THE TIED CARD OF 'notarylaw.ClaimsMakes'. -/
def claimsMakesCard : Claim7 := { stood := { row := claimsMakesRow, standIns := [], harness := (true, "f56201c4b2d5215231d2761e4a9107814429d80fc0cf0a12a8a121e665f209f2"), looks := true }, kinds := [], alts := [], laidByText := true, laidKinds := [.data, .data, .data, .data, .sentinel, .sentinel, .pinned], laidTests := true, laidLooks := .later }
def ClaimsMakesCardSaid : Prop := Claim7.holds Tryz.pinned (.plain (OpenSpec.ofChange claimsMakesSpec)) claimsMakesCard

/-- THE TIED CARD OF 'notarylaw.ClaimsHold'. -/
def claimsHoldCard : Claim7 := { stood := { row := claimsHoldRow, standIns := [], harness := (true, "f56201c4b2d5215231d2761e4a9107814429d80fc0cf0a12a8a121e665f209f2"), looks := true }, kinds := [], alts := [], laidByText := true, laidKinds := [.data, .data, .data, .data, .sentinel, .sentinel, .pinned], laidTests := true, laidLooks := .later }
def ClaimsHoldCardSaid : Prop := Claim7.holds Tryz.pinned (.plain (OpenSpec.ofChange claimsHoldSpec)) claimsHoldCard

/-- THE TIED CARD OF 'notarylaw.ClaimsKept'. -/
def claimsKeptCard : Claim7 := { stood := { row := claimsKeptRow, standIns := [], harness := (true, "f56201c4b2d5215231d2761e4a9107814429d80fc0cf0a12a8a121e665f209f2"), looks := true }, kinds := [], alts := [], laidByText := true, laidKinds := [.data, .data, .data, .data, .sentinel, .sentinel, .pinned], laidTests := true, laidLooks := .later }
def ClaimsKeptCardSaid : Prop := Claim7.holds Tryz.pinned (.plain (OpenSpec.ofChange claimsKeptSpec)) claimsKeptCard

/-- THE TIED CARD OF 'notarylaw.ClaimsTwice'. -/
def claimsTwiceCard : Claim7 := { stood := { row := claimsTwiceRow, standIns := [], harness := (true, "f56201c4b2d5215231d2761e4a9107814429d80fc0cf0a12a8a121e665f209f2"), looks := true }, kinds := [], alts := [], laidByText := true, laidKinds := [.data, .data, .data, .data, .sentinel, .sentinel, .pinned], laidTests := true, laidLooks := .later }
def ClaimsTwiceCardSaid : Prop := Claim7.holds Tryz.pinned (.plain (OpenSpec.ofChange claimsTwiceSpec)) claimsTwiceCard

/-- THE SECOND FORM's CARD OF 'notarylaw.JsonPrints'. -/
def jsonPrintsUptoCard : Claim7 := { stood := { row := jsonPrintsUptoRow, standIns := [], harness := (true, "f56201c4b2d5215231d2761e4a9107814429d80fc0cf0a12a8a121e665f209f2"), looks := true }, kinds := [], alts := [], laidByText := true, laidKinds := [.data, .data, .data, .data, .sentinel, .sentinel, .pinned], laidTests := true, laidLooks := .later }
def JsonPrintsUptoCardSaid : Prop := Claim7.holds Tryz.pinned (.plain (OpenSpec.upto jsonPrintsSpec)) jsonPrintsUptoCard

/-- THE SECOND FORM's CARD OF 'notarylaw.JsonAgain'. -/
def jsonAgainUptoCard : Claim7 := { stood := { row := jsonAgainUptoRow, standIns := [], harness := (true, "f56201c4b2d5215231d2761e4a9107814429d80fc0cf0a12a8a121e665f209f2"), looks := true }, kinds := [], alts := [], laidByText := true, laidKinds := [.data, .data, .data, .data, .sentinel, .sentinel, .pinned], laidTests := true, laidLooks := .later }
def JsonAgainUptoCardSaid : Prop := Claim7.holds Tryz.pinned (.plain (OpenSpec.upto jsonAgainSpec)) jsonAgainUptoCard

/-- THE SECOND FORM's CARD OF 'notarylaw.JsonWrapped'. -/
def jsonWrappedUptoCard : Claim7 := { stood := { row := jsonWrappedUptoRow, standIns := [], harness := (true, "f56201c4b2d5215231d2761e4a9107814429d80fc0cf0a12a8a121e665f209f2"), looks := true }, kinds := [], alts := [], laidByText := true, laidKinds := [.data, .data, .data, .data, .sentinel, .sentinel, .pinned], laidTests := true, laidLooks := .later }
def JsonWrappedUptoCardSaid : Prop := Claim7.holds Tryz.pinned (.plain (OpenSpec.upto jsonWrappedSpec)) jsonWrappedUptoCard

/-- THE SECOND FORM's CARD OF 'notarylaw.JsonOrdered'. -/
def jsonOrderedUptoCard : Claim7 := { stood := { row := jsonOrderedUptoRow, standIns := [], harness := (true, "f56201c4b2d5215231d2761e4a9107814429d80fc0cf0a12a8a121e665f209f2"), looks := true }, kinds := [], alts := [], laidByText := true, laidKinds := [.data, .data, .data, .data, .sentinel, .sentinel, .pinned], laidTests := true, laidLooks := .later }
def JsonOrderedUptoCardSaid : Prop := Claim7.holds Tryz.pinned (.plain (OpenSpec.upto jsonOrderedSpec)) jsonOrderedUptoCard

/-- THE SECOND FORM's CARD OF 'notarylaw.JsonNumbers'. -/
def jsonNumbersUptoCard : Claim7 := { stood := { row := jsonNumbersUptoRow, standIns := [], harness := (true, "f56201c4b2d5215231d2761e4a9107814429d80fc0cf0a12a8a121e665f209f2"), looks := true }, kinds := [], alts := [], laidByText := true, laidKinds := [.data, .data, .data, .data, .sentinel, .sentinel, .pinned], laidTests := true, laidLooks := .later }
def JsonNumbersUptoCardSaid : Prop := Claim7.holds Tryz.pinned (.plain (OpenSpec.upto jsonNumbersSpec)) jsonNumbersUptoCard

/-- THE SECOND FORM's CARD OF 'notarylaw.JsonStrings'. -/
def jsonStringsUptoCard : Claim7 := { stood := { row := jsonStringsUptoRow, standIns := [], harness := (true, "f56201c4b2d5215231d2761e4a9107814429d80fc0cf0a12a8a121e665f209f2"), looks := true }, kinds := [], alts := [], laidByText := true, laidKinds := [.data, .data, .data, .data, .sentinel, .sentinel, .pinned], laidTests := true, laidLooks := .later }
def JsonStringsUptoCardSaid : Prop := Claim7.holds Tryz.pinned (.plain (OpenSpec.upto jsonStringsSpec)) jsonStringsUptoCard

/-- THE SECOND FORM's CARD OF 'notarylaw.JsonBlanks'. -/
def jsonBlanksUptoCard : Claim7 := { stood := { row := jsonBlanksUptoRow, standIns := [], harness := (true, "f56201c4b2d5215231d2761e4a9107814429d80fc0cf0a12a8a121e665f209f2"), looks := true }, kinds := [], alts := [], laidByText := true, laidKinds := [.data, .data, .data, .data, .sentinel, .sentinel, .pinned], laidTests := true, laidLooks := .later }
def JsonBlanksUptoCardSaid : Prop := Claim7.holds Tryz.pinned (.plain (OpenSpec.upto jsonBlanksSpec)) jsonBlanksUptoCard

/-- THE SECOND FORM's CARD OF 'notarylaw.TokenSigns'. -/
def tokenSignsUptoCard : Claim7 := { stood := { row := tokenSignsUptoRow, standIns := [], harness := (true, "f56201c4b2d5215231d2761e4a9107814429d80fc0cf0a12a8a121e665f209f2"), looks := true }, kinds := [], alts := [], laidByText := true, laidKinds := [.data, .data, .data, .data, .sentinel, .sentinel, .data, .pinned], laidTests := true, laidLooks := .later }
def TokenSignsUptoCardSaid : Prop := Claim7.holds Tryz.pinned (.plain (OpenSpec.upto tokenSignsSpec)) tokenSignsUptoCard

/-- THE SECOND FORM's CARD OF 'notarylaw.TokenClean'. -/
def tokenCleanUptoCard : Claim7 := { stood := { row := tokenCleanUptoRow, standIns := [], harness := (true, "f56201c4b2d5215231d2761e4a9107814429d80fc0cf0a12a8a121e665f209f2"), looks := true }, kinds := [], alts := [], laidByText := true, laidKinds := [.data, .data, .data, .data, .sentinel, .sentinel, .data, .pinned], laidTests := true, laidLooks := .later }
def TokenCleanUptoCardSaid : Prop := Claim7.holds Tryz.pinned (.plain (OpenSpec.upto tokenCleanSpec)) tokenCleanUptoCard

/-- THE SECOND FORM's CARD OF 'notarylaw.ClaimsMakes'. -/
def claimsMakesUptoCard : Claim7 := { stood := { row := claimsMakesUptoRow, standIns := [], harness := (true, "f56201c4b2d5215231d2761e4a9107814429d80fc0cf0a12a8a121e665f209f2"), looks := true }, kinds := [], alts := [], laidByText := true, laidKinds := [.data, .data, .data, .data, .sentinel, .sentinel, .pinned], laidTests := true, laidLooks := .later }
def ClaimsMakesUptoCardSaid : Prop := Claim7.holds Tryz.pinned (.plain (OpenSpec.upto claimsMakesSpec)) claimsMakesUptoCard

/-- THE SECOND FORM's CARD OF 'notarylaw.ClaimsHold'. -/
def claimsHoldUptoCard : Claim7 := { stood := { row := claimsHoldUptoRow, standIns := [], harness := (true, "f56201c4b2d5215231d2761e4a9107814429d80fc0cf0a12a8a121e665f209f2"), looks := true }, kinds := [], alts := [], laidByText := true, laidKinds := [.data, .data, .data, .data, .sentinel, .sentinel, .pinned], laidTests := true, laidLooks := .later }
def ClaimsHoldUptoCardSaid : Prop := Claim7.holds Tryz.pinned (.plain (OpenSpec.upto claimsHoldSpec)) claimsHoldUptoCard

/-- THE SECOND FORM's CARD OF 'notarylaw.ClaimsKept'. -/
def claimsKeptUptoCard : Claim7 := { stood := { row := claimsKeptUptoRow, standIns := [], harness := (true, "f56201c4b2d5215231d2761e4a9107814429d80fc0cf0a12a8a121e665f209f2"), looks := true }, kinds := [], alts := [], laidByText := true, laidKinds := [.data, .data, .data, .data, .sentinel, .sentinel, .pinned], laidTests := true, laidLooks := .later }
def ClaimsKeptUptoCardSaid : Prop := Claim7.holds Tryz.pinned (.plain (OpenSpec.upto claimsKeptSpec)) claimsKeptUptoCard

/-- THE SECOND FORM's CARD OF 'notarylaw.ClaimsTwice'. -/
def claimsTwiceUptoCard : Claim7 := { stood := { row := claimsTwiceUptoRow, standIns := [], harness := (true, "f56201c4b2d5215231d2761e4a9107814429d80fc0cf0a12a8a121e665f209f2"), looks := true }, kinds := [], alts := [], laidByText := true, laidKinds := [.data, .data, .data, .data, .sentinel, .sentinel, .pinned], laidTests := true, laidLooks := .later }
def ClaimsTwiceUptoCardSaid : Prop := Claim7.holds Tryz.pinned (.plain (OpenSpec.upto claimsTwiceSpec)) claimsTwiceUptoCard
end Rows
end Go.Proofs.YtbbopknnoamkbaaGreatDoor
