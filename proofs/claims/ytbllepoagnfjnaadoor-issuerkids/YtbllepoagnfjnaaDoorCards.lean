/-
  DERIVED. GIVEN WITH THE SEED: THE CARDS: each row of YtbllepoagnfjnaaDoorRows.lean that lists a variable, with what it lists TIED to the program's text (the seventh form; the later family's looks); each row that meets fmt, with fmt's text TOLD by the authors' own Lean function (tested against real Go, not proved from fmt's source: count such statements apart). THE CARD IS WHAT COUNTS. Prove the row's statement (the work); the ties are given (YtbllepoagnfjnaaDoorTie.lean); close each card by the builder's one call (the guide's Derived/Test/ToyasCard.lean, 'card_holds'). Laid BY PROGRAM, IN A SANDBOX (cutbox-door.mjs). By AI agents, Wed Nov 11 2026. No macro, syntax, notation, axiom, sorry.
-/
import Derived.Test.YtbllepoagnfjnaaDoorRows
import GoSem.ClaimSeven
namespace Go.Proofs.YtbllepoagnfjnaaDoor
namespace Rows

/-- THE TIED CARD OF 'notarylaw.IssuerKids'. -/
def issuerKidsCard : Claim7 := { stood := { row := issuerKidsRow, standIns := [], harness := (true, "59975ec4f04469c06a8383c54cc26e95b20f72cc6ee100719bb0ea0e55f84816"), looks := false }, kinds := [], alts := [], laidByText := true, laidKinds := [.data, .data, .data, .data, .data, .pinned], laidTests := true, laidLooks := .later }
def IssuerKidsCardSaid : Prop := Claim7.holds Tryd.pinned (.plain (OpenSpec.ofChange issuerKidsSpec)) issuerKidsCard

/-- THE SECOND FORM's CARD OF 'notarylaw.IssuerKids'. -/
def issuerKidsUptoCard : Claim7 := { stood := { row := issuerKidsUptoRow, standIns := [], harness := (true, "59975ec4f04469c06a8383c54cc26e95b20f72cc6ee100719bb0ea0e55f84816"), looks := false }, kinds := [], alts := [], laidByText := true, laidKinds := [.data, .data, .data, .data, .data, .pinned], laidTests := true, laidLooks := .later }
def IssuerKidsUptoCardSaid : Prop := Claim7.holds Tryd.pinned (.plain (OpenSpec.upto issuerKidsSpec)) issuerKidsUptoCard
end Rows
end Go.Proofs.YtbllepoagnfjnaaDoor
