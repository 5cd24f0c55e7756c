/-
  DERIVED. GIVEN WITH THE SEED: THE CARDS: each row of YtihboehpeehlmaaGreatDoorRows.lean that lists a variable, with what it lists TIED to the program's text (the seventh form; the later family's looks); each row that meets fmt, with fmt's text TOLD by the authors' own Lean function (tested against real Go, not proved from fmt's source: count such statements apart). THE CARD IS WHAT COUNTS. Prove the row's statement (the work); the ties are given (YtihboehpeehlmaaGreatDoorTie.lean); close each card by the builder's one call (the guide's Derived/Test/ToyasCard.lean, 'card_holds'). Laid BY PROGRAM, IN A SANDBOX (cutbox-door.mjs). By AI agents, Wed Nov 11 2026. No macro, syntax, notation, axiom, sorry.
-/
import Derived.Test.YtihboehpeehlmaaGreatDoorRows
import GoSem.ClaimSeven
namespace Go.Proofs.YtihboehpeehlmaaGreatDoor
namespace Rows

/-- THE TIED CARD OF 'notarylaw.IssuerPlays'. -/
def issuerPlaysCard : Claim7 := { stood := { row := issuerPlaysRow, standIns := [], harness := (true, "dc6df25f8a5aa7a8dd917ffd1058292b47cb2aee663ce5c502354203a0c32a48"), looks := true }, kinds := [], alts := [], laidByText := true, laidKinds := [.data, .data, .data, .data, .sentinel, .sentinel, .data, .pinned], laidTests := true, laidLooks := .later }
def IssuerPlaysCardSaid : Prop := Claim7.holds Tryz.pinned (.plain (OpenSpec.ofChange issuerPlaysSpec)) issuerPlaysCard

/-- THE TIED CARD OF 'notarylaw.IssuerApart'. -/
def issuerApartCard : Claim7 := { stood := { row := issuerApartRow, standIns := [], harness := (true, "dc6df25f8a5aa7a8dd917ffd1058292b47cb2aee663ce5c502354203a0c32a48"), looks := true }, kinds := [], alts := [], laidByText := true, laidKinds := [.data, .data, .data, .data, .sentinel, .sentinel, .data, .pinned], laidTests := true, laidLooks := .later }
def IssuerApartCardSaid : Prop := Claim7.holds Tryz.pinned (.plain (OpenSpec.ofChange issuerApartSpec)) issuerApartCard

/-- THE TIED CARD OF 'notarylaw.IssuerLast'. -/
def issuerLastCard : Claim7 := { stood := { row := issuerLastRow, standIns := [], harness := (true, "dc6df25f8a5aa7a8dd917ffd1058292b47cb2aee663ce5c502354203a0c32a48"), looks := true }, kinds := [], alts := [], laidByText := true, laidKinds := [.data, .data, .data, .data, .sentinel, .sentinel, .data, .pinned], laidTests := true, laidLooks := .later }
def IssuerLastCardSaid : Prop := Claim7.holds Tryz.pinned (.plain (OpenSpec.ofChange issuerLastSpec)) issuerLastCard

/-- THE SECOND FORM's CARD OF 'notarylaw.IssuerPlays'. -/
def issuerPlaysUptoCard : Claim7 := { stood := { row := issuerPlaysUptoRow, standIns := [], harness := (true, "dc6df25f8a5aa7a8dd917ffd1058292b47cb2aee663ce5c502354203a0c32a48"), looks := true }, kinds := [], alts := [], laidByText := true, laidKinds := [.data, .data, .data, .data, .sentinel, .sentinel, .data, .pinned], laidTests := true, laidLooks := .later }
def IssuerPlaysUptoCardSaid : Prop := Claim7.holds Tryz.pinned (.plain (OpenSpec.upto issuerPlaysSpec)) issuerPlaysUptoCard

/-- THE SECOND FORM's CARD OF 'notarylaw.IssuerApart'. -/
def issuerApartUptoCard : Claim7 := { stood := { row := issuerApartUptoRow, standIns := [], harness := (true, "dc6df25f8a5aa7a8dd917ffd1058292b47cb2aee663ce5c502354203a0c32a48"), looks := true }, kinds := [], alts := [], laidByText := true, laidKinds := [.data, .data, .data, .data, .sentinel, .sentinel, .data, .pinned], laidTests := true, laidLooks := .later }
def IssuerApartUptoCardSaid : Prop := Claim7.holds Tryz.pinned (.plain (OpenSpec.upto issuerApartSpec)) issuerApartUptoCard

/-- THE SECOND FORM's CARD OF 'notarylaw.IssuerLast'. -/
def issuerLastUptoCard : Claim7 := { stood := { row := issuerLastUptoRow, standIns := [], harness := (true, "dc6df25f8a5aa7a8dd917ffd1058292b47cb2aee663ce5c502354203a0c32a48"), looks := true }, kinds := [], alts := [], laidByText := true, laidKinds := [.data, .data, .data, .data, .sentinel, .sentinel, .data, .pinned], laidTests := true, laidLooks := .later }
def IssuerLastUptoCardSaid : Prop := Claim7.holds Tryz.pinned (.plain (OpenSpec.upto issuerLastSpec)) issuerLastUptoCard
end Rows
end Go.Proofs.YtihboehpeehlmaaGreatDoor
