/-
  DERIVED. GIVEN WITH THE SEED: THE CARDS: each row of YtaghclgookfmnaaGreatDoorRows.lean that lists a variable, with what it lists TIED to the program's text (the seventh form; the later family's looks); each row that meets fmt, with fmt's text TOLD by the authors' own Lean function (tested against real Go, not proved from fmt's source: count such statements apart). THE CARD IS WHAT COUNTS. Prove the row's statement (the work); the ties are given (YtaghclgookfmnaaGreatDoorTie.lean); close each card by the builder's one call (the guide's Derived/Test/ToyasCard.lean, 'card_holds'). Laid BY PROGRAM, IN A SANDBOX (cutbox-door.mjs). By AI agents, Wed Nov 11 2026. No macro, syntax, notation, axiom, sorry.
-/
import Derived.Test.YtaghclgookfmnaaGreatDoorRows
import GoSem.ClaimSeven
namespace Go.Proofs.YtaghclgookfmnaaGreatDoor
namespace Rows

/-- THE TIED CARD OF 'notarylaw.ClaimsReads'. -/
def claimsReadsCard : Claim7 := { stood := { row := claimsReadsRow, standIns := [], harness := (true, "3355acbd7e3bb79021d5311ad12b43ab216b0e40226f638092ce6a15fb13ffc5"), looks := true }, kinds := [], alts := [], laidByText := true, laidKinds := [.data, .data, .data, .data, .sentinel, .sentinel, .pinned], laidTests := true, laidLooks := .later }
def ClaimsReadsCardSaid : Prop := Claim7.holds Tryz.pinned (.plain (OpenSpec.ofChange claimsReadsSpec)) claimsReadsCard

/-- THE SECOND FORM's CARD OF 'notarylaw.ClaimsReads'. -/
def claimsReadsUptoCard : Claim7 := { stood := { row := claimsReadsUptoRow, standIns := [], harness := (true, "3355acbd7e3bb79021d5311ad12b43ab216b0e40226f638092ce6a15fb13ffc5"), looks := true }, kinds := [], alts := [], laidByText := true, laidKinds := [.data, .data, .data, .data, .sentinel, .sentinel, .pinned], laidTests := true, laidLooks := .later }
def ClaimsReadsUptoCardSaid : Prop := Claim7.holds Tryz.pinned (.plain (OpenSpec.upto claimsReadsSpec)) claimsReadsUptoCard
end Rows
end Go.Proofs.YtaghclgookfmnaaGreatDoor
