/-
  DERIVED. GIVEN WITH THE SEED: THE CARDS: each row of YtfhjjbgjoclanaeDoorRows.lean that lists a variable, with what it lists TIED to the program's text (the seventh form; the later family's looks); each row that meets fmt, with fmt's text TOLD by the authors' own Lean function (tested against real Go, not proved from fmt's source: count such statements apart). THE CARD IS WHAT COUNTS. Prove the row's statement (the work); the ties are given (YtfhjjbgjoclanaeDoorTie.lean); close each card by the builder's one call (the guide's Derived/Test/ToyasCard.lean, 'card_holds'). Laid BY PROGRAM, IN A SANDBOX (cutbox-door.mjs). By AI agents, Wed Nov 11 2026. No macro, syntax, notation, axiom, sorry.
-/
import Derived.Test.YtfhjjbgjoclanaeDoorRows
import GoSem.ClaimSeven
namespace Go.Proofs.YtfhjjbgjoclanaeDoor
namespace Rows

/-- THE TIED CARD OF 'notarylaw.KeysPrints'. -/
def keysPrintsCard : Claim7 := { stood := { row := keysPrintsRow, standIns := [], harness := (true, "9386ca57ced0a9c4afd9ba64ccbed8c613b60516c3980597b4805243f2453f57"), looks := false }, kinds := [], alts := [], laidByText := true, laidKinds := [.data], laidTests := true, laidLooks := .later }
def KeysPrintsCardSaid : Prop := Claim7.holds Tryd.pinned (.plain (OpenSpec.ofChange keysPrintsSpec)) keysPrintsCard

/-- THE TIED CARD OF 'notarylaw.KeysCut'. -/
def keysCutCard : Claim7 := { stood := { row := keysCutRow, standIns := [], harness := (true, "9386ca57ced0a9c4afd9ba64ccbed8c613b60516c3980597b4805243f2453f57"), looks := false }, kinds := [], alts := [], laidByText := true, laidKinds := [.data], laidTests := true, laidLooks := .later }
def KeysCutCardSaid : Prop := Claim7.holds Tryd.pinned (.plain (OpenSpec.ofChange keysCutSpec)) keysCutCard

/-- THE SECOND FORM's CARD OF 'notarylaw.KeysPrints'. -/
def keysPrintsUptoCard : Claim7 := { stood := { row := keysPrintsUptoRow, standIns := [], harness := (true, "9386ca57ced0a9c4afd9ba64ccbed8c613b60516c3980597b4805243f2453f57"), looks := false }, kinds := [], alts := [], laidByText := true, laidKinds := [.data], laidTests := true, laidLooks := .later }
def KeysPrintsUptoCardSaid : Prop := Claim7.holds Tryd.pinned (.plain (OpenSpec.upto keysPrintsSpec)) keysPrintsUptoCard

/-- THE SECOND FORM's CARD OF 'notarylaw.KeysCut'. -/
def keysCutUptoCard : Claim7 := { stood := { row := keysCutUptoRow, standIns := [], harness := (true, "9386ca57ced0a9c4afd9ba64ccbed8c613b60516c3980597b4805243f2453f57"), looks := false }, kinds := [], alts := [], laidByText := true, laidKinds := [.data], laidTests := true, laidLooks := .later }
def KeysCutUptoCardSaid : Prop := Claim7.holds Tryd.pinned (.plain (OpenSpec.upto keysCutSpec)) keysCutUptoCard
end Rows
end Go.Proofs.YtfhjjbgjoclanaeDoor
