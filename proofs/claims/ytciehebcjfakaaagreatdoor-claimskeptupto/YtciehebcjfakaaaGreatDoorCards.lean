/-
  DERIVED. GIVEN WITH THE SEED: THE CARDS: each row of YtciehebcjfakaaaGreatDoorRows.lean that lists a variable, with what it lists TIED to the program's text (the seventh form; the later family's looks); each row that meets fmt, with fmt's text TOLD by the authors' own Lean function (tested against real Go, not proved from fmt's source: count such statements apart). THE CARD IS WHAT COUNTS. Prove the row's statement (the work); the ties are given (YtciehebcjfakaaaGreatDoorTie.lean); close each card by the builder's one call (the guide's Derived/Test/ToyasCard.lean, 'card_holds'). Laid BY PROGRAM, IN A SANDBOX (cutbox-door.mjs). By AI agents, Wed Nov 11 2026. No macro, syntax, notation, axiom, sorry.
-/
import Derived.Test.YtciehebcjfakaaaGreatDoorRows
import GoSem.ClaimSeven
namespace Go.Proofs.YtciehebcjfakaaaGreatDoor
namespace Rows

/-- THE TIED CARD OF 'notarylaw.ClaimsMakes'. -/
def claimsMakesCard : Claim7 := { stood := { row := claimsMakesRow, standIns := [], harness := (true, "693952fc59c62e513f125b69fe7b20ed3d54cb2605b71ce75bfde80c6475b5f1"), looks := true }, kinds := [], alts := [], laidByText := true, laidKinds := [.data, .data, .data, .data, .sentinel, .sentinel, .pinned], laidTests := true, laidLooks := .later }
def ClaimsMakesCardSaid : Prop := Claim7.holds Tryz.pinned (.plain (OpenSpec.ofChange claimsMakesSpec)) claimsMakesCard

/-- THE TIED CARD OF 'notarylaw.ClaimsHold'. -/
def claimsHoldCard : Claim7 := { stood := { row := claimsHoldRow, standIns := [], harness := (true, "693952fc59c62e513f125b69fe7b20ed3d54cb2605b71ce75bfde80c6475b5f1"), looks := true }, kinds := [], alts := [], laidByText := true, laidKinds := [.data, .data, .data, .data, .sentinel, .sentinel, .pinned], laidTests := true, laidLooks := .later }
def ClaimsHoldCardSaid : Prop := Claim7.holds Tryz.pinned (.plain (OpenSpec.ofChange claimsHoldSpec)) claimsHoldCard

/-- THE TIED CARD OF 'notarylaw.ClaimsKept'. -/
def claimsKeptCard : Claim7 := { stood := { row := claimsKeptRow, standIns := [], harness := (true, "693952fc59c62e513f125b69fe7b20ed3d54cb2605b71ce75bfde80c6475b5f1"), looks := true }, kinds := [], alts := [], laidByText := true, laidKinds := [.data, .data, .data, .data, .sentinel, .sentinel, .pinned], laidTests := true, laidLooks := .later }
def ClaimsKeptCardSaid : Prop := Claim7.holds Tryz.pinned (.plain (OpenSpec.ofChange claimsKeptSpec)) claimsKeptCard

/-- THE TIED CARD OF 'notarylaw.ClaimsTwice'. -/
def claimsTwiceCard : Claim7 := { stood := { row := claimsTwiceRow, standIns := [], harness := (true, "693952fc59c62e513f125b69fe7b20ed3d54cb2605b71ce75bfde80c6475b5f1"), looks := true }, kinds := [], alts := [], laidByText := true, laidKinds := [.data, .data, .data, .data, .sentinel, .sentinel, .pinned], laidTests := true, laidLooks := .later }
def ClaimsTwiceCardSaid : Prop := Claim7.holds Tryz.pinned (.plain (OpenSpec.ofChange claimsTwiceSpec)) claimsTwiceCard

/-- THE SECOND FORM's CARD OF 'notarylaw.ClaimsMakes'. -/
def claimsMakesUptoCard : Claim7 := { stood := { row := claimsMakesUptoRow, standIns := [], harness := (true, "693952fc59c62e513f125b69fe7b20ed3d54cb2605b71ce75bfde80c6475b5f1"), looks := true }, kinds := [], alts := [], laidByText := true, laidKinds := [.data, .data, .data, .data, .sentinel, .sentinel, .pinned], laidTests := true, laidLooks := .later }
def ClaimsMakesUptoCardSaid : Prop := Claim7.holds Tryz.pinned (.plain (OpenSpec.upto claimsMakesSpec)) claimsMakesUptoCard

/-- THE SECOND FORM's CARD OF 'notarylaw.ClaimsHold'. -/
def claimsHoldUptoCard : Claim7 := { stood := { row := claimsHoldUptoRow, standIns := [], harness := (true, "693952fc59c62e513f125b69fe7b20ed3d54cb2605b71ce75bfde80c6475b5f1"), looks := true }, kinds := [], alts := [], laidByText := true, laidKinds := [.data, .data, .data, .data, .sentinel, .sentinel, .pinned], laidTests := true, laidLooks := .later }
def ClaimsHoldUptoCardSaid : Prop := Claim7.holds Tryz.pinned (.plain (OpenSpec.upto claimsHoldSpec)) claimsHoldUptoCard

/-- THE SECOND FORM's CARD OF 'notarylaw.ClaimsKept'. -/
def claimsKeptUptoCard : Claim7 := { stood := { row := claimsKeptUptoRow, standIns := [], harness := (true, "693952fc59c62e513f125b69fe7b20ed3d54cb2605b71ce75bfde80c6475b5f1"), looks := true }, kinds := [], alts := [], laidByText := true, laidKinds := [.data, .data, .data, .data, .sentinel, .sentinel, .pinned], laidTests := true, laidLooks := .later }
def ClaimsKeptUptoCardSaid : Prop := Claim7.holds Tryz.pinned (.plain (OpenSpec.upto claimsKeptSpec)) claimsKeptUptoCard

/-- THE SECOND FORM's CARD OF 'notarylaw.ClaimsTwice'. -/
def claimsTwiceUptoCard : Claim7 := { stood := { row := claimsTwiceUptoRow, standIns := [], harness := (true, "693952fc59c62e513f125b69fe7b20ed3d54cb2605b71ce75bfde80c6475b5f1"), looks := true }, kinds := [], alts := [], laidByText := true, laidKinds := [.data, .data, .data, .data, .sentinel, .sentinel, .pinned], laidTests := true, laidLooks := .later }
def ClaimsTwiceUptoCardSaid : Prop := Claim7.holds Tryz.pinned (.plain (OpenSpec.upto claimsTwiceSpec)) claimsTwiceUptoCard
end Rows
end Go.Proofs.YtciehebcjfakaaaGreatDoor
