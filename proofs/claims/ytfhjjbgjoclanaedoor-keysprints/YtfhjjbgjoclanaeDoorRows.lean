/-
  NARROWER THAN 'FOR EVERY INPUT', by the rows' own cells (each row's printed sentence says how): KeysPrints: laid · KeysCut: laid.
  DERIVED. THE GIVEN ROWS OF THIS SEAT. 2 by the template 'for every input the law returns true; each argument reads behind the call as it read before'; 0 by the template 'total and deterministic' (their statements: YtfhjjbgjoclanaeDoorTotals.lean).
  GIVEN WITH THE SEED: the statements are not yours to turn. If you find one false, say at which input.
  Laid BY PROGRAM, IN A SANDBOX (cutbox-rows.mjs): the forced cells as the released guide's own fill.sh prints them over the translation c44e30494503594d… (all of the seat's roots in one cut). By AI agents, Wed Nov 11 2026. No macro, syntax, notation, axiom, sorry.
-/
import Derived.Test.YtfhjjbgjoclanaeDoorChecked
import GoSem.Claim
import GoSem.ClaimJoined
import GoSem.ClaimMapViews
import Derived.JoinedTies
import Derived.KernelRfl
namespace Go.Proofs.YtfhjjbgjoclanaeDoor
/- THE CELL 'sum', in the pinned program and in every row, IS THE sha256 OF THE DUMP (.gsa) THAT YtfhjjbgjoclanaeDoorProg.lean LOADS. Nothing in Lean hashes anything: it is a label: what it is worth is what the hold of that sum in a sandbox is worth. -/
noncomputable def Tryd.pinned : Pinned := { name := "ytfhjjbgjoclanaedoor", sum := "c44e30494503594d6fad49ce7a47d7a64e9c79b068c886d3c36da67e8739dfed", checked := Tryd.checked }
namespace Rows
def none {H : Type} : Left H := { results := [], args := [] }

/- WHAT THE LISTED PACKAGE-LEVEL VARIABLES READ AS WHEN THE CALL BEGINS. Each datum BY PROGRAM (the guide's laid-datum.mjs) off the statement by which the dump's own 'gosem.cut.vars' lays the variable. In a bare row this is a premise. The card (YtfhjjbgjoclanaeDoorCards.lean) ties it to the program's text. -/
def laid_notary_token_ways {H : Type} : DataW H := .agg [.agg [.lit (.int .i64 256), .lit (.string [72, 83, 50, 53, 54])], .agg [.lit (.int .i64 384), .lit (.string [72, 83, 51, 56, 52])], .agg [.lit (.int .i64 512), .lit (.string [72, 83, 53, 49, 50])]]

/-- 'notarylaw.KeysPrints': WHATEVER THE INPUT: true; the input reads as it did. -/
def keysPrintsSpec : ChangeSpec := { name := "keysPrints", fn := fun _ => fun
  | [d1, d2] => { results := [.lit (.bool true)], args := [d1, d2] }
  | _ => none }
def keysPrintsRow : OpenClaim := { program := "ytfhjjbgjoclanaedoor", sum := "c44e30494503594d6fad49ce7a47d7a64e9c79b068c886d3c36da67e8739dfed", func := "notary/notarylaw.KeysPrints", spec := "keysPrints", inPlace := ["internal/abi.NoEscape", "internal/bytealg.MakeNoZero"], unfollowed := true, recurses := true, named := ["notary/token.ways"], apart := false, laid := [("notary/token.ways", laid_notary_token_ways)] }
def KeysPrintsSaid : Prop := keysPrintsRow.holds Tryd.pinned (OpenSpec.ofChange keysPrintsSpec)

/-- ITS FALSE NEIGHBOUR: 'it returns false'. Refute it at one input. -/
def keysPrintsWrong : ChangeSpec := { name := "keysPrints", fn := fun _ => fun
  | [d1, d2] => { results := [.lit (.bool false)], args := [d1, d2] }
  | _ => none }
def KeysPrintsWrongFalsely : Prop := keysPrintsRow.holds Tryd.pinned (OpenSpec.ofChange keysPrintsWrong)

/-- 'notarylaw.KeysCut': WHATEVER THE INPUT: true; the input reads as it did. -/
def keysCutSpec : ChangeSpec := { name := "keysCut", fn := fun _ => fun
  | [d1, d2] => { results := [.lit (.bool true)], args := [d1, d2] }
  | _ => none }
def keysCutRow : OpenClaim := { program := "ytfhjjbgjoclanaedoor", sum := "c44e30494503594d6fad49ce7a47d7a64e9c79b068c886d3c36da67e8739dfed", func := "notary/notarylaw.KeysCut", spec := "keysCut", inPlace := ["internal/abi.NoEscape", "internal/bytealg.MakeNoZero"], unfollowed := true, recurses := true, named := ["notary/token.ways"], apart := false, laid := [("notary/token.ways", laid_notary_token_ways)] }
def KeysCutSaid : Prop := keysCutRow.holds Tryd.pinned (OpenSpec.ofChange keysCutSpec)

/-- ITS FALSE NEIGHBOUR: 'it returns false'. Refute it at one input. -/
def keysCutWrong : ChangeSpec := { name := "keysCut", fn := fun _ => fun
  | [d1, d2] => { results := [.lit (.bool false)], args := [d1, d2] }
  | _ => none }
def KeysCutWrongFalsely : Prop := keysCutRow.holds Tryd.pinned (OpenSpec.ofChange keysCutWrong)

/- THE SECOND FORM. 'bulk': how many values and letters a reading holds, each counted each time it is reached (what is shared counts as often as it is met; a slice's spare places count too). A statement '..UptoSaid' is the law's where the arguments, and the package variables that the reading takes, are together of bulk at most 1048576: NARROWER than '..Said'. Prove '..Said' where nothing that the law and all that it calls make is longer than what came in: it says more and counts as full. Else prove '..UptoSaid'. A law counts once. -/
mutual
def uptoBulk {H : Type} : DataW H → Nat
  | .lit (.string bytes) => bytes.length + 1
  | .lit _ => 1
  | .nil => 1
  | .ptr d => uptoBulk d + 1
  | .slice elems spare => uptoBulkAll elems + uptoBulkAll spare + 1
  | .agg parts => uptoBulkAll parts + 1
  | .iface _ d => uptoBulk d + 1
  | .map entries => uptoBulkEntries entries + 1
  | .held _ => 1
def uptoBulkAll {H : Type} : List (DataW H) → Nat
  | [] => 0
  | d :: r => uptoBulk d + uptoBulkAll r
def uptoBulkEntries {H : Type} : List (Lit × DataW H) → Nat
  | [] => 0
  | x :: r => uptoBulkEntry x + uptoBulkEntries r
def uptoBulkEntry {H : Type} : Lit × DataW H → Nat
  | (.string bytes, d) => bytes.length + uptoBulk d + 1
  | (_, d) => uptoBulk d + 1
 end
def uptoSmall : (H : Type) → List (DataW H) → Bool := fun _ ds => decide (uptoBulkAll ds ≤ 1048576)
def OpenSpec.upto (s : _root_.Go.ChangeSpec) : _root_.Go.OpenSpec := { _root_.Go.OpenSpec.ofChange s with cond := some uptoSmall }

/-- 'notarylaw.KeysPrints', WHERE WHAT IT READS IS OF BULK AT MOST 1048576: true; the input reads as it did. -/
def keysPrintsUptoRow : OpenClaim := { program := "ytfhjjbgjoclanaedoor", sum := "c44e30494503594d6fad49ce7a47d7a64e9c79b068c886d3c36da67e8739dfed", func := "notary/notarylaw.KeysPrints", spec := "keysPrints", inPlace := ["internal/abi.NoEscape", "internal/bytealg.MakeNoZero"], unfollowed := true, recurses := true, named := ["notary/token.ways"], apart := false, laid := [("notary/token.ways", laid_notary_token_ways)], narrowed := true }
def KeysPrintsUptoSaid : Prop := keysPrintsUptoRow.holds Tryd.pinned (OpenSpec.upto keysPrintsSpec)

/-- 'notarylaw.KeysCut', WHERE WHAT IT READS IS OF BULK AT MOST 1048576: true; the input reads as it did. -/
def keysCutUptoRow : OpenClaim := { program := "ytfhjjbgjoclanaedoor", sum := "c44e30494503594d6fad49ce7a47d7a64e9c79b068c886d3c36da67e8739dfed", func := "notary/notarylaw.KeysCut", spec := "keysCut", inPlace := ["internal/abi.NoEscape", "internal/bytealg.MakeNoZero"], unfollowed := true, recurses := true, named := ["notary/token.ways"], apart := false, laid := [("notary/token.ways", laid_notary_token_ways)], narrowed := true }
def KeysCutUptoSaid : Prop := keysCutUptoRow.holds Tryd.pinned (OpenSpec.upto keysCutSpec)

end Rows
end Go.Proofs.YtfhjjbgjoclanaeDoor
