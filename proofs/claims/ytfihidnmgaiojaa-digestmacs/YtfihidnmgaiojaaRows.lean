/-
  No cell of these rows narrows 'for every input' (looked for: loops, veiled, ifaces, maps, wideKeys, modest, calm, conditions, laid).
  DERIVED. THE GIVEN ROWS OF THIS SEAT. 7 by the template 'for every input the law returns true; each argument reads behind the call as it read before'; 0 by the template 'total and deterministic' (their statements: YtfihidnmgaiojaaTotals.lean).
  GIVEN WITH THE SEED: the statements are not yours to turn. If you find one false, say at which input.
  Laid BY PROGRAM, IN A SANDBOX (cutbox-rows.mjs): the forced cells as the released guide's own fill.sh prints them over the translation adbc6f58adea3ff9… (all of the seat's roots in one cut). By AI agents, Wed Nov 11 2026. No macro, syntax, notation, axiom, sorry.
-/
import Derived.Test.YtfihidnmgaiojaaChecked
import GoSem.Claim
import GoSem.ClaimJoined
import GoSem.ClaimMapViews
import Derived.JoinedTies
import Derived.KernelRfl
namespace Go.Proofs.Ytfihidnmgaiojaa
/- THE CELL 'sum', in the pinned program and in every row, IS THE sha256 OF THE DUMP (.gsa) THAT YtfihidnmgaiojaaProg.lean LOADS. Nothing in Lean hashes anything: it is a label: what it is worth is what the hold of that sum in a sandbox is worth. -/
noncomputable def Try.pinned : Pinned := { name := "ytfihidnmgaiojaa", sum := "adbc6f58adea3ff9b44d127a27880dfa3d18c371a08f988d8a5c85dd7de3a4e1", checked := Try.checked }
namespace Rows
def none {H : Type} : Left H := { results := [], args := [] }

/-- 'notarylaw.DigestSums': WHATEVER THE INPUT: true; the input reads as it did. -/
def digestSumsSpec : ChangeSpec := { name := "digestSums", fn := fun _ => fun
  | [d1, d2] => { results := [.lit (.bool true)], args := [d1, d2] }
  | _ => none }
def digestSumsRow : OpenClaim := { program := "ytfihidnmgaiojaa", sum := "adbc6f58adea3ff9b44d127a27880dfa3d18c371a08f988d8a5c85dd7de3a4e1", func := "notary/notarylaw.DigestSums", spec := "digestSums", apart := false }
def DigestSumsSaid : Prop := digestSumsRow.holds Try.pinned (OpenSpec.ofChange digestSumsSpec)

/-- ITS FALSE NEIGHBOUR: 'it returns false'. Refute it at one input. -/
def digestSumsWrong : ChangeSpec := { name := "digestSums", fn := fun _ => fun
  | [d1, d2] => { results := [.lit (.bool false)], args := [d1, d2] }
  | _ => none }
def DigestSumsWrongFalsely : Prop := digestSumsRow.holds Try.pinned (OpenSpec.ofChange digestSumsWrong)

/-- 'notarylaw.DigestMacs': WHATEVER THE INPUT: true; the input reads as it did. -/
def digestMacsSpec : ChangeSpec := { name := "digestMacs", fn := fun _ => fun
  | [d1, d2, d3] => { results := [.lit (.bool true)], args := [d1, d2, d3] }
  | _ => none }
def digestMacsRow : OpenClaim := { program := "ytfihidnmgaiojaa", sum := "adbc6f58adea3ff9b44d127a27880dfa3d18c371a08f988d8a5c85dd7de3a4e1", func := "notary/notarylaw.DigestMacs", spec := "digestMacs", apart := false }
def DigestMacsSaid : Prop := digestMacsRow.holds Try.pinned (OpenSpec.ofChange digestMacsSpec)

/-- ITS FALSE NEIGHBOUR: 'it returns false'. Refute it at one input. -/
def digestMacsWrong : ChangeSpec := { name := "digestMacs", fn := fun _ => fun
  | [d1, d2, d3] => { results := [.lit (.bool false)], args := [d1, d2, d3] }
  | _ => none }
def DigestMacsWrongFalsely : Prop := digestMacsRow.holds Try.pinned (OpenSpec.ofChange digestMacsWrong)

/-- 'notarylaw.DigestSame': WHATEVER THE INPUT: true; the input reads as it did. -/
def digestSameSpec : ChangeSpec := { name := "digestSame", fn := fun _ => fun
  | [d1, d2] => { results := [.lit (.bool true)], args := [d1, d2] }
  | _ => none }
def digestSameRow : OpenClaim := { program := "ytfihidnmgaiojaa", sum := "adbc6f58adea3ff9b44d127a27880dfa3d18c371a08f988d8a5c85dd7de3a4e1", func := "notary/notarylaw.DigestSame", spec := "digestSame", apart := false }
def DigestSameSaid : Prop := digestSameRow.holds Try.pinned (OpenSpec.ofChange digestSameSpec)

/-- ITS FALSE NEIGHBOUR: 'it returns false'. Refute it at one input. -/
def digestSameWrong : ChangeSpec := { name := "digestSame", fn := fun _ => fun
  | [d1, d2] => { results := [.lit (.bool false)], args := [d1, d2] }
  | _ => none }
def DigestSameWrongFalsely : Prop := digestSameRow.holds Try.pinned (OpenSpec.ofChange digestSameWrong)

/-- 'notarylaw.DigestKeys': WHATEVER THE INPUT: true; the input reads as it did. -/
def digestKeysSpec : ChangeSpec := { name := "digestKeys", fn := fun _ => fun
  | [d1, d2, d3, d4] => { results := [.lit (.bool true)], args := [d1, d2, d3, d4] }
  | _ => none }
def digestKeysRow : OpenClaim := { program := "ytfihidnmgaiojaa", sum := "adbc6f58adea3ff9b44d127a27880dfa3d18c371a08f988d8a5c85dd7de3a4e1", func := "notary/notarylaw.DigestKeys", spec := "digestKeys", apart := false }
def DigestKeysSaid : Prop := digestKeysRow.holds Try.pinned (OpenSpec.ofChange digestKeysSpec)

/-- ITS FALSE NEIGHBOUR: 'it returns false'. Refute it at one input. -/
def digestKeysWrong : ChangeSpec := { name := "digestKeys", fn := fun _ => fun
  | [d1, d2, d3, d4] => { results := [.lit (.bool false)], args := [d1, d2, d3, d4] }
  | _ => none }
def DigestKeysWrongFalsely : Prop := digestKeysRow.holds Try.pinned (OpenSpec.ofChange digestKeysWrong)

/-- 'notarylaw.BaseEncodes': WHATEVER THE INPUT: true; the input reads as it did. -/
def baseEncodesSpec : ChangeSpec := { name := "baseEncodes", fn := fun _ => fun
  | [d] => { results := [.lit (.bool true)], args := [d] }
  | _ => none }
def baseEncodesRow : OpenClaim := { program := "ytfihidnmgaiojaa", sum := "adbc6f58adea3ff9b44d127a27880dfa3d18c371a08f988d8a5c85dd7de3a4e1", func := "notary/notarylaw.BaseEncodes", spec := "baseEncodes", apart := false }
def BaseEncodesSaid : Prop := baseEncodesRow.holds Try.pinned (OpenSpec.ofChange baseEncodesSpec)

/-- ITS FALSE NEIGHBOUR: 'it returns false'. Refute it at one input. -/
def baseEncodesWrong : ChangeSpec := { name := "baseEncodes", fn := fun _ => fun
  | [d] => { results := [.lit (.bool false)], args := [d] }
  | _ => none }
def BaseEncodesWrongFalsely : Prop := baseEncodesRow.holds Try.pinned (OpenSpec.ofChange baseEncodesWrong)

/-- 'notarylaw.BaseJoined': WHATEVER THE INPUT: true; the input reads as it did. -/
def baseJoinedSpec : ChangeSpec := { name := "baseJoined", fn := fun _ => fun
  | [d1, d2] => { results := [.lit (.bool true)], args := [d1, d2] }
  | _ => none }
def baseJoinedRow : OpenClaim := { program := "ytfihidnmgaiojaa", sum := "adbc6f58adea3ff9b44d127a27880dfa3d18c371a08f988d8a5c85dd7de3a4e1", func := "notary/notarylaw.BaseJoined", spec := "baseJoined", apart := false }
def BaseJoinedSaid : Prop := baseJoinedRow.holds Try.pinned (OpenSpec.ofChange baseJoinedSpec)

/-- ITS FALSE NEIGHBOUR: 'it returns false'. Refute it at one input. -/
def baseJoinedWrong : ChangeSpec := { name := "baseJoined", fn := fun _ => fun
  | [d1, d2] => { results := [.lit (.bool false)], args := [d1, d2] }
  | _ => none }
def BaseJoinedWrongFalsely : Prop := baseJoinedRow.holds Try.pinned (OpenSpec.ofChange baseJoinedWrong)

/-- 'notarylaw.BaseClean': WHATEVER THE INPUT: true; the input reads as it did. -/
def baseCleanSpec : ChangeSpec := { name := "baseClean", fn := fun _ => fun
  | [d] => { results := [.lit (.bool true)], args := [d] }
  | _ => none }
def baseCleanRow : OpenClaim := { program := "ytfihidnmgaiojaa", sum := "adbc6f58adea3ff9b44d127a27880dfa3d18c371a08f988d8a5c85dd7de3a4e1", func := "notary/notarylaw.BaseClean", spec := "baseClean", apart := false }
def BaseCleanSaid : Prop := baseCleanRow.holds Try.pinned (OpenSpec.ofChange baseCleanSpec)

/-- ITS FALSE NEIGHBOUR: 'it returns false'. Refute it at one input. -/
def baseCleanWrong : ChangeSpec := { name := "baseClean", fn := fun _ => fun
  | [d] => { results := [.lit (.bool false)], args := [d] }
  | _ => none }
def BaseCleanWrongFalsely : Prop := baseCleanRow.holds Try.pinned (OpenSpec.ofChange baseCleanWrong)

/- THE SECOND FORM. 'bulk': how many values and letters a reading holds, each counted each time it is reached (what is shared counts as often as it is met; a slice's spare places count too). A statement '..UptoSaid' is the law's where the arguments, and the package variables that the reading takes, are together of bulk at most 1048576: NARROWER than '..Said'. Prove '..Said' where nothing that the law and all that it calls make is longer than what came in: it says more and counts as full. Else prove '..UptoSaid'. A law counts once. -/
mutual
def uptoBulk {H : Type} : DataW H → Nat
  | .lit (.string bytes) => bytes.length + 1
  | .lit _ => 1
  | .nil => 1
  | .ptr d => uptoBulk d + 1
  | .slice elems spare => uptoBulkAll elems + uptoBulkAll spare + 1
  | .agg parts => uptoBulkAll parts + 1
  | .iface _ d => uptoBulk d + 1
  | .map entries => uptoBulkEntries entries + 1
  | .held _ => 1
def uptoBulkAll {H : Type} : List (DataW H) → Nat
  | [] => 0
  | d :: r => uptoBulk d + uptoBulkAll r
def uptoBulkEntries {H : Type} : List (Lit × DataW H) → Nat
  | [] => 0
  | x :: r => uptoBulkEntry x + uptoBulkEntries r
def uptoBulkEntry {H : Type} : Lit × DataW H → Nat
  | (.string bytes, d) => bytes.length + uptoBulk d + 1
  | (_, d) => uptoBulk d + 1
 end
def uptoSmall : (H : Type) → List (DataW H) → Bool := fun _ ds => decide (uptoBulkAll ds ≤ 1048576)
def OpenSpec.upto (s : _root_.Go.ChangeSpec) : _root_.Go.OpenSpec := { _root_.Go.OpenSpec.ofChange s with cond := some uptoSmall }

/-- 'notarylaw.DigestSums', WHERE WHAT IT READS IS OF BULK AT MOST 1048576: true; the input reads as it did. -/
def digestSumsUptoRow : OpenClaim := { program := "ytfihidnmgaiojaa", sum := "adbc6f58adea3ff9b44d127a27880dfa3d18c371a08f988d8a5c85dd7de3a4e1", func := "notary/notarylaw.DigestSums", spec := "digestSums", apart := false, narrowed := true }
def DigestSumsUptoSaid : Prop := digestSumsUptoRow.holds Try.pinned (OpenSpec.upto digestSumsSpec)

/-- 'notarylaw.DigestMacs', WHERE WHAT IT READS IS OF BULK AT MOST 1048576: true; the input reads as it did. -/
def digestMacsUptoRow : OpenClaim := { program := "ytfihidnmgaiojaa", sum := "adbc6f58adea3ff9b44d127a27880dfa3d18c371a08f988d8a5c85dd7de3a4e1", func := "notary/notarylaw.DigestMacs", spec := "digestMacs", apart := false, narrowed := true }
def DigestMacsUptoSaid : Prop := digestMacsUptoRow.holds Try.pinned (OpenSpec.upto digestMacsSpec)

/-- 'notarylaw.DigestSame', WHERE WHAT IT READS IS OF BULK AT MOST 1048576: true; the input reads as it did. -/
def digestSameUptoRow : OpenClaim := { program := "ytfihidnmgaiojaa", sum := "adbc6f58adea3ff9b44d127a27880dfa3d18c371a08f988d8a5c85dd7de3a4e1", func := "notary/notarylaw.DigestSame", spec := "digestSame", apart := false, narrowed := true }
def DigestSameUptoSaid : Prop := digestSameUptoRow.holds Try.pinned (OpenSpec.upto digestSameSpec)

/-- 'notarylaw.DigestKeys', WHERE WHAT IT READS IS OF BULK AT MOST 1048576: true; the input reads as it did. -/
def digestKeysUptoRow : OpenClaim := { program := "ytfihidnmgaiojaa", sum := "adbc6f58adea3ff9b44d127a27880dfa3d18c371a08f988d8a5c85dd7de3a4e1", func := "notary/notarylaw.DigestKeys", spec := "digestKeys", apart := false, narrowed := true }
def DigestKeysUptoSaid : Prop := digestKeysUptoRow.holds Try.pinned (OpenSpec.upto digestKeysSpec)

/-- 'notarylaw.BaseEncodes', WHERE WHAT IT READS IS OF BULK AT MOST 1048576: true; the input reads as it did. -/
def baseEncodesUptoRow : OpenClaim := { program := "ytfihidnmgaiojaa", sum := "adbc6f58adea3ff9b44d127a27880dfa3d18c371a08f988d8a5c85dd7de3a4e1", func := "notary/notarylaw.BaseEncodes", spec := "baseEncodes", apart := false, narrowed := true }
def BaseEncodesUptoSaid : Prop := baseEncodesUptoRow.holds Try.pinned (OpenSpec.upto baseEncodesSpec)

/-- 'notarylaw.BaseJoined', WHERE WHAT IT READS IS OF BULK AT MOST 1048576: true; the input reads as it did. -/
def baseJoinedUptoRow : OpenClaim := { program := "ytfihidnmgaiojaa", sum := "adbc6f58adea3ff9b44d127a27880dfa3d18c371a08f988d8a5c85dd7de3a4e1", func := "notary/notarylaw.BaseJoined", spec := "baseJoined", apart := false, narrowed := true }
def BaseJoinedUptoSaid : Prop := baseJoinedUptoRow.holds Try.pinned (OpenSpec.upto baseJoinedSpec)

/-- 'notarylaw.BaseClean', WHERE WHAT IT READS IS OF BULK AT MOST 1048576: true; the input reads as it did. -/
def baseCleanUptoRow : OpenClaim := { program := "ytfihidnmgaiojaa", sum := "adbc6f58adea3ff9b44d127a27880dfa3d18c371a08f988d8a5c85dd7de3a4e1", func := "notary/notarylaw.BaseClean", spec := "baseClean", apart := false, narrowed := true }
def BaseCleanUptoSaid : Prop := baseCleanUptoRow.holds Try.pinned (OpenSpec.upto baseCleanSpec)

end Rows
end Go.Proofs.Ytfihidnmgaiojaa
