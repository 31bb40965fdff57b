/-
  No cell of these rows narrows 'for every input' (looked for: loops, veiled, ifaces, maps, wideKeys, modest, calm, conditions, laid).
  DERIVED. THE GIVEN ROWS OF THIS SEAT. 8 by the template 'for every input the law returns true; each argument reads behind the call as it read before'; 0 by the template 'total and deterministic' (their statements: YtiphndgmgpiodaaTotals.lean).
  GIVEN WITH THE SEED: the statements are not yours to turn. If you find one false, say at which input.
  Laid BY PROGRAM, IN A SANDBOX (cutbox-rows.mjs): the forced cells as the released guide's own fill.sh prints them over the translation 066e0a0c7cb0fb7e… (all of the seat's roots in one cut). By AI agents, Wed Nov 11 2026. No macro, syntax, notation, axiom, sorry.
-/
import Derived.Test.YtiphndgmgpiodaaChecked
import GoSem.Claim
import GoSem.ClaimJoined
import GoSem.ClaimMapViews
import Derived.JoinedTies
import Derived.KernelRfl
namespace Go.Proofs.Ytiphndgmgpiodaa
/- THE CELL 'sum', in the pinned program and in every row, IS THE sha256 OF THE DUMP (.gsa) THAT YtiphndgmgpiodaaProg.lean LOADS. Nothing in Lean hashes anything: it is a label: what it is worth is what the hold of that sum in a sandbox is worth. -/
noncomputable def Try.pinned : Pinned := { name := "ytiphndgmgpiodaa", sum := "066e0a0c7cb0fb7ee549d72cec0fc705413aeee14658a5d41fe9c28449de30d6", checked := Try.checked }
namespace Rows
def none {H : Type} : Left H := { results := [], args := [] }

/-- 'laws.FnExactReadHop': WHATEVER THE INPUT: true; the input reads as it did. -/
def fnExactReadHopSpec : ChangeSpec := { name := "fnExactReadHop", fn := fun _ => fun
  | [d1, d2] => { results := [.lit (.bool true)], args := [d1, d2] }
  | _ => none }
def fnExactReadHopRow : OpenClaim := { program := "ytiphndgmgpiodaa", sum := "066e0a0c7cb0fb7ee549d72cec0fc705413aeee14658a5d41fe9c28449de30d6", func := "loop.example/g00505/laws.FnExactReadHop", spec := "fnExactReadHop", apart := false }
def FnExactReadHopSaid : Prop := fnExactReadHopRow.holds Try.pinned (OpenSpec.ofChange fnExactReadHopSpec)

/-- ITS FALSE NEIGHBOUR: 'it returns false'. Refute it at one input. -/
def fnExactReadHopWrong : ChangeSpec := { name := "fnExactReadHop", fn := fun _ => fun
  | [d1, d2] => { results := [.lit (.bool false)], args := [d1, d2] }
  | _ => none }
def FnExactReadHopWrongFalsely : Prop := fnExactReadHopRow.holds Try.pinned (OpenSpec.ofChange fnExactReadHopWrong)

/-- 'laws.FnExactReadSegment': WHATEVER THE INPUT: true; the input reads as it did. -/
def fnExactReadSegmentSpec : ChangeSpec := { name := "fnExactReadSegment", fn := fun _ => fun
  | [d1, d2] => { results := [.lit (.bool true)], args := [d1, d2] }
  | _ => none }
def fnExactReadSegmentRow : OpenClaim := { program := "ytiphndgmgpiodaa", sum := "066e0a0c7cb0fb7ee549d72cec0fc705413aeee14658a5d41fe9c28449de30d6", func := "loop.example/g00505/laws.FnExactReadSegment", spec := "fnExactReadSegment", apart := false }
def FnExactReadSegmentSaid : Prop := fnExactReadSegmentRow.holds Try.pinned (OpenSpec.ofChange fnExactReadSegmentSpec)

/-- ITS FALSE NEIGHBOUR: 'it returns false'. Refute it at one input. -/
def fnExactReadSegmentWrong : ChangeSpec := { name := "fnExactReadSegment", fn := fun _ => fun
  | [d1, d2] => { results := [.lit (.bool false)], args := [d1, d2] }
  | _ => none }
def FnExactReadSegmentWrongFalsely : Prop := fnExactReadSegmentRow.holds Try.pinned (OpenSpec.ofChange fnExactReadSegmentWrong)

/-- 'laws.FnExactFirstBadSignature': WHATEVER THE INPUT: true; the input reads as it did. -/
def fnExactFirstBadSignatureSpec : ChangeSpec := { name := "fnExactFirstBadSignature", fn := fun _ => fun
  | [d1, d2] => { results := [.lit (.bool true)], args := [d1, d2] }
  | _ => none }
def fnExactFirstBadSignatureRow : OpenClaim := { program := "ytiphndgmgpiodaa", sum := "066e0a0c7cb0fb7ee549d72cec0fc705413aeee14658a5d41fe9c28449de30d6", func := "loop.example/g00505/laws.FnExactFirstBadSignature", spec := "fnExactFirstBadSignature", unfollowed := true, recurses := true, apart := false }
def FnExactFirstBadSignatureSaid : Prop := fnExactFirstBadSignatureRow.holds Try.pinned (OpenSpec.ofChange fnExactFirstBadSignatureSpec)

/-- ITS FALSE NEIGHBOUR: 'it returns false'. Refute it at one input. -/
def fnExactFirstBadSignatureWrong : ChangeSpec := { name := "fnExactFirstBadSignature", fn := fun _ => fun
  | [d1, d2] => { results := [.lit (.bool false)], args := [d1, d2] }
  | _ => none }
def FnExactFirstBadSignatureWrongFalsely : Prop := fnExactFirstBadSignatureRow.holds Try.pinned (OpenSpec.ofChange fnExactFirstBadSignatureWrong)

/-- 'laws.FnExactTruncateSigned': WHATEVER THE INPUT: true; the input reads as it did. -/
def fnExactTruncateSignedSpec : ChangeSpec := { name := "fnExactTruncateSigned", fn := fun _ => fun
  | [d1, d2] => { results := [.lit (.bool true)], args := [d1, d2] }
  | _ => none }
def fnExactTruncateSignedRow : OpenClaim := { program := "ytiphndgmgpiodaa", sum := "066e0a0c7cb0fb7ee549d72cec0fc705413aeee14658a5d41fe9c28449de30d6", func := "loop.example/g00505/laws.FnExactTruncateSigned", spec := "fnExactTruncateSigned", apart := false }
def FnExactTruncateSignedSaid : Prop := fnExactTruncateSignedRow.holds Try.pinned (OpenSpec.ofChange fnExactTruncateSignedSpec)

/-- ITS FALSE NEIGHBOUR: 'it returns false'. Refute it at one input. -/
def fnExactTruncateSignedWrong : ChangeSpec := { name := "fnExactTruncateSigned", fn := fun _ => fun
  | [d1, d2] => { results := [.lit (.bool false)], args := [d1, d2] }
  | _ => none }
def FnExactTruncateSignedWrongFalsely : Prop := fnExactTruncateSignedRow.holds Try.pinned (OpenSpec.ofChange fnExactTruncateSignedWrong)

/-- 'laws.FnExactSignedDataSize': WHATEVER THE INPUT: true; the input reads as it did. -/
def fnExactSignedDataSizeSpec : ChangeSpec := { name := "fnExactSignedDataSize", fn := fun _ => fun
  | [d] => { results := [.lit (.bool true)], args := [d] }
  | _ => none }
def fnExactSignedDataSizeRow : OpenClaim := { program := "ytiphndgmgpiodaa", sum := "066e0a0c7cb0fb7ee549d72cec0fc705413aeee14658a5d41fe9c28449de30d6", func := "loop.example/g00505/laws.FnExactSignedDataSize", spec := "fnExactSignedDataSize", unfollowed := true, recurses := true, apart := false }
def FnExactSignedDataSizeSaid : Prop := fnExactSignedDataSizeRow.holds Try.pinned (OpenSpec.ofChange fnExactSignedDataSizeSpec)

/-- ITS FALSE NEIGHBOUR: 'it returns false'. Refute it at one input. -/
def fnExactSignedDataSizeWrong : ChangeSpec := { name := "fnExactSignedDataSize", fn := fun _ => fun
  | [d] => { results := [.lit (.bool false)], args := [d] }
  | _ => none }
def FnExactSignedDataSizeWrongFalsely : Prop := fnExactSignedDataSizeRow.holds Try.pinned (OpenSpec.ofChange fnExactSignedDataSizeWrong)

/-- 'laws.FnExactBetterPath': WHATEVER THE INPUT: true; the input reads as it did. -/
def fnExactBetterPathSpec : ChangeSpec := { name := "fnExactBetterPath", fn := fun _ => fun
  | [d1, d2] => { results := [.lit (.bool true)], args := [d1, d2] }
  | _ => none }
def fnExactBetterPathRow : OpenClaim := { program := "ytiphndgmgpiodaa", sum := "066e0a0c7cb0fb7ee549d72cec0fc705413aeee14658a5d41fe9c28449de30d6", func := "loop.example/g00505/laws.FnExactBetterPath", spec := "fnExactBetterPath", unfollowed := true, recurses := true, apart := false }
def FnExactBetterPathSaid : Prop := fnExactBetterPathRow.holds Try.pinned (OpenSpec.ofChange fnExactBetterPathSpec)

/-- ITS FALSE NEIGHBOUR: 'it returns false'. Refute it at one input. -/
def fnExactBetterPathWrong : ChangeSpec := { name := "fnExactBetterPath", fn := fun _ => fun
  | [d1, d2] => { results := [.lit (.bool false)], args := [d1, d2] }
  | _ => none }
def FnExactBetterPathWrongFalsely : Prop := fnExactBetterPathRow.holds Try.pinned (OpenSpec.ofChange fnExactBetterPathWrong)

/-- 'laws.FnExactReadPath': WHATEVER THE INPUT: true; the input reads as it did. -/
def fnExactReadPathSpec : ChangeSpec := { name := "fnExactReadPath", fn := fun _ => fun
  | [d1, d2] => { results := [.lit (.bool true)], args := [d1, d2] }
  | _ => none }
def fnExactReadPathRow : OpenClaim := { program := "ytiphndgmgpiodaa", sum := "066e0a0c7cb0fb7ee549d72cec0fc705413aeee14658a5d41fe9c28449de30d6", func := "loop.example/g00505/laws.FnExactReadPath", spec := "fnExactReadPath", apart := false }
def FnExactReadPathSaid : Prop := fnExactReadPathRow.holds Try.pinned (OpenSpec.ofChange fnExactReadPathSpec)

/-- ITS FALSE NEIGHBOUR: 'it returns false'. Refute it at one input. -/
def fnExactReadPathWrong : ChangeSpec := { name := "fnExactReadPath", fn := fun _ => fun
  | [d1, d2] => { results := [.lit (.bool false)], args := [d1, d2] }
  | _ => none }
def FnExactReadPathWrongFalsely : Prop := fnExactReadPathRow.holds Try.pinned (OpenSpec.ofChange fnExactReadPathWrong)

/-- 'laws.FnExactPathFromInts': WHATEVER THE INPUT: true; the input reads as it did. -/
def fnExactPathFromIntsSpec : ChangeSpec := { name := "fnExactPathFromInts", fn := fun _ => fun
  | [d] => { results := [.lit (.bool true)], args := [d] }
  | _ => none }
def fnExactPathFromIntsRow : OpenClaim := { program := "ytiphndgmgpiodaa", sum := "066e0a0c7cb0fb7ee549d72cec0fc705413aeee14658a5d41fe9c28449de30d6", func := "loop.example/g00505/laws.FnExactPathFromInts", spec := "fnExactPathFromInts", apart := false }
def FnExactPathFromIntsSaid : Prop := fnExactPathFromIntsRow.holds Try.pinned (OpenSpec.ofChange fnExactPathFromIntsSpec)

/-- ITS FALSE NEIGHBOUR: 'it returns false'. Refute it at one input. -/
def fnExactPathFromIntsWrong : ChangeSpec := { name := "fnExactPathFromInts", fn := fun _ => fun
  | [d] => { results := [.lit (.bool false)], args := [d] }
  | _ => none }
def FnExactPathFromIntsWrongFalsely : Prop := fnExactPathFromIntsRow.holds Try.pinned (OpenSpec.ofChange fnExactPathFromIntsWrong)

/- THE SECOND FORM. 'bulk': how many values and letters a reading holds, each counted each time it is reached (what is shared counts as often as it is met; a slice's spare places count too). A statement '..UptoSaid' is the law's where the arguments, and the package variables that the reading takes, are together of bulk at most 1048576: NARROWER than '..Said'. Prove '..Said' where nothing that the law and all that it calls make is longer than what came in: it says more and counts as full. Else prove '..UptoSaid'. A law counts once. -/
mutual
def uptoBulk {H : Type} : DataW H → Nat
  | .lit (.string bytes) => bytes.length + 1
  | .lit _ => 1
  | .nil => 1
  | .ptr d => uptoBulk d + 1
  | .slice elems spare => uptoBulkAll elems + uptoBulkAll spare + 1
  | .agg parts => uptoBulkAll parts + 1
  | .iface _ d => uptoBulk d + 1
  | .map entries => uptoBulkEntries entries + 1
  | .held _ => 1
def uptoBulkAll {H : Type} : List (DataW H) → Nat
  | [] => 0
  | d :: r => uptoBulk d + uptoBulkAll r
def uptoBulkEntries {H : Type} : List (Lit × DataW H) → Nat
  | [] => 0
  | x :: r => uptoBulkEntry x + uptoBulkEntries r
def uptoBulkEntry {H : Type} : Lit × DataW H → Nat
  | (.string bytes, d) => bytes.length + uptoBulk d + 1
  | (_, d) => uptoBulk d + 1
 end
def uptoSmall : (H : Type) → List (DataW H) → Bool := fun _ ds => decide (uptoBulkAll ds ≤ 1048576)
def OpenSpec.upto (s : _root_.Go.ChangeSpec) : _root_.Go.OpenSpec := { _root_.Go.OpenSpec.ofChange s with cond := some uptoSmall }

/-- 'laws.FnExactReadHop', WHERE WHAT IT READS IS OF BULK AT MOST 1048576: true; the input reads as it did. -/
def fnExactReadHopUptoRow : OpenClaim := { program := "ytiphndgmgpiodaa", sum := "066e0a0c7cb0fb7ee549d72cec0fc705413aeee14658a5d41fe9c28449de30d6", func := "loop.example/g00505/laws.FnExactReadHop", spec := "fnExactReadHop", apart := false, narrowed := true }
def FnExactReadHopUptoSaid : Prop := fnExactReadHopUptoRow.holds Try.pinned (OpenSpec.upto fnExactReadHopSpec)

/-- 'laws.FnExactReadSegment', WHERE WHAT IT READS IS OF BULK AT MOST 1048576: true; the input reads as it did. -/
def fnExactReadSegmentUptoRow : OpenClaim := { program := "ytiphndgmgpiodaa", sum := "066e0a0c7cb0fb7ee549d72cec0fc705413aeee14658a5d41fe9c28449de30d6", func := "loop.example/g00505/laws.FnExactReadSegment", spec := "fnExactReadSegment", apart := false, narrowed := true }
def FnExactReadSegmentUptoSaid : Prop := fnExactReadSegmentUptoRow.holds Try.pinned (OpenSpec.upto fnExactReadSegmentSpec)

/-- 'laws.FnExactFirstBadSignature', WHERE WHAT IT READS IS OF BULK AT MOST 1048576: true; the input reads as it did. -/
def fnExactFirstBadSignatureUptoRow : OpenClaim := { program := "ytiphndgmgpiodaa", sum := "066e0a0c7cb0fb7ee549d72cec0fc705413aeee14658a5d41fe9c28449de30d6", func := "loop.example/g00505/laws.FnExactFirstBadSignature", spec := "fnExactFirstBadSignature", unfollowed := true, recurses := true, apart := false, narrowed := true }
def FnExactFirstBadSignatureUptoSaid : Prop := fnExactFirstBadSignatureUptoRow.holds Try.pinned (OpenSpec.upto fnExactFirstBadSignatureSpec)

/-- 'laws.FnExactTruncateSigned', WHERE WHAT IT READS IS OF BULK AT MOST 1048576: true; the input reads as it did. -/
def fnExactTruncateSignedUptoRow : OpenClaim := { program := "ytiphndgmgpiodaa", sum := "066e0a0c7cb0fb7ee549d72cec0fc705413aeee14658a5d41fe9c28449de30d6", func := "loop.example/g00505/laws.FnExactTruncateSigned", spec := "fnExactTruncateSigned", apart := false, narrowed := true }
def FnExactTruncateSignedUptoSaid : Prop := fnExactTruncateSignedUptoRow.holds Try.pinned (OpenSpec.upto fnExactTruncateSignedSpec)

/-- 'laws.FnExactSignedDataSize', WHERE WHAT IT READS IS OF BULK AT MOST 1048576: true; the input reads as it did. -/
def fnExactSignedDataSizeUptoRow : OpenClaim := { program := "ytiphndgmgpiodaa", sum := "066e0a0c7cb0fb7ee549d72cec0fc705413aeee14658a5d41fe9c28449de30d6", func := "loop.example/g00505/laws.FnExactSignedDataSize", spec := "fnExactSignedDataSize", unfollowed := true, recurses := true, apart := false, narrowed := true }
def FnExactSignedDataSizeUptoSaid : Prop := fnExactSignedDataSizeUptoRow.holds Try.pinned (OpenSpec.upto fnExactSignedDataSizeSpec)

/-- 'laws.FnExactBetterPath', WHERE WHAT IT READS IS OF BULK AT MOST 1048576: true; the input reads as it did. -/
def fnExactBetterPathUptoRow : OpenClaim := { program := "ytiphndgmgpiodaa", sum := "066e0a0c7cb0fb7ee549d72cec0fc705413aeee14658a5d41fe9c28449de30d6", func := "loop.example/g00505/laws.FnExactBetterPath", spec := "fnExactBetterPath", unfollowed := true, recurses := true, apart := false, narrowed := true }
def FnExactBetterPathUptoSaid : Prop := fnExactBetterPathUptoRow.holds Try.pinned (OpenSpec.upto fnExactBetterPathSpec)

/-- 'laws.FnExactReadPath', WHERE WHAT IT READS IS OF BULK AT MOST 1048576: true; the input reads as it did. -/
def fnExactReadPathUptoRow : OpenClaim := { program := "ytiphndgmgpiodaa", sum := "066e0a0c7cb0fb7ee549d72cec0fc705413aeee14658a5d41fe9c28449de30d6", func := "loop.example/g00505/laws.FnExactReadPath", spec := "fnExactReadPath", apart := false, narrowed := true }
def FnExactReadPathUptoSaid : Prop := fnExactReadPathUptoRow.holds Try.pinned (OpenSpec.upto fnExactReadPathSpec)

/-- 'laws.FnExactPathFromInts', WHERE WHAT IT READS IS OF BULK AT MOST 1048576: true; the input reads as it did. -/
def fnExactPathFromIntsUptoRow : OpenClaim := { program := "ytiphndgmgpiodaa", sum := "066e0a0c7cb0fb7ee549d72cec0fc705413aeee14658a5d41fe9c28449de30d6", func := "loop.example/g00505/laws.FnExactPathFromInts", spec := "fnExactPathFromInts", apart := false, narrowed := true }
def FnExactPathFromIntsUptoSaid : Prop := fnExactPathFromIntsUptoRow.holds Try.pinned (OpenSpec.upto fnExactPathFromIntsSpec)

end Rows
end Go.Proofs.Ytiphndgmgpiodaa
