/-
  No cell of these rows narrows 'for every input' (looked for: loops, veiled, ifaces, maps, wideKeys, modest, calm, conditions, laid).
  DERIVED. THE GIVEN ROWS OF THIS SEAT. 12 by the template 'for every input the law returns true; each argument reads behind the call as it read before'; 0 by the template 'total and deterministic' (their statements: YtpiilbcdiejjfaaTotals.lean).
  GIVEN WITH THE SEED: the statements are not yours to turn. If you find one false, say at which input.
  Laid BY PROGRAM, IN A SANDBOX (cutbox-rows.mjs): the forced cells as the released guide's own fill.sh prints them over the translation da7bae021bbf22ae… (all of the seat's roots in one cut). By AI agents, Wed Nov 11 2026. No macro, syntax, notation, axiom, sorry.
-/
import Derived.Test.YtpiilbcdiejjfaaChecked
import GoSem.Claim
import GoSem.ClaimJoined
import GoSem.ClaimMapViews
import Derived.JoinedTies
import Derived.KernelRfl
namespace Go.Proofs.Ytpiilbcdiejjfaa
/- THE CELL 'sum', in the pinned program and in every row, IS THE sha256 OF THE DUMP (.gsa) THAT YtpiilbcdiejjfaaProg.lean LOADS. Nothing in Lean hashes anything: it is a label: what it is worth is what the hold of that sum in a sandbox is worth. -/
noncomputable def Try.pinned : Pinned := { name := "ytpiilbcdiejjfaa", sum := "da7bae021bbf22ae07847c86fd764ce8560f4fdf1fef7f6b68c5ba06833673e1", checked := Try.checked }
namespace Rows
def none {H : Type} : Left H := { results := [], args := [] }

/-- 'laws.FnExactAppendHop': WHATEVER THE INPUT: true; the input reads as it did. -/
def fnExactAppendHopSpec : ChangeSpec := { name := "fnExactAppendHop", fn := fun _ => fun
  | [d1, d2] => { results := [.lit (.bool true)], args := [d1, d2] }
  | _ => none }
def fnExactAppendHopRow : OpenClaim := { program := "ytpiilbcdiejjfaa", sum := "da7bae021bbf22ae07847c86fd764ce8560f4fdf1fef7f6b68c5ba06833673e1", func := "loop.example/g00505/laws.FnExactAppendHop", spec := "fnExactAppendHop", apart := false }
def FnExactAppendHopSaid : Prop := fnExactAppendHopRow.holds Try.pinned (OpenSpec.ofChange fnExactAppendHopSpec)

/-- ITS FALSE NEIGHBOUR: 'it returns false'. Refute it at one input. -/
def fnExactAppendHopWrong : ChangeSpec := { name := "fnExactAppendHop", fn := fun _ => fun
  | [d1, d2] => { results := [.lit (.bool false)], args := [d1, d2] }
  | _ => none }
def FnExactAppendHopWrongFalsely : Prop := fnExactAppendHopRow.holds Try.pinned (OpenSpec.ofChange fnExactAppendHopWrong)

/-- 'laws.FnExactReadHop': WHATEVER THE INPUT: true; the input reads as it did. -/
def fnExactReadHopSpec : ChangeSpec := { name := "fnExactReadHop", fn := fun _ => fun
  | [d1, d2] => { results := [.lit (.bool true)], args := [d1, d2] }
  | _ => none }
def fnExactReadHopRow : OpenClaim := { program := "ytpiilbcdiejjfaa", sum := "da7bae021bbf22ae07847c86fd764ce8560f4fdf1fef7f6b68c5ba06833673e1", func := "loop.example/g00505/laws.FnExactReadHop", spec := "fnExactReadHop", apart := false }
def FnExactReadHopSaid : Prop := fnExactReadHopRow.holds Try.pinned (OpenSpec.ofChange fnExactReadHopSpec)

/-- ITS FALSE NEIGHBOUR: 'it returns false'. Refute it at one input. -/
def fnExactReadHopWrong : ChangeSpec := { name := "fnExactReadHop", fn := fun _ => fun
  | [d1, d2] => { results := [.lit (.bool false)], args := [d1, d2] }
  | _ => none }
def FnExactReadHopWrongFalsely : Prop := fnExactReadHopRow.holds Try.pinned (OpenSpec.ofChange fnExactReadHopWrong)

/-- 'laws.FnExactAppendSegment': WHATEVER THE INPUT: true; the input reads as it did. -/
def fnExactAppendSegmentSpec : ChangeSpec := { name := "fnExactAppendSegment", fn := fun _ => fun
  | [d1, d2] => { results := [.lit (.bool true)], args := [d1, d2] }
  | _ => none }
def fnExactAppendSegmentRow : OpenClaim := { program := "ytpiilbcdiejjfaa", sum := "da7bae021bbf22ae07847c86fd764ce8560f4fdf1fef7f6b68c5ba06833673e1", func := "loop.example/g00505/laws.FnExactAppendSegment", spec := "fnExactAppendSegment", apart := false }
def FnExactAppendSegmentSaid : Prop := fnExactAppendSegmentRow.holds Try.pinned (OpenSpec.ofChange fnExactAppendSegmentSpec)

/-- ITS FALSE NEIGHBOUR: 'it returns false'. Refute it at one input. -/
def fnExactAppendSegmentWrong : ChangeSpec := { name := "fnExactAppendSegment", fn := fun _ => fun
  | [d1, d2] => { results := [.lit (.bool false)], args := [d1, d2] }
  | _ => none }
def FnExactAppendSegmentWrongFalsely : Prop := fnExactAppendSegmentRow.holds Try.pinned (OpenSpec.ofChange fnExactAppendSegmentWrong)

/-- 'laws.FnExactSegmentSize': WHATEVER THE INPUT: true; the input reads as it did. -/
def fnExactSegmentSizeSpec : ChangeSpec := { name := "fnExactSegmentSize", fn := fun _ => fun
  | [d] => { results := [.lit (.bool true)], args := [d] }
  | _ => none }
def fnExactSegmentSizeRow : OpenClaim := { program := "ytpiilbcdiejjfaa", sum := "da7bae021bbf22ae07847c86fd764ce8560f4fdf1fef7f6b68c5ba06833673e1", func := "loop.example/g00505/laws.FnExactSegmentSize", spec := "fnExactSegmentSize", apart := false }
def FnExactSegmentSizeSaid : Prop := fnExactSegmentSizeRow.holds Try.pinned (OpenSpec.ofChange fnExactSegmentSizeSpec)

/-- ITS FALSE NEIGHBOUR: 'it returns false'. Refute it at one input. -/
def fnExactSegmentSizeWrong : ChangeSpec := { name := "fnExactSegmentSize", fn := fun _ => fun
  | [d] => { results := [.lit (.bool false)], args := [d] }
  | _ => none }
def FnExactSegmentSizeWrongFalsely : Prop := fnExactSegmentSizeRow.holds Try.pinned (OpenSpec.ofChange fnExactSegmentSizeWrong)

/-- 'laws.FnExactSignedData': WHATEVER THE INPUT: true; the input reads as it did. -/
def fnExactSignedDataSpec : ChangeSpec := { name := "fnExactSignedData", fn := fun _ => fun
  | [d1, d2] => { results := [.lit (.bool true)], args := [d1, d2] }
  | _ => none }
def fnExactSignedDataRow : OpenClaim := { program := "ytpiilbcdiejjfaa", sum := "da7bae021bbf22ae07847c86fd764ce8560f4fdf1fef7f6b68c5ba06833673e1", func := "loop.example/g00505/laws.FnExactSignedData", spec := "fnExactSignedData", apart := false }
def FnExactSignedDataSaid : Prop := fnExactSignedDataRow.holds Try.pinned (OpenSpec.ofChange fnExactSignedDataSpec)

/-- ITS FALSE NEIGHBOUR: 'it returns false'. Refute it at one input. -/
def fnExactSignedDataWrong : ChangeSpec := { name := "fnExactSignedData", fn := fun _ => fun
  | [d1, d2] => { results := [.lit (.bool false)], args := [d1, d2] }
  | _ => none }
def FnExactSignedDataWrongFalsely : Prop := fnExactSignedDataRow.holds Try.pinned (OpenSpec.ofChange fnExactSignedDataWrong)

/-- 'laws.FnExactCertificateData': WHATEVER THE INPUT: true; the input reads as it did. -/
def fnExactCertificateDataSpec : ChangeSpec := { name := "fnExactCertificateData", fn := fun _ => fun
  | [d] => { results := [.lit (.bool true)], args := [d] }
  | _ => none }
def fnExactCertificateDataRow : OpenClaim := { program := "ytpiilbcdiejjfaa", sum := "da7bae021bbf22ae07847c86fd764ce8560f4fdf1fef7f6b68c5ba06833673e1", func := "loop.example/g00505/laws.FnExactCertificateData", spec := "fnExactCertificateData", apart := false }
def FnExactCertificateDataSaid : Prop := fnExactCertificateDataRow.holds Try.pinned (OpenSpec.ofChange fnExactCertificateDataSpec)

/-- ITS FALSE NEIGHBOUR: 'it returns false'. Refute it at one input. -/
def fnExactCertificateDataWrong : ChangeSpec := { name := "fnExactCertificateData", fn := fun _ => fun
  | [d] => { results := [.lit (.bool false)], args := [d] }
  | _ => none }
def FnExactCertificateDataWrongFalsely : Prop := fnExactCertificateDataRow.holds Try.pinned (OpenSpec.ofChange fnExactCertificateDataWrong)

/-- 'laws.FnExactSignedDataSize': WHATEVER THE INPUT: true; the input reads as it did. -/
def fnExactSignedDataSizeSpec : ChangeSpec := { name := "fnExactSignedDataSize", fn := fun _ => fun
  | [d] => { results := [.lit (.bool true)], args := [d] }
  | _ => none }
def fnExactSignedDataSizeRow : OpenClaim := { program := "ytpiilbcdiejjfaa", sum := "da7bae021bbf22ae07847c86fd764ce8560f4fdf1fef7f6b68c5ba06833673e1", func := "loop.example/g00505/laws.FnExactSignedDataSize", spec := "fnExactSignedDataSize", unfollowed := true, recurses := true, apart := false }
def FnExactSignedDataSizeSaid : Prop := fnExactSignedDataSizeRow.holds Try.pinned (OpenSpec.ofChange fnExactSignedDataSizeSpec)

/-- ITS FALSE NEIGHBOUR: 'it returns false'. Refute it at one input. -/
def fnExactSignedDataSizeWrong : ChangeSpec := { name := "fnExactSignedDataSize", fn := fun _ => fun
  | [d] => { results := [.lit (.bool false)], args := [d] }
  | _ => none }
def FnExactSignedDataSizeWrongFalsely : Prop := fnExactSignedDataSizeRow.holds Try.pinned (OpenSpec.ofChange fnExactSignedDataSizeWrong)

/-- 'laws.FnExactBetterPath': WHATEVER THE INPUT: true; the input reads as it did. -/
def fnExactBetterPathSpec : ChangeSpec := { name := "fnExactBetterPath", fn := fun _ => fun
  | [d1, d2] => { results := [.lit (.bool true)], args := [d1, d2] }
  | _ => none }
def fnExactBetterPathRow : OpenClaim := { program := "ytpiilbcdiejjfaa", sum := "da7bae021bbf22ae07847c86fd764ce8560f4fdf1fef7f6b68c5ba06833673e1", func := "loop.example/g00505/laws.FnExactBetterPath", spec := "fnExactBetterPath", unfollowed := true, recurses := true, apart := false }
def FnExactBetterPathSaid : Prop := fnExactBetterPathRow.holds Try.pinned (OpenSpec.ofChange fnExactBetterPathSpec)

/-- ITS FALSE NEIGHBOUR: 'it returns false'. Refute it at one input. -/
def fnExactBetterPathWrong : ChangeSpec := { name := "fnExactBetterPath", fn := fun _ => fun
  | [d1, d2] => { results := [.lit (.bool false)], args := [d1, d2] }
  | _ => none }
def FnExactBetterPathWrongFalsely : Prop := fnExactBetterPathRow.holds Try.pinned (OpenSpec.ofChange fnExactBetterPathWrong)

/-- 'laws.FnExactPathDigest': WHATEVER THE INPUT: true; the input reads as it did. -/
def fnExactPathDigestSpec : ChangeSpec := { name := "fnExactPathDigest", fn := fun _ => fun
  | [d] => { results := [.lit (.bool true)], args := [d] }
  | _ => none }
def fnExactPathDigestRow : OpenClaim := { program := "ytpiilbcdiejjfaa", sum := "da7bae021bbf22ae07847c86fd764ce8560f4fdf1fef7f6b68c5ba06833673e1", func := "loop.example/g00505/laws.FnExactPathDigest", spec := "fnExactPathDigest", apart := false }
def FnExactPathDigestSaid : Prop := fnExactPathDigestRow.holds Try.pinned (OpenSpec.ofChange fnExactPathDigestSpec)

/-- ITS FALSE NEIGHBOUR: 'it returns false'. Refute it at one input. -/
def fnExactPathDigestWrong : ChangeSpec := { name := "fnExactPathDigest", fn := fun _ => fun
  | [d] => { results := [.lit (.bool false)], args := [d] }
  | _ => none }
def FnExactPathDigestWrongFalsely : Prop := fnExactPathDigestRow.holds Try.pinned (OpenSpec.ofChange fnExactPathDigestWrong)

/-- 'laws.FnExactAppendPath': WHATEVER THE INPUT: true; the input reads as it did. -/
def fnExactAppendPathSpec : ChangeSpec := { name := "fnExactAppendPath", fn := fun _ => fun
  | [d1, d2] => { results := [.lit (.bool true)], args := [d1, d2] }
  | _ => none }
def fnExactAppendPathRow : OpenClaim := { program := "ytpiilbcdiejjfaa", sum := "da7bae021bbf22ae07847c86fd764ce8560f4fdf1fef7f6b68c5ba06833673e1", func := "loop.example/g00505/laws.FnExactAppendPath", spec := "fnExactAppendPath", apart := false }
def FnExactAppendPathSaid : Prop := fnExactAppendPathRow.holds Try.pinned (OpenSpec.ofChange fnExactAppendPathSpec)

/-- ITS FALSE NEIGHBOUR: 'it returns false'. Refute it at one input. -/
def fnExactAppendPathWrong : ChangeSpec := { name := "fnExactAppendPath", fn := fun _ => fun
  | [d1, d2] => { results := [.lit (.bool false)], args := [d1, d2] }
  | _ => none }
def FnExactAppendPathWrongFalsely : Prop := fnExactAppendPathRow.holds Try.pinned (OpenSpec.ofChange fnExactAppendPathWrong)

/-- 'laws.FnExactPathSize': WHATEVER THE INPUT: true; the input reads as it did. -/
def fnExactPathSizeSpec : ChangeSpec := { name := "fnExactPathSize", fn := fun _ => fun
  | [d] => { results := [.lit (.bool true)], args := [d] }
  | _ => none }
def fnExactPathSizeRow : OpenClaim := { program := "ytpiilbcdiejjfaa", sum := "da7bae021bbf22ae07847c86fd764ce8560f4fdf1fef7f6b68c5ba06833673e1", func := "loop.example/g00505/laws.FnExactPathSize", spec := "fnExactPathSize", apart := false }
def FnExactPathSizeSaid : Prop := fnExactPathSizeRow.holds Try.pinned (OpenSpec.ofChange fnExactPathSizeSpec)

/-- ITS FALSE NEIGHBOUR: 'it returns false'. Refute it at one input. -/
def fnExactPathSizeWrong : ChangeSpec := { name := "fnExactPathSize", fn := fun _ => fun
  | [d] => { results := [.lit (.bool false)], args := [d] }
  | _ => none }
def FnExactPathSizeWrongFalsely : Prop := fnExactPathSizeRow.holds Try.pinned (OpenSpec.ofChange fnExactPathSizeWrong)

/-- 'laws.FnExactPathInts': WHATEVER THE INPUT: true; the input reads as it did. -/
def fnExactPathIntsSpec : ChangeSpec := { name := "fnExactPathInts", fn := fun _ => fun
  | [d] => { results := [.lit (.bool true)], args := [d] }
  | _ => none }
def fnExactPathIntsRow : OpenClaim := { program := "ytpiilbcdiejjfaa", sum := "da7bae021bbf22ae07847c86fd764ce8560f4fdf1fef7f6b68c5ba06833673e1", func := "loop.example/g00505/laws.FnExactPathInts", spec := "fnExactPathInts", apart := false }
def FnExactPathIntsSaid : Prop := fnExactPathIntsRow.holds Try.pinned (OpenSpec.ofChange fnExactPathIntsSpec)

/-- ITS FALSE NEIGHBOUR: 'it returns false'. Refute it at one input. -/
def fnExactPathIntsWrong : ChangeSpec := { name := "fnExactPathInts", fn := fun _ => fun
  | [d] => { results := [.lit (.bool false)], args := [d] }
  | _ => none }
def FnExactPathIntsWrongFalsely : Prop := fnExactPathIntsRow.holds Try.pinned (OpenSpec.ofChange fnExactPathIntsWrong)

/- THE SECOND FORM. 'bulk': how many values and letters a reading holds, each counted each time it is reached (what is shared counts as often as it is met; a slice's spare places count too). A statement '..UptoSaid' is the law's where the arguments, and the package variables that the reading takes, are together of bulk at most 1048576: NARROWER than '..Said'. Prove '..Said' where nothing that the law and all that it calls make is longer than what came in: it says more and counts as full. Else prove '..UptoSaid'. A law counts once. -/
mutual
def uptoBulk {H : Type} : DataW H → Nat
  | .lit (.string bytes) => bytes.length + 1
  | .lit _ => 1
  | .nil => 1
  | .ptr d => uptoBulk d + 1
  | .slice elems spare => uptoBulkAll elems + uptoBulkAll spare + 1
  | .agg parts => uptoBulkAll parts + 1
  | .iface _ d => uptoBulk d + 1
  | .map entries => uptoBulkEntries entries + 1
  | .held _ => 1
def uptoBulkAll {H : Type} : List (DataW H) → Nat
  | [] => 0
  | d :: r => uptoBulk d + uptoBulkAll r
def uptoBulkEntries {H : Type} : List (Lit × DataW H) → Nat
  | [] => 0
  | x :: r => uptoBulkEntry x + uptoBulkEntries r
def uptoBulkEntry {H : Type} : Lit × DataW H → Nat
  | (.string bytes, d) => bytes.length + uptoBulk d + 1
  | (_, d) => uptoBulk d + 1
 end
def uptoSmall : (H : Type) → List (DataW H) → Bool := fun _ ds => decide (uptoBulkAll ds ≤ 1048576)
def OpenSpec.upto (s : _root_.Go.ChangeSpec) : _root_.Go.OpenSpec := { _root_.Go.OpenSpec.ofChange s with cond := some uptoSmall }

/-- 'laws.FnExactAppendHop', WHERE WHAT IT READS IS OF BULK AT MOST 1048576: true; the input reads as it did. -/
def fnExactAppendHopUptoRow : OpenClaim := { program := "ytpiilbcdiejjfaa", sum := "da7bae021bbf22ae07847c86fd764ce8560f4fdf1fef7f6b68c5ba06833673e1", func := "loop.example/g00505/laws.FnExactAppendHop", spec := "fnExactAppendHop", apart := false, narrowed := true }
def FnExactAppendHopUptoSaid : Prop := fnExactAppendHopUptoRow.holds Try.pinned (OpenSpec.upto fnExactAppendHopSpec)

/-- 'laws.FnExactReadHop', WHERE WHAT IT READS IS OF BULK AT MOST 1048576: true; the input reads as it did. -/
def fnExactReadHopUptoRow : OpenClaim := { program := "ytpiilbcdiejjfaa", sum := "da7bae021bbf22ae07847c86fd764ce8560f4fdf1fef7f6b68c5ba06833673e1", func := "loop.example/g00505/laws.FnExactReadHop", spec := "fnExactReadHop", apart := false, narrowed := true }
def FnExactReadHopUptoSaid : Prop := fnExactReadHopUptoRow.holds Try.pinned (OpenSpec.upto fnExactReadHopSpec)

/-- 'laws.FnExactAppendSegment', WHERE WHAT IT READS IS OF BULK AT MOST 1048576: true; the input reads as it did. -/
def fnExactAppendSegmentUptoRow : OpenClaim := { program := "ytpiilbcdiejjfaa", sum := "da7bae021bbf22ae07847c86fd764ce8560f4fdf1fef7f6b68c5ba06833673e1", func := "loop.example/g00505/laws.FnExactAppendSegment", spec := "fnExactAppendSegment", apart := false, narrowed := true }
def FnExactAppendSegmentUptoSaid : Prop := fnExactAppendSegmentUptoRow.holds Try.pinned (OpenSpec.upto fnExactAppendSegmentSpec)

/-- 'laws.FnExactSegmentSize', WHERE WHAT IT READS IS OF BULK AT MOST 1048576: true; the input reads as it did. -/
def fnExactSegmentSizeUptoRow : OpenClaim := { program := "ytpiilbcdiejjfaa", sum := "da7bae021bbf22ae07847c86fd764ce8560f4fdf1fef7f6b68c5ba06833673e1", func := "loop.example/g00505/laws.FnExactSegmentSize", spec := "fnExactSegmentSize", apart := false, narrowed := true }
def FnExactSegmentSizeUptoSaid : Prop := fnExactSegmentSizeUptoRow.holds Try.pinned (OpenSpec.upto fnExactSegmentSizeSpec)

/-- 'laws.FnExactSignedData', WHERE WHAT IT READS IS OF BULK AT MOST 1048576: true; the input reads as it did. -/
def fnExactSignedDataUptoRow : OpenClaim := { program := "ytpiilbcdiejjfaa", sum := "da7bae021bbf22ae07847c86fd764ce8560f4fdf1fef7f6b68c5ba06833673e1", func := "loop.example/g00505/laws.FnExactSignedData", spec := "fnExactSignedData", apart := false, narrowed := true }
def FnExactSignedDataUptoSaid : Prop := fnExactSignedDataUptoRow.holds Try.pinned (OpenSpec.upto fnExactSignedDataSpec)

/-- 'laws.FnExactCertificateData', WHERE WHAT IT READS IS OF BULK AT MOST 1048576: true; the input reads as it did. -/
def fnExactCertificateDataUptoRow : OpenClaim := { program := "ytpiilbcdiejjfaa", sum := "da7bae021bbf22ae07847c86fd764ce8560f4fdf1fef7f6b68c5ba06833673e1", func := "loop.example/g00505/laws.FnExactCertificateData", spec := "fnExactCertificateData", apart := false, narrowed := true }
def FnExactCertificateDataUptoSaid : Prop := fnExactCertificateDataUptoRow.holds Try.pinned (OpenSpec.upto fnExactCertificateDataSpec)

/-- 'laws.FnExactSignedDataSize', WHERE WHAT IT READS IS OF BULK AT MOST 1048576: true; the input reads as it did. -/
def fnExactSignedDataSizeUptoRow : OpenClaim := { program := "ytpiilbcdiejjfaa", sum := "da7bae021bbf22ae07847c86fd764ce8560f4fdf1fef7f6b68c5ba06833673e1", func := "loop.example/g00505/laws.FnExactSignedDataSize", spec := "fnExactSignedDataSize", unfollowed := true, recurses := true, apart := false, narrowed := true }
def FnExactSignedDataSizeUptoSaid : Prop := fnExactSignedDataSizeUptoRow.holds Try.pinned (OpenSpec.upto fnExactSignedDataSizeSpec)

/-- 'laws.FnExactBetterPath', WHERE WHAT IT READS IS OF BULK AT MOST 1048576: true; the input reads as it did. -/
def fnExactBetterPathUptoRow : OpenClaim := { program := "ytpiilbcdiejjfaa", sum := "da7bae021bbf22ae07847c86fd764ce8560f4fdf1fef7f6b68c5ba06833673e1", func := "loop.example/g00505/laws.FnExactBetterPath", spec := "fnExactBetterPath", unfollowed := true, recurses := true, apart := false, narrowed := true }
def FnExactBetterPathUptoSaid : Prop := fnExactBetterPathUptoRow.holds Try.pinned (OpenSpec.upto fnExactBetterPathSpec)

/-- 'laws.FnExactPathDigest', WHERE WHAT IT READS IS OF BULK AT MOST 1048576: true; the input reads as it did. -/
def fnExactPathDigestUptoRow : OpenClaim := { program := "ytpiilbcdiejjfaa", sum := "da7bae021bbf22ae07847c86fd764ce8560f4fdf1fef7f6b68c5ba06833673e1", func := "loop.example/g00505/laws.FnExactPathDigest", spec := "fnExactPathDigest", apart := false, narrowed := true }
def FnExactPathDigestUptoSaid : Prop := fnExactPathDigestUptoRow.holds Try.pinned (OpenSpec.upto fnExactPathDigestSpec)

/-- 'laws.FnExactAppendPath', WHERE WHAT IT READS IS OF BULK AT MOST 1048576: true; the input reads as it did. -/
def fnExactAppendPathUptoRow : OpenClaim := { program := "ytpiilbcdiejjfaa", sum := "da7bae021bbf22ae07847c86fd764ce8560f4fdf1fef7f6b68c5ba06833673e1", func := "loop.example/g00505/laws.FnExactAppendPath", spec := "fnExactAppendPath", apart := false, narrowed := true }
def FnExactAppendPathUptoSaid : Prop := fnExactAppendPathUptoRow.holds Try.pinned (OpenSpec.upto fnExactAppendPathSpec)

/-- 'laws.FnExactPathSize', WHERE WHAT IT READS IS OF BULK AT MOST 1048576: true; the input reads as it did. -/
def fnExactPathSizeUptoRow : OpenClaim := { program := "ytpiilbcdiejjfaa", sum := "da7bae021bbf22ae07847c86fd764ce8560f4fdf1fef7f6b68c5ba06833673e1", func := "loop.example/g00505/laws.FnExactPathSize", spec := "fnExactPathSize", apart := false, narrowed := true }
def FnExactPathSizeUptoSaid : Prop := fnExactPathSizeUptoRow.holds Try.pinned (OpenSpec.upto fnExactPathSizeSpec)

/-- 'laws.FnExactPathInts', WHERE WHAT IT READS IS OF BULK AT MOST 1048576: true; the input reads as it did. -/
def fnExactPathIntsUptoRow : OpenClaim := { program := "ytpiilbcdiejjfaa", sum := "da7bae021bbf22ae07847c86fd764ce8560f4fdf1fef7f6b68c5ba06833673e1", func := "loop.example/g00505/laws.FnExactPathInts", spec := "fnExactPathInts", apart := false, narrowed := true }
def FnExactPathIntsUptoSaid : Prop := fnExactPathIntsUptoRow.holds Try.pinned (OpenSpec.upto fnExactPathIntsSpec)

end Rows
end Go.Proofs.Ytpiilbcdiejjfaa
