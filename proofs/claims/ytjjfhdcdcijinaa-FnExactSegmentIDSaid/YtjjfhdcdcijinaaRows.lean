/-
  No cell of these rows narrows 'for every input' (looked for: loops, veiled, ifaces, maps, wideKeys, modest, calm, conditions, laid).
  DERIVED. THE GIVEN ROWS OF THIS SEAT. 9 by the template 'for every input the law returns true; each argument reads behind the call as it read before'; 0 by the template 'total and deterministic' (their statements: YtjjfhdcdcijinaaTotals.lean).
  GIVEN WITH THE SEED: the statements are not yours to turn. If you find one false, say at which input.
  Laid BY PROGRAM, IN A SANDBOX (cutbox-rows.mjs): the forced cells as the released guide's own fill.sh prints them over the translation 05dcce23a8041476… (all of the seat's roots in one cut). By AI agents, Wed Nov 11 2026. No macro, syntax, notation, axiom, sorry.
-/
import Derived.Test.YtjjfhdcdcijinaaChecked
import GoSem.Claim
import GoSem.ClaimJoined
import GoSem.ClaimMapViews
import Derived.JoinedTies
import Derived.KernelRfl
namespace Go.Proofs.Ytjjfhdcdcijinaa
/- THE CELL 'sum', in the pinned program and in every row, IS THE sha256 OF THE DUMP (.gsa) THAT YtjjfhdcdcijinaaProg.lean LOADS. Nothing in Lean hashes anything: it is a label: what it is worth is what the hold of that sum in a sandbox is worth. -/
noncomputable def Try.pinned : Pinned := { name := "ytjjfhdcdcijinaa", sum := "05dcce23a8041476ec267439c0e42afb4ea7f01b02a9f92c3c394514544c9e75", checked := Try.checked }
namespace Rows
def none {H : Type} : Left H := { results := [], args := [] }

/-- 'laws.FnExactSegmentCount': WHATEVER THE INPUT: true; the input reads as it did. -/
def fnExactSegmentCountSpec : ChangeSpec := { name := "fnExactSegmentCount", fn := fun _ => fun
  | [d] => { results := [.lit (.bool true)], args := [d] }
  | _ => none }
def fnExactSegmentCountRow : OpenClaim := { program := "ytjjfhdcdcijinaa", sum := "05dcce23a8041476ec267439c0e42afb4ea7f01b02a9f92c3c394514544c9e75", func := "loop.example/g00505/laws.FnExactSegmentCount", spec := "fnExactSegmentCount", apart := false }
def FnExactSegmentCountSaid : Prop := fnExactSegmentCountRow.holds Try.pinned (OpenSpec.ofChange fnExactSegmentCountSpec)

/-- ITS FALSE NEIGHBOUR: 'it returns false'. Refute it at one input. -/
def fnExactSegmentCountWrong : ChangeSpec := { name := "fnExactSegmentCount", fn := fun _ => fun
  | [d] => { results := [.lit (.bool false)], args := [d] }
  | _ => none }
def FnExactSegmentCountWrongFalsely : Prop := fnExactSegmentCountRow.holds Try.pinned (OpenSpec.ofChange fnExactSegmentCountWrong)

/-- 'laws.FnExactHasSegment': WHATEVER THE INPUT: true; the input reads as it did. -/
def fnExactHasSegmentSpec : ChangeSpec := { name := "fnExactHasSegment", fn := fun _ => fun
  | [d1, d2] => { results := [.lit (.bool true)], args := [d1, d2] }
  | _ => none }
def fnExactHasSegmentRow : OpenClaim := { program := "ytjjfhdcdcijinaa", sum := "05dcce23a8041476ec267439c0e42afb4ea7f01b02a9f92c3c394514544c9e75", func := "loop.example/g00505/laws.FnExactHasSegment", spec := "fnExactHasSegment", unfollowed := true, recurses := true, apart := false }
def FnExactHasSegmentSaid : Prop := fnExactHasSegmentRow.holds Try.pinned (OpenSpec.ofChange fnExactHasSegmentSpec)

/-- ITS FALSE NEIGHBOUR: 'it returns false'. Refute it at one input. -/
def fnExactHasSegmentWrong : ChangeSpec := { name := "fnExactHasSegment", fn := fun _ => fun
  | [d1, d2] => { results := [.lit (.bool false)], args := [d1, d2] }
  | _ => none }
def FnExactHasSegmentWrongFalsely : Prop := fnExactHasSegmentRow.holds Try.pinned (OpenSpec.ofChange fnExactHasSegmentWrong)

/-- 'laws.FnExactSegmentID': WHATEVER THE INPUT: true; the input reads as it did. -/
def fnExactSegmentIDSpec : ChangeSpec := { name := "fnExactSegmentID", fn := fun _ => fun
  | [d] => { results := [.lit (.bool true)], args := [d] }
  | _ => none }
def fnExactSegmentIDRow : OpenClaim := { program := "ytjjfhdcdcijinaa", sum := "05dcce23a8041476ec267439c0e42afb4ea7f01b02a9f92c3c394514544c9e75", func := "loop.example/g00505/laws.FnExactSegmentID", spec := "fnExactSegmentID", apart := false }
def FnExactSegmentIDSaid : Prop := fnExactSegmentIDRow.holds Try.pinned (OpenSpec.ofChange fnExactSegmentIDSpec)

/-- ITS FALSE NEIGHBOUR: 'it returns false'. Refute it at one input. -/
def fnExactSegmentIDWrong : ChangeSpec := { name := "fnExactSegmentID", fn := fun _ => fun
  | [d] => { results := [.lit (.bool false)], args := [d] }
  | _ => none }
def FnExactSegmentIDWrongFalsely : Prop := fnExactSegmentIDRow.holds Try.pinned (OpenSpec.ofChange fnExactSegmentIDWrong)

/-- 'laws.FnExactWellFormed': WHATEVER THE INPUT: true; the input reads as it did. -/
def fnExactWellFormedSpec : ChangeSpec := { name := "fnExactWellFormed", fn := fun _ => fun
  | [d1, d2] => { results := [.lit (.bool true)], args := [d1, d2] }
  | _ => none }
def fnExactWellFormedRow : OpenClaim := { program := "ytjjfhdcdcijinaa", sum := "05dcce23a8041476ec267439c0e42afb4ea7f01b02a9f92c3c394514544c9e75", func := "loop.example/g00505/laws.FnExactWellFormed", spec := "fnExactWellFormed", apart := false }
def FnExactWellFormedSaid : Prop := fnExactWellFormedRow.holds Try.pinned (OpenSpec.ofChange fnExactWellFormedSpec)

/-- ITS FALSE NEIGHBOUR: 'it returns false'. Refute it at one input. -/
def fnExactWellFormedWrong : ChangeSpec := { name := "fnExactWellFormed", fn := fun _ => fun
  | [d1, d2] => { results := [.lit (.bool false)], args := [d1, d2] }
  | _ => none }
def FnExactWellFormedWrongFalsely : Prop := fnExactWellFormedRow.holds Try.pinned (OpenSpec.ofChange fnExactWellFormedWrong)

/-- 'laws.FnExactSegmentKind': WHATEVER THE INPUT: true; the input reads as it did. -/
def fnExactSegmentKindSpec : ChangeSpec := { name := "fnExactSegmentKind", fn := fun _ => fun
  | [d1, d2] => { results := [.lit (.bool true)], args := [d1, d2] }
  | _ => none }
def fnExactSegmentKindRow : OpenClaim := { program := "ytjjfhdcdcijinaa", sum := "05dcce23a8041476ec267439c0e42afb4ea7f01b02a9f92c3c394514544c9e75", func := "loop.example/g00505/laws.FnExactSegmentKind", spec := "fnExactSegmentKind", apart := false }
def FnExactSegmentKindSaid : Prop := fnExactSegmentKindRow.holds Try.pinned (OpenSpec.ofChange fnExactSegmentKindSpec)

/-- ITS FALSE NEIGHBOUR: 'it returns false'. Refute it at one input. -/
def fnExactSegmentKindWrong : ChangeSpec := { name := "fnExactSegmentKind", fn := fun _ => fun
  | [d1, d2] => { results := [.lit (.bool false)], args := [d1, d2] }
  | _ => none }
def FnExactSegmentKindWrongFalsely : Prop := fnExactSegmentKindRow.holds Try.pinned (OpenSpec.ofChange fnExactSegmentKindWrong)

/-- 'laws.FnExactSplice': WHATEVER THE INPUT: true; the input reads as it did. -/
def fnExactSpliceSpec : ChangeSpec := { name := "fnExactSplice", fn := fun _ => fun
  | [d1, d2, d3, d4] => { results := [.lit (.bool true)], args := [d1, d2, d3, d4] }
  | _ => none }
def fnExactSpliceRow : OpenClaim := { program := "ytjjfhdcdcijinaa", sum := "05dcce23a8041476ec267439c0e42afb4ea7f01b02a9f92c3c394514544c9e75", func := "loop.example/g00505/laws.FnExactSplice", spec := "fnExactSplice", apart := false }
def FnExactSpliceSaid : Prop := fnExactSpliceRow.holds Try.pinned (OpenSpec.ofChange fnExactSpliceSpec)

/-- ITS FALSE NEIGHBOUR: 'it returns false'. Refute it at one input. -/
def fnExactSpliceWrong : ChangeSpec := { name := "fnExactSplice", fn := fun _ => fun
  | [d1, d2, d3, d4] => { results := [.lit (.bool false)], args := [d1, d2, d3, d4] }
  | _ => none }
def FnExactSpliceWrongFalsely : Prop := fnExactSpliceRow.holds Try.pinned (OpenSpec.ofChange fnExactSpliceWrong)

/-- 'laws.FnExactStripMACs': WHATEVER THE INPUT: true; the input reads as it did. -/
def fnExactStripMACsSpec : ChangeSpec := { name := "fnExactStripMACs", fn := fun _ => fun
  | [d] => { results := [.lit (.bool true)], args := [d] }
  | _ => none }
def fnExactStripMACsRow : OpenClaim := { program := "ytjjfhdcdcijinaa", sum := "05dcce23a8041476ec267439c0e42afb4ea7f01b02a9f92c3c394514544c9e75", func := "loop.example/g00505/laws.FnExactStripMACs", spec := "fnExactStripMACs", apart := false }
def FnExactStripMACsSaid : Prop := fnExactStripMACsRow.holds Try.pinned (OpenSpec.ofChange fnExactStripMACsSpec)

/-- ITS FALSE NEIGHBOUR: 'it returns false'. Refute it at one input. -/
def fnExactStripMACsWrong : ChangeSpec := { name := "fnExactStripMACs", fn := fun _ => fun
  | [d] => { results := [.lit (.bool false)], args := [d] }
  | _ => none }
def FnExactStripMACsWrongFalsely : Prop := fnExactStripMACsRow.holds Try.pinned (OpenSpec.ofChange fnExactStripMACsWrong)

/-- 'laws.FnExactAuthenticatedBy': WHATEVER THE INPUT: true; the input reads as it did. -/
def fnExactAuthenticatedBySpec : ChangeSpec := { name := "fnExactAuthenticatedBy", fn := fun _ => fun
  | [d1, d2, d3] => { results := [.lit (.bool true)], args := [d1, d2, d3] }
  | _ => none }
def fnExactAuthenticatedByRow : OpenClaim := { program := "ytjjfhdcdcijinaa", sum := "05dcce23a8041476ec267439c0e42afb4ea7f01b02a9f92c3c394514544c9e75", func := "loop.example/g00505/laws.FnExactAuthenticatedBy", spec := "fnExactAuthenticatedBy", unfollowed := true, recurses := true, apart := false }
def FnExactAuthenticatedBySaid : Prop := fnExactAuthenticatedByRow.holds Try.pinned (OpenSpec.ofChange fnExactAuthenticatedBySpec)

/-- ITS FALSE NEIGHBOUR: 'it returns false'. Refute it at one input. -/
def fnExactAuthenticatedByWrong : ChangeSpec := { name := "fnExactAuthenticatedBy", fn := fun _ => fun
  | [d1, d2, d3] => { results := [.lit (.bool false)], args := [d1, d2, d3] }
  | _ => none }
def FnExactAuthenticatedByWrongFalsely : Prop := fnExactAuthenticatedByRow.holds Try.pinned (OpenSpec.ofChange fnExactAuthenticatedByWrong)

/-- 'laws.FnExactSegmentSize': WHATEVER THE INPUT: true; the input reads as it did. -/
def fnExactSegmentSizeSpec : ChangeSpec := { name := "fnExactSegmentSize", fn := fun _ => fun
  | [d] => { results := [.lit (.bool true)], args := [d] }
  | _ => none }
def fnExactSegmentSizeRow : OpenClaim := { program := "ytjjfhdcdcijinaa", sum := "05dcce23a8041476ec267439c0e42afb4ea7f01b02a9f92c3c394514544c9e75", func := "loop.example/g00505/laws.FnExactSegmentSize", spec := "fnExactSegmentSize", apart := false }
def FnExactSegmentSizeSaid : Prop := fnExactSegmentSizeRow.holds Try.pinned (OpenSpec.ofChange fnExactSegmentSizeSpec)

/-- ITS FALSE NEIGHBOUR: 'it returns false'. Refute it at one input. -/
def fnExactSegmentSizeWrong : ChangeSpec := { name := "fnExactSegmentSize", fn := fun _ => fun
  | [d] => { results := [.lit (.bool false)], args := [d] }
  | _ => none }
def FnExactSegmentSizeWrongFalsely : Prop := fnExactSegmentSizeRow.holds Try.pinned (OpenSpec.ofChange fnExactSegmentSizeWrong)

/- THE SECOND FORM. 'bulk': how many values and letters a reading holds, each counted each time it is reached (what is shared counts as often as it is met; a slice's spare places count too). A statement '..UptoSaid' is the law's where the arguments, and the package variables that the reading takes, are together of bulk at most 1048576: NARROWER than '..Said'. Prove '..Said' where nothing that the law and all that it calls make is longer than what came in: it says more and counts as full. Else prove '..UptoSaid'. A law counts once. -/
mutual
def uptoBulk {H : Type} : DataW H → Nat
  | .lit (.string bytes) => bytes.length + 1
  | .lit _ => 1
  | .nil => 1
  | .ptr d => uptoBulk d + 1
  | .slice elems spare => uptoBulkAll elems + uptoBulkAll spare + 1
  | .agg parts => uptoBulkAll parts + 1
  | .iface _ d => uptoBulk d + 1
  | .map entries => uptoBulkEntries entries + 1
  | .held _ => 1
def uptoBulkAll {H : Type} : List (DataW H) → Nat
  | [] => 0
  | d :: r => uptoBulk d + uptoBulkAll r
def uptoBulkEntries {H : Type} : List (Lit × DataW H) → Nat
  | [] => 0
  | x :: r => uptoBulkEntry x + uptoBulkEntries r
def uptoBulkEntry {H : Type} : Lit × DataW H → Nat
  | (.string bytes, d) => bytes.length + uptoBulk d + 1
  | (_, d) => uptoBulk d + 1
 end
def uptoSmall : (H : Type) → List (DataW H) → Bool := fun _ ds => decide (uptoBulkAll ds ≤ 1048576)
def OpenSpec.upto (s : _root_.Go.ChangeSpec) : _root_.Go.OpenSpec := { _root_.Go.OpenSpec.ofChange s with cond := some uptoSmall }

/-- 'laws.FnExactSegmentCount', WHERE WHAT IT READS IS OF BULK AT MOST 1048576: true; the input reads as it did. -/
def fnExactSegmentCountUptoRow : OpenClaim := { program := "ytjjfhdcdcijinaa", sum := "05dcce23a8041476ec267439c0e42afb4ea7f01b02a9f92c3c394514544c9e75", func := "loop.example/g00505/laws.FnExactSegmentCount", spec := "fnExactSegmentCount", apart := false, narrowed := true }
def FnExactSegmentCountUptoSaid : Prop := fnExactSegmentCountUptoRow.holds Try.pinned (OpenSpec.upto fnExactSegmentCountSpec)

/-- 'laws.FnExactHasSegment', WHERE WHAT IT READS IS OF BULK AT MOST 1048576: true; the input reads as it did. -/
def fnExactHasSegmentUptoRow : OpenClaim := { program := "ytjjfhdcdcijinaa", sum := "05dcce23a8041476ec267439c0e42afb4ea7f01b02a9f92c3c394514544c9e75", func := "loop.example/g00505/laws.FnExactHasSegment", spec := "fnExactHasSegment", unfollowed := true, recurses := true, apart := false, narrowed := true }
def FnExactHasSegmentUptoSaid : Prop := fnExactHasSegmentUptoRow.holds Try.pinned (OpenSpec.upto fnExactHasSegmentSpec)

/-- 'laws.FnExactSegmentID', WHERE WHAT IT READS IS OF BULK AT MOST 1048576: true; the input reads as it did. -/
def fnExactSegmentIDUptoRow : OpenClaim := { program := "ytjjfhdcdcijinaa", sum := "05dcce23a8041476ec267439c0e42afb4ea7f01b02a9f92c3c394514544c9e75", func := "loop.example/g00505/laws.FnExactSegmentID", spec := "fnExactSegmentID", apart := false, narrowed := true }
def FnExactSegmentIDUptoSaid : Prop := fnExactSegmentIDUptoRow.holds Try.pinned (OpenSpec.upto fnExactSegmentIDSpec)

/-- 'laws.FnExactWellFormed', WHERE WHAT IT READS IS OF BULK AT MOST 1048576: true; the input reads as it did. -/
def fnExactWellFormedUptoRow : OpenClaim := { program := "ytjjfhdcdcijinaa", sum := "05dcce23a8041476ec267439c0e42afb4ea7f01b02a9f92c3c394514544c9e75", func := "loop.example/g00505/laws.FnExactWellFormed", spec := "fnExactWellFormed", apart := false, narrowed := true }
def FnExactWellFormedUptoSaid : Prop := fnExactWellFormedUptoRow.holds Try.pinned (OpenSpec.upto fnExactWellFormedSpec)

/-- 'laws.FnExactSegmentKind', WHERE WHAT IT READS IS OF BULK AT MOST 1048576: true; the input reads as it did. -/
def fnExactSegmentKindUptoRow : OpenClaim := { program := "ytjjfhdcdcijinaa", sum := "05dcce23a8041476ec267439c0e42afb4ea7f01b02a9f92c3c394514544c9e75", func := "loop.example/g00505/laws.FnExactSegmentKind", spec := "fnExactSegmentKind", apart := false, narrowed := true }
def FnExactSegmentKindUptoSaid : Prop := fnExactSegmentKindUptoRow.holds Try.pinned (OpenSpec.upto fnExactSegmentKindSpec)

/-- 'laws.FnExactSplice', WHERE WHAT IT READS IS OF BULK AT MOST 1048576: true; the input reads as it did. -/
def fnExactSpliceUptoRow : OpenClaim := { program := "ytjjfhdcdcijinaa", sum := "05dcce23a8041476ec267439c0e42afb4ea7f01b02a9f92c3c394514544c9e75", func := "loop.example/g00505/laws.FnExactSplice", spec := "fnExactSplice", apart := false, narrowed := true }
def FnExactSpliceUptoSaid : Prop := fnExactSpliceUptoRow.holds Try.pinned (OpenSpec.upto fnExactSpliceSpec)

/-- 'laws.FnExactStripMACs', WHERE WHAT IT READS IS OF BULK AT MOST 1048576: true; the input reads as it did. -/
def fnExactStripMACsUptoRow : OpenClaim := { program := "ytjjfhdcdcijinaa", sum := "05dcce23a8041476ec267439c0e42afb4ea7f01b02a9f92c3c394514544c9e75", func := "loop.example/g00505/laws.FnExactStripMACs", spec := "fnExactStripMACs", apart := false, narrowed := true }
def FnExactStripMACsUptoSaid : Prop := fnExactStripMACsUptoRow.holds Try.pinned (OpenSpec.upto fnExactStripMACsSpec)

/-- 'laws.FnExactAuthenticatedBy', WHERE WHAT IT READS IS OF BULK AT MOST 1048576: true; the input reads as it did. -/
def fnExactAuthenticatedByUptoRow : OpenClaim := { program := "ytjjfhdcdcijinaa", sum := "05dcce23a8041476ec267439c0e42afb4ea7f01b02a9f92c3c394514544c9e75", func := "loop.example/g00505/laws.FnExactAuthenticatedBy", spec := "fnExactAuthenticatedBy", unfollowed := true, recurses := true, apart := false, narrowed := true }
def FnExactAuthenticatedByUptoSaid : Prop := fnExactAuthenticatedByUptoRow.holds Try.pinned (OpenSpec.upto fnExactAuthenticatedBySpec)

/-- 'laws.FnExactSegmentSize', WHERE WHAT IT READS IS OF BULK AT MOST 1048576: true; the input reads as it did. -/
def fnExactSegmentSizeUptoRow : OpenClaim := { program := "ytjjfhdcdcijinaa", sum := "05dcce23a8041476ec267439c0e42afb4ea7f01b02a9f92c3c394514544c9e75", func := "loop.example/g00505/laws.FnExactSegmentSize", spec := "fnExactSegmentSize", apart := false, narrowed := true }
def FnExactSegmentSizeUptoSaid : Prop := fnExactSegmentSizeUptoRow.holds Try.pinned (OpenSpec.upto fnExactSegmentSizeSpec)

end Rows
end Go.Proofs.Ytjjfhdcdcijinaa
