/-
  No cell of these rows narrows 'for every input' (looked for: loops, veiled, ifaces, maps, wideKeys, modest, calm, conditions, laid).
  DERIVED. THE GIVEN ROWS OF THIS SEAT. 8 by the template 'for every input the law returns true; each argument reads behind the call as it read before'; 0 by the template 'total and deterministic' (their statements: YtcplijkkblamdaaTotals.lean).
  GIVEN WITH THE SEED: the statements are not yours to turn. If you find one false, say at which input.
  Laid BY PROGRAM, IN A SANDBOX (cutbox-rows.mjs): the forced cells as the released guide's own fill.sh prints them over the translation 6d04fc5e23ab33ad… (all of the seat's roots in one cut). By AI agents, Wed Nov 11 2026. No macro, syntax, notation, axiom, sorry.
-/
import Derived.Test.YtcplijkkblamdaaChecked
import GoSem.Claim
import GoSem.ClaimJoined
import GoSem.ClaimMapViews
import Derived.JoinedTies
import Derived.KernelRfl
namespace Go.Proofs.Ytcplijkkblamdaa
/- THE CELL 'sum', in the pinned program and in every row, IS THE sha256 OF THE DUMP (.gsa) THAT YtcplijkkblamdaaProg.lean LOADS. Nothing in Lean hashes anything: it is a label: what it is worth is what the hold of that sum in a sandbox is worth. -/
noncomputable def Try.pinned : Pinned := { name := "ytcplijkkblamdaa", sum := "6d04fc5e23ab33adcf5468422c8a0d5c4c11679a82032e0ebe03557a3d012782", checked := Try.checked }
namespace Rows
def none {H : Type} : Left H := { results := [], args := [] }

/-- 'laws.FnExactBetaAt': WHATEVER THE INPUT: true; the input reads as it did. -/
def fnExactBetaAtSpec : ChangeSpec := { name := "fnExactBetaAt", fn := fun _ => fun
  | [d1, d2] => { results := [.lit (.bool true)], args := [d1, d2] }
  | _ => none }
def fnExactBetaAtRow : OpenClaim := { program := "ytcplijkkblamdaa", sum := "6d04fc5e23ab33adcf5468422c8a0d5c4c11679a82032e0ebe03557a3d012782", func := "loop.example/g00505/laws.FnExactBetaAt", spec := "fnExactBetaAt", apart := false }
def FnExactBetaAtSaid : Prop := fnExactBetaAtRow.holds Try.pinned (OpenSpec.ofChange fnExactBetaAtSpec)

/-- ITS FALSE NEIGHBOUR: 'it returns false'. Refute it at one input. -/
def fnExactBetaAtWrong : ChangeSpec := { name := "fnExactBetaAt", fn := fun _ => fun
  | [d1, d2] => { results := [.lit (.bool false)], args := [d1, d2] }
  | _ => none }
def FnExactBetaAtWrongFalsely : Prop := fnExactBetaAtRow.holds Try.pinned (OpenSpec.ofChange fnExactBetaAtWrong)

/-- 'laws.FnExactWellFormed': WHATEVER THE INPUT: true; the input reads as it did. -/
def fnExactWellFormedSpec : ChangeSpec := { name := "fnExactWellFormed", fn := fun _ => fun
  | [d1, d2] => { results := [.lit (.bool true)], args := [d1, d2] }
  | _ => none }
def fnExactWellFormedRow : OpenClaim := { program := "ytcplijkkblamdaa", sum := "6d04fc5e23ab33adcf5468422c8a0d5c4c11679a82032e0ebe03557a3d012782", func := "loop.example/g00505/laws.FnExactWellFormed", spec := "fnExactWellFormed", apart := false }
def FnExactWellFormedSaid : Prop := fnExactWellFormedRow.holds Try.pinned (OpenSpec.ofChange fnExactWellFormedSpec)

/-- ITS FALSE NEIGHBOUR: 'it returns false'. Refute it at one input. -/
def fnExactWellFormedWrong : ChangeSpec := { name := "fnExactWellFormed", fn := fun _ => fun
  | [d1, d2] => { results := [.lit (.bool false)], args := [d1, d2] }
  | _ => none }
def FnExactWellFormedWrongFalsely : Prop := fnExactWellFormedRow.holds Try.pinned (OpenSpec.ofChange fnExactWellFormedWrong)

/-- 'laws.FnExactSegmentASes': WHATEVER THE INPUT: true; the input reads as it did. -/
def fnExactSegmentASesSpec : ChangeSpec := { name := "fnExactSegmentASes", fn := fun _ => fun
  | [d] => { results := [.lit (.bool true)], args := [d] }
  | _ => none }
def fnExactSegmentASesRow : OpenClaim := { program := "ytcplijkkblamdaa", sum := "6d04fc5e23ab33adcf5468422c8a0d5c4c11679a82032e0ebe03557a3d012782", func := "loop.example/g00505/laws.FnExactSegmentASes", spec := "fnExactSegmentASes", apart := false }
def FnExactSegmentASesSaid : Prop := fnExactSegmentASesRow.holds Try.pinned (OpenSpec.ofChange fnExactSegmentASesSpec)

/-- ITS FALSE NEIGHBOUR: 'it returns false'. Refute it at one input. -/
def fnExactSegmentASesWrong : ChangeSpec := { name := "fnExactSegmentASes", fn := fun _ => fun
  | [d] => { results := [.lit (.bool false)], args := [d] }
  | _ => none }
def FnExactSegmentASesWrongFalsely : Prop := fnExactSegmentASesRow.holds Try.pinned (OpenSpec.ofChange fnExactSegmentASesWrong)

/-- 'laws.FnExactFirstAS': WHATEVER THE INPUT: true; the input reads as it did. -/
def fnExactFirstASSpec : ChangeSpec := { name := "fnExactFirstAS", fn := fun _ => fun
  | [d] => { results := [.lit (.bool true)], args := [d] }
  | _ => none }
def fnExactFirstASRow : OpenClaim := { program := "ytcplijkkblamdaa", sum := "6d04fc5e23ab33adcf5468422c8a0d5c4c11679a82032e0ebe03557a3d012782", func := "loop.example/g00505/laws.FnExactFirstAS", spec := "fnExactFirstAS", apart := false }
def FnExactFirstASSaid : Prop := fnExactFirstASRow.holds Try.pinned (OpenSpec.ofChange fnExactFirstASSpec)

/-- ITS FALSE NEIGHBOUR: 'it returns false'. Refute it at one input. -/
def fnExactFirstASWrong : ChangeSpec := { name := "fnExactFirstAS", fn := fun _ => fun
  | [d] => { results := [.lit (.bool false)], args := [d] }
  | _ => none }
def FnExactFirstASWrongFalsely : Prop := fnExactFirstASRow.holds Try.pinned (OpenSpec.ofChange fnExactFirstASWrong)

/-- 'laws.FnExactLastAS': WHATEVER THE INPUT: true; the input reads as it did. -/
def fnExactLastASSpec : ChangeSpec := { name := "fnExactLastAS", fn := fun _ => fun
  | [d] => { results := [.lit (.bool true)], args := [d] }
  | _ => none }
def fnExactLastASRow : OpenClaim := { program := "ytcplijkkblamdaa", sum := "6d04fc5e23ab33adcf5468422c8a0d5c4c11679a82032e0ebe03557a3d012782", func := "loop.example/g00505/laws.FnExactLastAS", spec := "fnExactLastAS", apart := false }
def FnExactLastASSaid : Prop := fnExactLastASRow.holds Try.pinned (OpenSpec.ofChange fnExactLastASSpec)

/-- ITS FALSE NEIGHBOUR: 'it returns false'. Refute it at one input. -/
def fnExactLastASWrong : ChangeSpec := { name := "fnExactLastAS", fn := fun _ => fun
  | [d] => { results := [.lit (.bool false)], args := [d] }
  | _ => none }
def FnExactLastASWrongFalsely : Prop := fnExactLastASRow.holds Try.pinned (OpenSpec.ofChange fnExactLastASWrong)

/-- 'laws.FnExactIsTerminated': WHATEVER THE INPUT: true; the input reads as it did. -/
def fnExactIsTerminatedSpec : ChangeSpec := { name := "fnExactIsTerminated", fn := fun _ => fun
  | [d] => { results := [.lit (.bool true)], args := [d] }
  | _ => none }
def fnExactIsTerminatedRow : OpenClaim := { program := "ytcplijkkblamdaa", sum := "6d04fc5e23ab33adcf5468422c8a0d5c4c11679a82032e0ebe03557a3d012782", func := "loop.example/g00505/laws.FnExactIsTerminated", spec := "fnExactIsTerminated", apart := false }
def FnExactIsTerminatedSaid : Prop := fnExactIsTerminatedRow.holds Try.pinned (OpenSpec.ofChange fnExactIsTerminatedSpec)

/-- ITS FALSE NEIGHBOUR: 'it returns false'. Refute it at one input. -/
def fnExactIsTerminatedWrong : ChangeSpec := { name := "fnExactIsTerminated", fn := fun _ => fun
  | [d] => { results := [.lit (.bool false)], args := [d] }
  | _ => none }
def FnExactIsTerminatedWrongFalsely : Prop := fnExactIsTerminatedRow.holds Try.pinned (OpenSpec.ofChange fnExactIsTerminatedWrong)

/-- 'laws.FnExactSegmentExpiry': WHATEVER THE INPUT: true; the input reads as it did. -/
def fnExactSegmentExpirySpec : ChangeSpec := { name := "fnExactSegmentExpiry", fn := fun _ => fun
  | [d] => { results := [.lit (.bool true)], args := [d] }
  | _ => none }
def fnExactSegmentExpiryRow : OpenClaim := { program := "ytcplijkkblamdaa", sum := "6d04fc5e23ab33adcf5468422c8a0d5c4c11679a82032e0ebe03557a3d012782", func := "loop.example/g00505/laws.FnExactSegmentExpiry", spec := "fnExactSegmentExpiry", apart := false }
def FnExactSegmentExpirySaid : Prop := fnExactSegmentExpiryRow.holds Try.pinned (OpenSpec.ofChange fnExactSegmentExpirySpec)

/-- ITS FALSE NEIGHBOUR: 'it returns false'. Refute it at one input. -/
def fnExactSegmentExpiryWrong : ChangeSpec := { name := "fnExactSegmentExpiry", fn := fun _ => fun
  | [d] => { results := [.lit (.bool false)], args := [d] }
  | _ => none }
def FnExactSegmentExpiryWrongFalsely : Prop := fnExactSegmentExpiryRow.holds Try.pinned (OpenSpec.ofChange fnExactSegmentExpiryWrong)

/-- 'laws.FnExactEqualSegments': WHATEVER THE INPUT: true; the input reads as it did. -/
def fnExactEqualSegmentsSpec : ChangeSpec := { name := "fnExactEqualSegments", fn := fun _ => fun
  | [d1, d2] => { results := [.lit (.bool true)], args := [d1, d2] }
  | _ => none }
def fnExactEqualSegmentsRow : OpenClaim := { program := "ytcplijkkblamdaa", sum := "6d04fc5e23ab33adcf5468422c8a0d5c4c11679a82032e0ebe03557a3d012782", func := "loop.example/g00505/laws.FnExactEqualSegments", spec := "fnExactEqualSegments", apart := false }
def FnExactEqualSegmentsSaid : Prop := fnExactEqualSegmentsRow.holds Try.pinned (OpenSpec.ofChange fnExactEqualSegmentsSpec)

/-- ITS FALSE NEIGHBOUR: 'it returns false'. Refute it at one input. -/
def fnExactEqualSegmentsWrong : ChangeSpec := { name := "fnExactEqualSegments", fn := fun _ => fun
  | [d1, d2] => { results := [.lit (.bool false)], args := [d1, d2] }
  | _ => none }
def FnExactEqualSegmentsWrongFalsely : Prop := fnExactEqualSegmentsRow.holds Try.pinned (OpenSpec.ofChange fnExactEqualSegmentsWrong)

/- THE SECOND FORM. 'bulk': how many values and letters a reading holds, each counted each time it is reached (what is shared counts as often as it is met; a slice's spare places count too). A statement '..UptoSaid' is the law's where the arguments, and the package variables that the reading takes, are together of bulk at most 1048576: NARROWER than '..Said'. Prove '..Said' where nothing that the law and all that it calls make is longer than what came in: it says more and counts as full. Else prove '..UptoSaid'. A law counts once. -/
mutual
def uptoBulk {H : Type} : DataW H → Nat
  | .lit (.string bytes) => bytes.length + 1
  | .lit _ => 1
  | .nil => 1
  | .ptr d => uptoBulk d + 1
  | .slice elems spare => uptoBulkAll elems + uptoBulkAll spare + 1
  | .agg parts => uptoBulkAll parts + 1
  | .iface _ d => uptoBulk d + 1
  | .map entries => uptoBulkEntries entries + 1
  | .held _ => 1
def uptoBulkAll {H : Type} : List (DataW H) → Nat
  | [] => 0
  | d :: r => uptoBulk d + uptoBulkAll r
def uptoBulkEntries {H : Type} : List (Lit × DataW H) → Nat
  | [] => 0
  | x :: r => uptoBulkEntry x + uptoBulkEntries r
def uptoBulkEntry {H : Type} : Lit × DataW H → Nat
  | (.string bytes, d) => bytes.length + uptoBulk d + 1
  | (_, d) => uptoBulk d + 1
 end
def uptoSmall : (H : Type) → List (DataW H) → Bool := fun _ ds => decide (uptoBulkAll ds ≤ 1048576)
def OpenSpec.upto (s : _root_.Go.ChangeSpec) : _root_.Go.OpenSpec := { _root_.Go.OpenSpec.ofChange s with cond := some uptoSmall }

/-- 'laws.FnExactBetaAt', WHERE WHAT IT READS IS OF BULK AT MOST 1048576: true; the input reads as it did. -/
def fnExactBetaAtUptoRow : OpenClaim := { program := "ytcplijkkblamdaa", sum := "6d04fc5e23ab33adcf5468422c8a0d5c4c11679a82032e0ebe03557a3d012782", func := "loop.example/g00505/laws.FnExactBetaAt", spec := "fnExactBetaAt", apart := false, narrowed := true }
def FnExactBetaAtUptoSaid : Prop := fnExactBetaAtUptoRow.holds Try.pinned (OpenSpec.upto fnExactBetaAtSpec)

/-- 'laws.FnExactWellFormed', WHERE WHAT IT READS IS OF BULK AT MOST 1048576: true; the input reads as it did. -/
def fnExactWellFormedUptoRow : OpenClaim := { program := "ytcplijkkblamdaa", sum := "6d04fc5e23ab33adcf5468422c8a0d5c4c11679a82032e0ebe03557a3d012782", func := "loop.example/g00505/laws.FnExactWellFormed", spec := "fnExactWellFormed", apart := false, narrowed := true }
def FnExactWellFormedUptoSaid : Prop := fnExactWellFormedUptoRow.holds Try.pinned (OpenSpec.upto fnExactWellFormedSpec)

/-- 'laws.FnExactSegmentASes', WHERE WHAT IT READS IS OF BULK AT MOST 1048576: true; the input reads as it did. -/
def fnExactSegmentASesUptoRow : OpenClaim := { program := "ytcplijkkblamdaa", sum := "6d04fc5e23ab33adcf5468422c8a0d5c4c11679a82032e0ebe03557a3d012782", func := "loop.example/g00505/laws.FnExactSegmentASes", spec := "fnExactSegmentASes", apart := false, narrowed := true }
def FnExactSegmentASesUptoSaid : Prop := fnExactSegmentASesUptoRow.holds Try.pinned (OpenSpec.upto fnExactSegmentASesSpec)

/-- 'laws.FnExactFirstAS', WHERE WHAT IT READS IS OF BULK AT MOST 1048576: true; the input reads as it did. -/
def fnExactFirstASUptoRow : OpenClaim := { program := "ytcplijkkblamdaa", sum := "6d04fc5e23ab33adcf5468422c8a0d5c4c11679a82032e0ebe03557a3d012782", func := "loop.example/g00505/laws.FnExactFirstAS", spec := "fnExactFirstAS", apart := false, narrowed := true }
def FnExactFirstASUptoSaid : Prop := fnExactFirstASUptoRow.holds Try.pinned (OpenSpec.upto fnExactFirstASSpec)

/-- 'laws.FnExactLastAS', WHERE WHAT IT READS IS OF BULK AT MOST 1048576: true; the input reads as it did. -/
def fnExactLastASUptoRow : OpenClaim := { program := "ytcplijkkblamdaa", sum := "6d04fc5e23ab33adcf5468422c8a0d5c4c11679a82032e0ebe03557a3d012782", func := "loop.example/g00505/laws.FnExactLastAS", spec := "fnExactLastAS", apart := false, narrowed := true }
def FnExactLastASUptoSaid : Prop := fnExactLastASUptoRow.holds Try.pinned (OpenSpec.upto fnExactLastASSpec)

/-- 'laws.FnExactIsTerminated', WHERE WHAT IT READS IS OF BULK AT MOST 1048576: true; the input reads as it did. -/
def fnExactIsTerminatedUptoRow : OpenClaim := { program := "ytcplijkkblamdaa", sum := "6d04fc5e23ab33adcf5468422c8a0d5c4c11679a82032e0ebe03557a3d012782", func := "loop.example/g00505/laws.FnExactIsTerminated", spec := "fnExactIsTerminated", apart := false, narrowed := true }
def FnExactIsTerminatedUptoSaid : Prop := fnExactIsTerminatedUptoRow.holds Try.pinned (OpenSpec.upto fnExactIsTerminatedSpec)

/-- 'laws.FnExactSegmentExpiry', WHERE WHAT IT READS IS OF BULK AT MOST 1048576: true; the input reads as it did. -/
def fnExactSegmentExpiryUptoRow : OpenClaim := { program := "ytcplijkkblamdaa", sum := "6d04fc5e23ab33adcf5468422c8a0d5c4c11679a82032e0ebe03557a3d012782", func := "loop.example/g00505/laws.FnExactSegmentExpiry", spec := "fnExactSegmentExpiry", apart := false, narrowed := true }
def FnExactSegmentExpiryUptoSaid : Prop := fnExactSegmentExpiryUptoRow.holds Try.pinned (OpenSpec.upto fnExactSegmentExpirySpec)

/-- 'laws.FnExactEqualSegments', WHERE WHAT IT READS IS OF BULK AT MOST 1048576: true; the input reads as it did. -/
def fnExactEqualSegmentsUptoRow : OpenClaim := { program := "ytcplijkkblamdaa", sum := "6d04fc5e23ab33adcf5468422c8a0d5c4c11679a82032e0ebe03557a3d012782", func := "loop.example/g00505/laws.FnExactEqualSegments", spec := "fnExactEqualSegments", apart := false, narrowed := true }
def FnExactEqualSegmentsUptoSaid : Prop := fnExactEqualSegmentsUptoRow.holds Try.pinned (OpenSpec.upto fnExactEqualSegmentsSpec)

end Rows
end Go.Proofs.Ytcplijkkblamdaa
