/-
  No cell of these rows narrows 'for every input' (looked for: loops, veiled, ifaces, maps, wideKeys, modest, calm, conditions, laid).
  DERIVED. THE GIVEN ROWS OF THIS SEAT. 5 by the template 'for every input the law returns true; each argument reads behind the call as it read before'; 0 by the template 'total and deterministic' (their statements: YtmpanhbjppnpbaaTotals.lean).
  GIVEN WITH THE SEED: the statements are not yours to turn. If you find one false, say at which input.
  Laid BY PROGRAM, IN A SANDBOX (cutbox-rows.mjs): the forced cells as the released guide's own fill.sh prints them over the translation 43f25c7d7fc4abaf… (all of the seat's roots in one cut). By AI agents, Wed Nov 11 2026. No macro, syntax, notation, axiom, sorry.
-/
import Derived.Test.YtmpanhbjppnpbaaChecked
import GoSem.Claim
import GoSem.ClaimJoined
import GoSem.ClaimMapViews
import Derived.JoinedTies
import Derived.KernelRfl
namespace Go.Proofs.Ytmpanhbjppnpbaa
/- THE CELL 'sum', in the pinned program and in every row, IS THE sha256 OF THE DUMP (.gsa) THAT YtmpanhbjppnpbaaProg.lean LOADS. Nothing in Lean hashes anything: it is a label: what it is worth is what the hold of that sum in a sandbox is worth. -/
noncomputable def Try.pinned : Pinned := { name := "ytmpanhbjppnpbaa", sum := "43f25c7d7fc4abafe610dd8b56d215b8961894a2f7fab5b3ea2f30f94c26700f", checked := Try.checked }
namespace Rows
def none {H : Type} : Left H := { results := [], args := [] }

/-- 'laws.FnExactSegmentKind': WHATEVER THE INPUT: true; the input reads as it did. -/
def fnExactSegmentKindSpec : ChangeSpec := { name := "fnExactSegmentKind", fn := fun _ => fun
  | [d1, d2] => { results := [.lit (.bool true)], args := [d1, d2] }
  | _ => none }
def fnExactSegmentKindRow : OpenClaim := { program := "ytmpanhbjppnpbaa", sum := "43f25c7d7fc4abafe610dd8b56d215b8961894a2f7fab5b3ea2f30f94c26700f", func := "loop.example/g00505/laws.FnExactSegmentKind", spec := "fnExactSegmentKind", apart := false }
def FnExactSegmentKindSaid : Prop := fnExactSegmentKindRow.holds Try.pinned (OpenSpec.ofChange fnExactSegmentKindSpec)

/-- ITS FALSE NEIGHBOUR: 'it returns false'. Refute it at one input. -/
def fnExactSegmentKindWrong : ChangeSpec := { name := "fnExactSegmentKind", fn := fun _ => fun
  | [d1, d2] => { results := [.lit (.bool false)], args := [d1, d2] }
  | _ => none }
def FnExactSegmentKindWrongFalsely : Prop := fnExactSegmentKindRow.holds Try.pinned (OpenSpec.ofChange fnExactSegmentKindWrong)

/-- 'laws.FnExactAllows': WHATEVER THE INPUT: true; the input reads as it did. -/
def fnExactAllowsSpec : ChangeSpec := { name := "fnExactAllows", fn := fun _ => fun
  | [d1, d2, d3] => { results := [.lit (.bool true)], args := [d1, d2, d3] }
  | _ => none }
def fnExactAllowsRow : OpenClaim := { program := "ytmpanhbjppnpbaa", sum := "43f25c7d7fc4abafe610dd8b56d215b8961894a2f7fab5b3ea2f30f94c26700f", func := "loop.example/g00505/laws.FnExactAllows", spec := "fnExactAllows", unfollowed := true, recurses := true, apart := false }
def FnExactAllowsSaid : Prop := fnExactAllowsRow.holds Try.pinned (OpenSpec.ofChange fnExactAllowsSpec)

/-- ITS FALSE NEIGHBOUR: 'it returns false'. Refute it at one input. -/
def fnExactAllowsWrong : ChangeSpec := { name := "fnExactAllows", fn := fun _ => fun
  | [d1, d2, d3] => { results := [.lit (.bool false)], args := [d1, d2, d3] }
  | _ => none }
def FnExactAllowsWrongFalsely : Prop := fnExactAllowsRow.holds Try.pinned (OpenSpec.ofChange fnExactAllowsWrong)

/-- 'laws.FnExactVerifySignature': WHATEVER THE INPUT: true; the input reads as it did. -/
def fnExactVerifySignatureSpec : ChangeSpec := { name := "fnExactVerifySignature", fn := fun _ => fun
  | [d1, d2, d3] => { results := [.lit (.bool true)], args := [d1, d2, d3] }
  | _ => none }
def fnExactVerifySignatureRow : OpenClaim := { program := "ytmpanhbjppnpbaa", sum := "43f25c7d7fc4abafe610dd8b56d215b8961894a2f7fab5b3ea2f30f94c26700f", func := "loop.example/g00505/laws.FnExactVerifySignature", spec := "fnExactVerifySignature", unfollowed := true, recurses := true, apart := false }
def FnExactVerifySignatureSaid : Prop := fnExactVerifySignatureRow.holds Try.pinned (OpenSpec.ofChange fnExactVerifySignatureSpec)

/-- ITS FALSE NEIGHBOUR: 'it returns false'. Refute it at one input. -/
def fnExactVerifySignatureWrong : ChangeSpec := { name := "fnExactVerifySignature", fn := fun _ => fun
  | [d1, d2, d3] => { results := [.lit (.bool false)], args := [d1, d2, d3] }
  | _ => none }
def FnExactVerifySignatureWrongFalsely : Prop := fnExactVerifySignatureRow.holds Try.pinned (OpenSpec.ofChange fnExactVerifySignatureWrong)

/-- 'laws.FnExactSigners': WHATEVER THE INPUT: true; the input reads as it did. -/
def fnExactSignersSpec : ChangeSpec := { name := "fnExactSigners", fn := fun _ => fun
  | [d1, d2, d3, d4] => { results := [.lit (.bool true)], args := [d1, d2, d3, d4] }
  | _ => none }
def fnExactSignersRow : OpenClaim := { program := "ytmpanhbjppnpbaa", sum := "43f25c7d7fc4abafe610dd8b56d215b8961894a2f7fab5b3ea2f30f94c26700f", func := "loop.example/g00505/laws.FnExactSigners", spec := "fnExactSigners", unfollowed := true, recurses := true, apart := false }
def FnExactSignersSaid : Prop := fnExactSignersRow.holds Try.pinned (OpenSpec.ofChange fnExactSignersSpec)

/-- ITS FALSE NEIGHBOUR: 'it returns false'. Refute it at one input. -/
def fnExactSignersWrong : ChangeSpec := { name := "fnExactSigners", fn := fun _ => fun
  | [d1, d2, d3, d4] => { results := [.lit (.bool false)], args := [d1, d2, d3, d4] }
  | _ => none }
def FnExactSignersWrongFalsely : Prop := fnExactSignersRow.holds Try.pinned (OpenSpec.ofChange fnExactSignersWrong)

/-- 'laws.FnExactWellFormedPath': WHATEVER THE INPUT: true; the input reads as it did. -/
def fnExactWellFormedPathSpec : ChangeSpec := { name := "fnExactWellFormedPath", fn := fun _ => fun
  | [d1, d2] => { results := [.lit (.bool true)], args := [d1, d2] }
  | _ => none }
def fnExactWellFormedPathRow : OpenClaim := { program := "ytmpanhbjppnpbaa", sum := "43f25c7d7fc4abafe610dd8b56d215b8961894a2f7fab5b3ea2f30f94c26700f", func := "loop.example/g00505/laws.FnExactWellFormedPath", spec := "fnExactWellFormedPath", unfollowed := true, recurses := true, apart := false }
def FnExactWellFormedPathSaid : Prop := fnExactWellFormedPathRow.holds Try.pinned (OpenSpec.ofChange fnExactWellFormedPathSpec)

/-- ITS FALSE NEIGHBOUR: 'it returns false'. Refute it at one input. -/
def fnExactWellFormedPathWrong : ChangeSpec := { name := "fnExactWellFormedPath", fn := fun _ => fun
  | [d1, d2] => { results := [.lit (.bool false)], args := [d1, d2] }
  | _ => none }
def FnExactWellFormedPathWrongFalsely : Prop := fnExactWellFormedPathRow.holds Try.pinned (OpenSpec.ofChange fnExactWellFormedPathWrong)

/- THE SECOND FORM. 'bulk': how many values and letters a reading holds, each counted each time it is reached (what is shared counts as often as it is met; a slice's spare places count too). A statement '..UptoSaid' is the law's where the arguments, and the package variables that the reading takes, are together of bulk at most 1048576: NARROWER than '..Said'. Prove '..Said' where nothing that the law and all that it calls make is longer than what came in: it says more and counts as full. Else prove '..UptoSaid'. A law counts once. -/
mutual
def uptoBulk {H : Type} : DataW H → Nat
  | .lit (.string bytes) => bytes.length + 1
  | .lit _ => 1
  | .nil => 1
  | .ptr d => uptoBulk d + 1
  | .slice elems spare => uptoBulkAll elems + uptoBulkAll spare + 1
  | .agg parts => uptoBulkAll parts + 1
  | .iface _ d => uptoBulk d + 1
  | .map entries => uptoBulkEntries entries + 1
  | .held _ => 1
def uptoBulkAll {H : Type} : List (DataW H) → Nat
  | [] => 0
  | d :: r => uptoBulk d + uptoBulkAll r
def uptoBulkEntries {H : Type} : List (Lit × DataW H) → Nat
  | [] => 0
  | x :: r => uptoBulkEntry x + uptoBulkEntries r
def uptoBulkEntry {H : Type} : Lit × DataW H → Nat
  | (.string bytes, d) => bytes.length + uptoBulk d + 1
  | (_, d) => uptoBulk d + 1
 end
def uptoSmall : (H : Type) → List (DataW H) → Bool := fun _ ds => decide (uptoBulkAll ds ≤ 1048576)
def OpenSpec.upto (s : _root_.Go.ChangeSpec) : _root_.Go.OpenSpec := { _root_.Go.OpenSpec.ofChange s with cond := some uptoSmall }

/-- 'laws.FnExactSegmentKind', WHERE WHAT IT READS IS OF BULK AT MOST 1048576: true; the input reads as it did. -/
def fnExactSegmentKindUptoRow : OpenClaim := { program := "ytmpanhbjppnpbaa", sum := "43f25c7d7fc4abafe610dd8b56d215b8961894a2f7fab5b3ea2f30f94c26700f", func := "loop.example/g00505/laws.FnExactSegmentKind", spec := "fnExactSegmentKind", apart := false, narrowed := true }
def FnExactSegmentKindUptoSaid : Prop := fnExactSegmentKindUptoRow.holds Try.pinned (OpenSpec.upto fnExactSegmentKindSpec)

/-- 'laws.FnExactAllows', WHERE WHAT IT READS IS OF BULK AT MOST 1048576: true; the input reads as it did. -/
def fnExactAllowsUptoRow : OpenClaim := { program := "ytmpanhbjppnpbaa", sum := "43f25c7d7fc4abafe610dd8b56d215b8961894a2f7fab5b3ea2f30f94c26700f", func := "loop.example/g00505/laws.FnExactAllows", spec := "fnExactAllows", unfollowed := true, recurses := true, apart := false, narrowed := true }
def FnExactAllowsUptoSaid : Prop := fnExactAllowsUptoRow.holds Try.pinned (OpenSpec.upto fnExactAllowsSpec)

/-- 'laws.FnExactVerifySignature', WHERE WHAT IT READS IS OF BULK AT MOST 1048576: true; the input reads as it did. -/
def fnExactVerifySignatureUptoRow : OpenClaim := { program := "ytmpanhbjppnpbaa", sum := "43f25c7d7fc4abafe610dd8b56d215b8961894a2f7fab5b3ea2f30f94c26700f", func := "loop.example/g00505/laws.FnExactVerifySignature", spec := "fnExactVerifySignature", unfollowed := true, recurses := true, apart := false, narrowed := true }
def FnExactVerifySignatureUptoSaid : Prop := fnExactVerifySignatureUptoRow.holds Try.pinned (OpenSpec.upto fnExactVerifySignatureSpec)

/-- 'laws.FnExactSigners', WHERE WHAT IT READS IS OF BULK AT MOST 1048576: true; the input reads as it did. -/
def fnExactSignersUptoRow : OpenClaim := { program := "ytmpanhbjppnpbaa", sum := "43f25c7d7fc4abafe610dd8b56d215b8961894a2f7fab5b3ea2f30f94c26700f", func := "loop.example/g00505/laws.FnExactSigners", spec := "fnExactSigners", unfollowed := true, recurses := true, apart := false, narrowed := true }
def FnExactSignersUptoSaid : Prop := fnExactSignersUptoRow.holds Try.pinned (OpenSpec.upto fnExactSignersSpec)

/-- 'laws.FnExactWellFormedPath', WHERE WHAT IT READS IS OF BULK AT MOST 1048576: true; the input reads as it did. -/
def fnExactWellFormedPathUptoRow : OpenClaim := { program := "ytmpanhbjppnpbaa", sum := "43f25c7d7fc4abafe610dd8b56d215b8961894a2f7fab5b3ea2f30f94c26700f", func := "loop.example/g00505/laws.FnExactWellFormedPath", spec := "fnExactWellFormedPath", unfollowed := true, recurses := true, apart := false, narrowed := true }
def FnExactWellFormedPathUptoSaid : Prop := fnExactWellFormedPathUptoRow.holds Try.pinned (OpenSpec.upto fnExactWellFormedPathSpec)

end Rows
end Go.Proofs.Ytmpanhbjppnpbaa
