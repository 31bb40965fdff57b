/-
  No cell of these rows narrows 'for every input' (looked for: loops, veiled, ifaces, maps, wideKeys, modest, calm, conditions, laid).
  DERIVED. THE GIVEN ROWS OF THIS SEAT. 10 by the template 'for every input the law returns true; each argument reads behind the call as it read before'; 0 by the template 'total and deterministic' (their statements: YtfigmjeghdgdjaaTotals.lean).
  GIVEN WITH THE SEED: the statements are not yours to turn. If you find one false, say at which input.
  Laid BY PROGRAM, IN A SANDBOX (cutbox-rows.mjs): the forced cells as the released guide's own fill.sh prints them over the translation bf5a321b1d4d428e… (all of the seat's roots in one cut). By AI agents, Wed Nov 11 2026. No macro, syntax, notation, axiom, sorry.
-/
import Derived.Test.YtfigmjeghdgdjaaChecked
import GoSem.Claim
import GoSem.ClaimJoined
import GoSem.ClaimMapViews
import Derived.JoinedTies
import Derived.KernelRfl
namespace Go.Proofs.Ytfigmjeghdgdjaa
/- THE CELL 'sum', in the pinned program and in every row, IS THE sha256 OF THE DUMP (.gsa) THAT YtfigmjeghdgdjaaProg.lean LOADS. Nothing in Lean hashes anything: it is a label: what it is worth is what the hold of that sum in a sandbox is worth. -/
noncomputable def Try.pinned : Pinned := { name := "ytfigmjeghdgdjaa", sum := "bf5a321b1d4d428ec5b670ee7d45f2bfa9a836e117273bf8dc2ce094f2a50493", checked := Try.checked }
namespace Rows
def none {H : Type} : Left H := { results := [], args := [] }

/-- 'laws.FnSets': WHATEVER THE INPUT: true; the input reads as it did. -/
def fnSetsSpec : ChangeSpec := { name := "fnSets", fn := fun _ => fun
  | [d] => { results := [.lit (.bool true)], args := [d] }
  | _ => none }
def fnSetsRow : OpenClaim := { program := "ytfigmjeghdgdjaa", sum := "bf5a321b1d4d428ec5b670ee7d45f2bfa9a836e117273bf8dc2ce094f2a50493", func := "loop.example/g00505/laws.FnSets", spec := "fnSets", unfollowed := true, recurses := true, apart := false }
def FnSetsSaid : Prop := fnSetsRow.holds Try.pinned (OpenSpec.ofChange fnSetsSpec)

/-- ITS FALSE NEIGHBOUR: 'it returns false'. Refute it at one input. -/
def fnSetsWrong : ChangeSpec := { name := "fnSets", fn := fun _ => fun
  | [d] => { results := [.lit (.bool false)], args := [d] }
  | _ => none }
def FnSetsWrongFalsely : Prop := fnSetsRow.holds Try.pinned (OpenSpec.ofChange fnSetsWrong)

/-- 'laws.FnExactValidSet': WHATEVER THE INPUT: true; the input reads as it did. -/
def fnExactValidSetSpec : ChangeSpec := { name := "fnExactValidSet", fn := fun _ => fun
  | [d] => { results := [.lit (.bool true)], args := [d] }
  | _ => none }
def fnExactValidSetRow : OpenClaim := { program := "ytfigmjeghdgdjaa", sum := "bf5a321b1d4d428ec5b670ee7d45f2bfa9a836e117273bf8dc2ce094f2a50493", func := "loop.example/g00505/laws.FnExactValidSet", spec := "fnExactValidSet", apart := false }
def FnExactValidSetSaid : Prop := fnExactValidSetRow.holds Try.pinned (OpenSpec.ofChange fnExactValidSetSpec)

/-- ITS FALSE NEIGHBOUR: 'it returns false'. Refute it at one input. -/
def fnExactValidSetWrong : ChangeSpec := { name := "fnExactValidSet", fn := fun _ => fun
  | [d] => { results := [.lit (.bool false)], args := [d] }
  | _ => none }
def FnExactValidSetWrongFalsely : Prop := fnExactValidSetRow.holds Try.pinned (OpenSpec.ofChange fnExactValidSetWrong)

/-- 'laws.FnExactContains': WHATEVER THE INPUT: true; the input reads as it did. -/
def fnExactContainsSpec : ChangeSpec := { name := "fnExactContains", fn := fun _ => fun
  | [d1, d2] => { results := [.lit (.bool true)], args := [d1, d2] }
  | _ => none }
def fnExactContainsRow : OpenClaim := { program := "ytfigmjeghdgdjaa", sum := "bf5a321b1d4d428ec5b670ee7d45f2bfa9a836e117273bf8dc2ce094f2a50493", func := "loop.example/g00505/laws.FnExactContains", spec := "fnExactContains", apart := false }
def FnExactContainsSaid : Prop := fnExactContainsRow.holds Try.pinned (OpenSpec.ofChange fnExactContainsSpec)

/-- ITS FALSE NEIGHBOUR: 'it returns false'. Refute it at one input. -/
def fnExactContainsWrong : ChangeSpec := { name := "fnExactContains", fn := fun _ => fun
  | [d1, d2] => { results := [.lit (.bool false)], args := [d1, d2] }
  | _ => none }
def FnExactContainsWrongFalsely : Prop := fnExactContainsRow.holds Try.pinned (OpenSpec.ofChange fnExactContainsWrong)

/-- 'laws.FnExactAddElement': WHATEVER THE INPUT: true; the input reads as it did. -/
def fnExactAddElementSpec : ChangeSpec := { name := "fnExactAddElement", fn := fun _ => fun
  | [d1, d2] => { results := [.lit (.bool true)], args := [d1, d2] }
  | _ => none }
def fnExactAddElementRow : OpenClaim := { program := "ytfigmjeghdgdjaa", sum := "bf5a321b1d4d428ec5b670ee7d45f2bfa9a836e117273bf8dc2ce094f2a50493", func := "loop.example/g00505/laws.FnExactAddElement", spec := "fnExactAddElement", apart := false }
def FnExactAddElementSaid : Prop := fnExactAddElementRow.holds Try.pinned (OpenSpec.ofChange fnExactAddElementSpec)

/-- ITS FALSE NEIGHBOUR: 'it returns false'. Refute it at one input. -/
def fnExactAddElementWrong : ChangeSpec := { name := "fnExactAddElement", fn := fun _ => fun
  | [d1, d2] => { results := [.lit (.bool false)], args := [d1, d2] }
  | _ => none }
def FnExactAddElementWrongFalsely : Prop := fnExactAddElementRow.holds Try.pinned (OpenSpec.ofChange fnExactAddElementWrong)

/-- 'laws.FnExactRemoveElement': WHATEVER THE INPUT: true; the input reads as it did. -/
def fnExactRemoveElementSpec : ChangeSpec := { name := "fnExactRemoveElement", fn := fun _ => fun
  | [d1, d2] => { results := [.lit (.bool true)], args := [d1, d2] }
  | _ => none }
def fnExactRemoveElementRow : OpenClaim := { program := "ytfigmjeghdgdjaa", sum := "bf5a321b1d4d428ec5b670ee7d45f2bfa9a836e117273bf8dc2ce094f2a50493", func := "loop.example/g00505/laws.FnExactRemoveElement", spec := "fnExactRemoveElement", apart := false }
def FnExactRemoveElementSaid : Prop := fnExactRemoveElementRow.holds Try.pinned (OpenSpec.ofChange fnExactRemoveElementSpec)

/-- ITS FALSE NEIGHBOUR: 'it returns false'. Refute it at one input. -/
def fnExactRemoveElementWrong : ChangeSpec := { name := "fnExactRemoveElement", fn := fun _ => fun
  | [d1, d2] => { results := [.lit (.bool false)], args := [d1, d2] }
  | _ => none }
def FnExactRemoveElementWrongFalsely : Prop := fnExactRemoveElementRow.holds Try.pinned (OpenSpec.ofChange fnExactRemoveElementWrong)

/-- 'laws.FnExactUnion': WHATEVER THE INPUT: true; the input reads as it did. -/
def fnExactUnionSpec : ChangeSpec := { name := "fnExactUnion", fn := fun _ => fun
  | [d1, d2] => { results := [.lit (.bool true)], args := [d1, d2] }
  | _ => none }
def fnExactUnionRow : OpenClaim := { program := "ytfigmjeghdgdjaa", sum := "bf5a321b1d4d428ec5b670ee7d45f2bfa9a836e117273bf8dc2ce094f2a50493", func := "loop.example/g00505/laws.FnExactUnion", spec := "fnExactUnion", apart := false }
def FnExactUnionSaid : Prop := fnExactUnionRow.holds Try.pinned (OpenSpec.ofChange fnExactUnionSpec)

/-- ITS FALSE NEIGHBOUR: 'it returns false'. Refute it at one input. -/
def fnExactUnionWrong : ChangeSpec := { name := "fnExactUnion", fn := fun _ => fun
  | [d1, d2] => { results := [.lit (.bool false)], args := [d1, d2] }
  | _ => none }
def FnExactUnionWrongFalsely : Prop := fnExactUnionRow.holds Try.pinned (OpenSpec.ofChange fnExactUnionWrong)

/-- 'laws.FnExactIntersection': WHATEVER THE INPUT: true; the input reads as it did. -/
def fnExactIntersectionSpec : ChangeSpec := { name := "fnExactIntersection", fn := fun _ => fun
  | [d1, d2] => { results := [.lit (.bool true)], args := [d1, d2] }
  | _ => none }
def fnExactIntersectionRow : OpenClaim := { program := "ytfigmjeghdgdjaa", sum := "bf5a321b1d4d428ec5b670ee7d45f2bfa9a836e117273bf8dc2ce094f2a50493", func := "loop.example/g00505/laws.FnExactIntersection", spec := "fnExactIntersection", apart := false }
def FnExactIntersectionSaid : Prop := fnExactIntersectionRow.holds Try.pinned (OpenSpec.ofChange fnExactIntersectionSpec)

/-- ITS FALSE NEIGHBOUR: 'it returns false'. Refute it at one input. -/
def fnExactIntersectionWrong : ChangeSpec := { name := "fnExactIntersection", fn := fun _ => fun
  | [d1, d2] => { results := [.lit (.bool false)], args := [d1, d2] }
  | _ => none }
def FnExactIntersectionWrongFalsely : Prop := fnExactIntersectionRow.holds Try.pinned (OpenSpec.ofChange fnExactIntersectionWrong)

/-- 'laws.FnExactSetSize': WHATEVER THE INPUT: true; the input reads as it did. -/
def fnExactSetSizeSpec : ChangeSpec := { name := "fnExactSetSize", fn := fun _ => fun
  | [d] => { results := [.lit (.bool true)], args := [d] }
  | _ => none }
def fnExactSetSizeRow : OpenClaim := { program := "ytfigmjeghdgdjaa", sum := "bf5a321b1d4d428ec5b670ee7d45f2bfa9a836e117273bf8dc2ce094f2a50493", func := "loop.example/g00505/laws.FnExactSetSize", spec := "fnExactSetSize", unfollowed := true, recurses := true, apart := false }
def FnExactSetSizeSaid : Prop := fnExactSetSizeRow.holds Try.pinned (OpenSpec.ofChange fnExactSetSizeSpec)

/-- ITS FALSE NEIGHBOUR: 'it returns false'. Refute it at one input. -/
def fnExactSetSizeWrong : ChangeSpec := { name := "fnExactSetSize", fn := fun _ => fun
  | [d] => { results := [.lit (.bool false)], args := [d] }
  | _ => none }
def FnExactSetSizeWrongFalsely : Prop := fnExactSetSizeRow.holds Try.pinned (OpenSpec.ofChange fnExactSetSizeWrong)

/-- 'laws.FnExactElements': WHATEVER THE INPUT: true; the input reads as it did. -/
def fnExactElementsSpec : ChangeSpec := { name := "fnExactElements", fn := fun _ => fun
  | [d] => { results := [.lit (.bool true)], args := [d] }
  | _ => none }
def fnExactElementsRow : OpenClaim := { program := "ytfigmjeghdgdjaa", sum := "bf5a321b1d4d428ec5b670ee7d45f2bfa9a836e117273bf8dc2ce094f2a50493", func := "loop.example/g00505/laws.FnExactElements", spec := "fnExactElements", unfollowed := true, recurses := true, apart := false }
def FnExactElementsSaid : Prop := fnExactElementsRow.holds Try.pinned (OpenSpec.ofChange fnExactElementsSpec)

/-- ITS FALSE NEIGHBOUR: 'it returns false'. Refute it at one input. -/
def fnExactElementsWrong : ChangeSpec := { name := "fnExactElements", fn := fun _ => fun
  | [d] => { results := [.lit (.bool false)], args := [d] }
  | _ => none }
def FnExactElementsWrongFalsely : Prop := fnExactElementsRow.holds Try.pinned (OpenSpec.ofChange fnExactElementsWrong)

/-- 'laws.FnExactMakeSet': WHATEVER THE INPUT: true; the input reads as it did. -/
def fnExactMakeSetSpec : ChangeSpec := { name := "fnExactMakeSet", fn := fun _ => fun
  | [d] => { results := [.lit (.bool true)], args := [d] }
  | _ => none }
def fnExactMakeSetRow : OpenClaim := { program := "ytfigmjeghdgdjaa", sum := "bf5a321b1d4d428ec5b670ee7d45f2bfa9a836e117273bf8dc2ce094f2a50493", func := "loop.example/g00505/laws.FnExactMakeSet", spec := "fnExactMakeSet", apart := false }
def FnExactMakeSetSaid : Prop := fnExactMakeSetRow.holds Try.pinned (OpenSpec.ofChange fnExactMakeSetSpec)

/-- ITS FALSE NEIGHBOUR: 'it returns false'. Refute it at one input. -/
def fnExactMakeSetWrong : ChangeSpec := { name := "fnExactMakeSet", fn := fun _ => fun
  | [d] => { results := [.lit (.bool false)], args := [d] }
  | _ => none }
def FnExactMakeSetWrongFalsely : Prop := fnExactMakeSetRow.holds Try.pinned (OpenSpec.ofChange fnExactMakeSetWrong)

/- THE SECOND FORM. 'bulk': how many values and letters a reading holds, each counted each time it is reached (what is shared counts as often as it is met; a slice's spare places count too). A statement '..UptoSaid' is the law's where the arguments, and the package variables that the reading takes, are together of bulk at most 1048576: NARROWER than '..Said'. Prove '..Said' where nothing that the law and all that it calls make is longer than what came in: it says more and counts as full. Else prove '..UptoSaid'. A law counts once. -/
mutual
def uptoBulk {H : Type} : DataW H → Nat
  | .lit (.string bytes) => bytes.length + 1
  | .lit _ => 1
  | .nil => 1
  | .ptr d => uptoBulk d + 1
  | .slice elems spare => uptoBulkAll elems + uptoBulkAll spare + 1
  | .agg parts => uptoBulkAll parts + 1
  | .iface _ d => uptoBulk d + 1
  | .map entries => uptoBulkEntries entries + 1
  | .held _ => 1
def uptoBulkAll {H : Type} : List (DataW H) → Nat
  | [] => 0
  | d :: r => uptoBulk d + uptoBulkAll r
def uptoBulkEntries {H : Type} : List (Lit × DataW H) → Nat
  | [] => 0
  | x :: r => uptoBulkEntry x + uptoBulkEntries r
def uptoBulkEntry {H : Type} : Lit × DataW H → Nat
  | (.string bytes, d) => bytes.length + uptoBulk d + 1
  | (_, d) => uptoBulk d + 1
 end
def uptoSmall : (H : Type) → List (DataW H) → Bool := fun _ ds => decide (uptoBulkAll ds ≤ 1048576)
def OpenSpec.upto (s : _root_.Go.ChangeSpec) : _root_.Go.OpenSpec := { _root_.Go.OpenSpec.ofChange s with cond := some uptoSmall }

/-- 'laws.FnSets', WHERE WHAT IT READS IS OF BULK AT MOST 1048576: true; the input reads as it did. -/
def fnSetsUptoRow : OpenClaim := { program := "ytfigmjeghdgdjaa", sum := "bf5a321b1d4d428ec5b670ee7d45f2bfa9a836e117273bf8dc2ce094f2a50493", func := "loop.example/g00505/laws.FnSets", spec := "fnSets", unfollowed := true, recurses := true, apart := false, narrowed := true }
def FnSetsUptoSaid : Prop := fnSetsUptoRow.holds Try.pinned (OpenSpec.upto fnSetsSpec)

/-- 'laws.FnExactValidSet', WHERE WHAT IT READS IS OF BULK AT MOST 1048576: true; the input reads as it did. -/
def fnExactValidSetUptoRow : OpenClaim := { program := "ytfigmjeghdgdjaa", sum := "bf5a321b1d4d428ec5b670ee7d45f2bfa9a836e117273bf8dc2ce094f2a50493", func := "loop.example/g00505/laws.FnExactValidSet", spec := "fnExactValidSet", apart := false, narrowed := true }
def FnExactValidSetUptoSaid : Prop := fnExactValidSetUptoRow.holds Try.pinned (OpenSpec.upto fnExactValidSetSpec)

/-- 'laws.FnExactContains', WHERE WHAT IT READS IS OF BULK AT MOST 1048576: true; the input reads as it did. -/
def fnExactContainsUptoRow : OpenClaim := { program := "ytfigmjeghdgdjaa", sum := "bf5a321b1d4d428ec5b670ee7d45f2bfa9a836e117273bf8dc2ce094f2a50493", func := "loop.example/g00505/laws.FnExactContains", spec := "fnExactContains", apart := false, narrowed := true }
def FnExactContainsUptoSaid : Prop := fnExactContainsUptoRow.holds Try.pinned (OpenSpec.upto fnExactContainsSpec)

/-- 'laws.FnExactAddElement', WHERE WHAT IT READS IS OF BULK AT MOST 1048576: true; the input reads as it did. -/
def fnExactAddElementUptoRow : OpenClaim := { program := "ytfigmjeghdgdjaa", sum := "bf5a321b1d4d428ec5b670ee7d45f2bfa9a836e117273bf8dc2ce094f2a50493", func := "loop.example/g00505/laws.FnExactAddElement", spec := "fnExactAddElement", apart := false, narrowed := true }
def FnExactAddElementUptoSaid : Prop := fnExactAddElementUptoRow.holds Try.pinned (OpenSpec.upto fnExactAddElementSpec)

/-- 'laws.FnExactRemoveElement', WHERE WHAT IT READS IS OF BULK AT MOST 1048576: true; the input reads as it did. -/
def fnExactRemoveElementUptoRow : OpenClaim := { program := "ytfigmjeghdgdjaa", sum := "bf5a321b1d4d428ec5b670ee7d45f2bfa9a836e117273bf8dc2ce094f2a50493", func := "loop.example/g00505/laws.FnExactRemoveElement", spec := "fnExactRemoveElement", apart := false, narrowed := true }
def FnExactRemoveElementUptoSaid : Prop := fnExactRemoveElementUptoRow.holds Try.pinned (OpenSpec.upto fnExactRemoveElementSpec)

/-- 'laws.FnExactUnion', WHERE WHAT IT READS IS OF BULK AT MOST 1048576: true; the input reads as it did. -/
def fnExactUnionUptoRow : OpenClaim := { program := "ytfigmjeghdgdjaa", sum := "bf5a321b1d4d428ec5b670ee7d45f2bfa9a836e117273bf8dc2ce094f2a50493", func := "loop.example/g00505/laws.FnExactUnion", spec := "fnExactUnion", apart := false, narrowed := true }
def FnExactUnionUptoSaid : Prop := fnExactUnionUptoRow.holds Try.pinned (OpenSpec.upto fnExactUnionSpec)

/-- 'laws.FnExactIntersection', WHERE WHAT IT READS IS OF BULK AT MOST 1048576: true; the input reads as it did. -/
def fnExactIntersectionUptoRow : OpenClaim := { program := "ytfigmjeghdgdjaa", sum := "bf5a321b1d4d428ec5b670ee7d45f2bfa9a836e117273bf8dc2ce094f2a50493", func := "loop.example/g00505/laws.FnExactIntersection", spec := "fnExactIntersection", apart := false, narrowed := true }
def FnExactIntersectionUptoSaid : Prop := fnExactIntersectionUptoRow.holds Try.pinned (OpenSpec.upto fnExactIntersectionSpec)

/-- 'laws.FnExactSetSize', WHERE WHAT IT READS IS OF BULK AT MOST 1048576: true; the input reads as it did. -/
def fnExactSetSizeUptoRow : OpenClaim := { program := "ytfigmjeghdgdjaa", sum := "bf5a321b1d4d428ec5b670ee7d45f2bfa9a836e117273bf8dc2ce094f2a50493", func := "loop.example/g00505/laws.FnExactSetSize", spec := "fnExactSetSize", unfollowed := true, recurses := true, apart := false, narrowed := true }
def FnExactSetSizeUptoSaid : Prop := fnExactSetSizeUptoRow.holds Try.pinned (OpenSpec.upto fnExactSetSizeSpec)

/-- 'laws.FnExactElements', WHERE WHAT IT READS IS OF BULK AT MOST 1048576: true; the input reads as it did. -/
def fnExactElementsUptoRow : OpenClaim := { program := "ytfigmjeghdgdjaa", sum := "bf5a321b1d4d428ec5b670ee7d45f2bfa9a836e117273bf8dc2ce094f2a50493", func := "loop.example/g00505/laws.FnExactElements", spec := "fnExactElements", unfollowed := true, recurses := true, apart := false, narrowed := true }
def FnExactElementsUptoSaid : Prop := fnExactElementsUptoRow.holds Try.pinned (OpenSpec.upto fnExactElementsSpec)

/-- 'laws.FnExactMakeSet', WHERE WHAT IT READS IS OF BULK AT MOST 1048576: true; the input reads as it did. -/
def fnExactMakeSetUptoRow : OpenClaim := { program := "ytfigmjeghdgdjaa", sum := "bf5a321b1d4d428ec5b670ee7d45f2bfa9a836e117273bf8dc2ce094f2a50493", func := "loop.example/g00505/laws.FnExactMakeSet", spec := "fnExactMakeSet", apart := false, narrowed := true }
def FnExactMakeSetUptoSaid : Prop := fnExactMakeSetUptoRow.holds Try.pinned (OpenSpec.upto fnExactMakeSetSpec)

end Rows
end Go.Proofs.Ytfigmjeghdgdjaa
