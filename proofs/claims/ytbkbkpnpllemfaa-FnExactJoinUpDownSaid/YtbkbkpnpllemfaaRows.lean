/-
  No cell of these rows narrows 'for every input' (looked for: loops, veiled, ifaces, maps, wideKeys, modest, calm, conditions, laid).
  DERIVED. THE GIVEN ROWS OF THIS SEAT. 6 by the template 'for every input the law returns true; each argument reads behind the call as it read before'; 0 by the template 'total and deterministic' (their statements: YtbkbkpnpllemfaaTotals.lean).
  GIVEN WITH THE SEED: the statements are not yours to turn. If you find one false, say at which input.
  Laid BY PROGRAM, IN A SANDBOX (cutbox-rows.mjs): the forced cells as the released guide's own fill.sh prints them over the translation 23d72337436fa0f9… (all of the seat's roots in one cut). By AI agents, Wed Nov 11 2026. No macro, syntax, notation, axiom, sorry.
-/
import Derived.Test.YtbkbkpnpllemfaaChecked
import GoSem.Claim
import GoSem.ClaimJoined
import GoSem.ClaimMapViews
import Derived.JoinedTies
import Derived.KernelRfl
namespace Go.Proofs.Ytbkbkpnpllemfaa
/- THE CELL 'sum', in the pinned program and in every row, IS THE sha256 OF THE DUMP (.gsa) THAT YtbkbkpnpllemfaaProg.lean LOADS. Nothing in Lean hashes anything: it is a label: what it is worth is what the hold of that sum in a sandbox is worth. -/
noncomputable def Try.pinned : Pinned := { name := "ytbkbkpnpllemfaa", sum := "23d72337436fa0f9ca0500c3ea59c2d1f7c769ffc64559d8a25c044904c1757e", checked := Try.checked }
namespace Rows
def none {H : Type} : Left H := { results := [], args := [] }

/-- 'laws.FnExactSplice': WHATEVER THE INPUT: true; the input reads as it did. -/
def fnExactSpliceSpec : ChangeSpec := { name := "fnExactSplice", fn := fun _ => fun
  | [d1, d2, d3, d4] => { results := [.lit (.bool true)], args := [d1, d2, d3, d4] }
  | _ => none }
def fnExactSpliceRow : OpenClaim := { program := "ytbkbkpnpllemfaa", sum := "23d72337436fa0f9ca0500c3ea59c2d1f7c769ffc64559d8a25c044904c1757e", func := "loop.example/g00505/laws.FnExactSplice", spec := "fnExactSplice", apart := false }
def FnExactSpliceSaid : Prop := fnExactSpliceRow.holds Try.pinned (OpenSpec.ofChange fnExactSpliceSpec)

/-- ITS FALSE NEIGHBOUR: 'it returns false'. Refute it at one input. -/
def fnExactSpliceWrong : ChangeSpec := { name := "fnExactSplice", fn := fun _ => fun
  | [d1, d2, d3, d4] => { results := [.lit (.bool false)], args := [d1, d2, d3, d4] }
  | _ => none }
def FnExactSpliceWrongFalsely : Prop := fnExactSpliceRow.holds Try.pinned (OpenSpec.ofChange fnExactSpliceWrong)

/-- 'laws.FnExactMakePart': WHATEVER THE INPUT: true; the input reads as it did. -/
def fnExactMakePartSpec : ChangeSpec := { name := "fnExactMakePart", fn := fun _ => fun
  | [d1, d2, d3] => { results := [.lit (.bool true)], args := [d1, d2, d3] }
  | _ => none }
def fnExactMakePartRow : OpenClaim := { program := "ytbkbkpnpllemfaa", sum := "23d72337436fa0f9ca0500c3ea59c2d1f7c769ffc64559d8a25c044904c1757e", func := "loop.example/g00505/laws.FnExactMakePart", spec := "fnExactMakePart", apart := false }
def FnExactMakePartSaid : Prop := fnExactMakePartRow.holds Try.pinned (OpenSpec.ofChange fnExactMakePartSpec)

/-- ITS FALSE NEIGHBOUR: 'it returns false'. Refute it at one input. -/
def fnExactMakePartWrong : ChangeSpec := { name := "fnExactMakePart", fn := fun _ => fun
  | [d1, d2, d3] => { results := [.lit (.bool false)], args := [d1, d2, d3] }
  | _ => none }
def FnExactMakePartWrongFalsely : Prop := fnExactMakePartRow.holds Try.pinned (OpenSpec.ofChange fnExactMakePartWrong)

/-- 'laws.FnExactJoinUpDown': WHATEVER THE INPUT: true; the input reads as it did. -/
def fnExactJoinUpDownSpec : ChangeSpec := { name := "fnExactJoinUpDown", fn := fun _ => fun
  | [d1, d2] => { results := [.lit (.bool true)], args := [d1, d2] }
  | _ => none }
def fnExactJoinUpDownRow : OpenClaim := { program := "ytbkbkpnpllemfaa", sum := "23d72337436fa0f9ca0500c3ea59c2d1f7c769ffc64559d8a25c044904c1757e", func := "loop.example/g00505/laws.FnExactJoinUpDown", spec := "fnExactJoinUpDown", unfollowed := true, recurses := true, apart := false }
def FnExactJoinUpDownSaid : Prop := fnExactJoinUpDownRow.holds Try.pinned (OpenSpec.ofChange fnExactJoinUpDownSpec)

/-- ITS FALSE NEIGHBOUR: 'it returns false'. Refute it at one input. -/
def fnExactJoinUpDownWrong : ChangeSpec := { name := "fnExactJoinUpDown", fn := fun _ => fun
  | [d1, d2] => { results := [.lit (.bool false)], args := [d1, d2] }
  | _ => none }
def FnExactJoinUpDownWrongFalsely : Prop := fnExactJoinUpDownRow.holds Try.pinned (OpenSpec.ofChange fnExactJoinUpDownWrong)

/-- 'laws.FnExactJoinThree': WHATEVER THE INPUT: true; the input reads as it did. -/
def fnExactJoinThreeSpec : ChangeSpec := { name := "fnExactJoinThree", fn := fun _ => fun
  | [d1, d2, d3, d4] => { results := [.lit (.bool true)], args := [d1, d2, d3, d4] }
  | _ => none }
def fnExactJoinThreeRow : OpenClaim := { program := "ytbkbkpnpllemfaa", sum := "23d72337436fa0f9ca0500c3ea59c2d1f7c769ffc64559d8a25c044904c1757e", func := "loop.example/g00505/laws.FnExactJoinThree", spec := "fnExactJoinThree", unfollowed := true, recurses := true, apart := false }
def FnExactJoinThreeSaid : Prop := fnExactJoinThreeRow.holds Try.pinned (OpenSpec.ofChange fnExactJoinThreeSpec)

/-- ITS FALSE NEIGHBOUR: 'it returns false'. Refute it at one input. -/
def fnExactJoinThreeWrong : ChangeSpec := { name := "fnExactJoinThree", fn := fun _ => fun
  | [d1, d2, d3, d4] => { results := [.lit (.bool false)], args := [d1, d2, d3, d4] }
  | _ => none }
def FnExactJoinThreeWrongFalsely : Prop := fnExactJoinThreeRow.holds Try.pinned (OpenSpec.ofChange fnExactJoinThreeWrong)

/-- 'laws.FnExactPathFromInts': WHATEVER THE INPUT: true; the input reads as it did. -/
def fnExactPathFromIntsSpec : ChangeSpec := { name := "fnExactPathFromInts", fn := fun _ => fun
  | [d] => { results := [.lit (.bool true)], args := [d] }
  | _ => none }
def fnExactPathFromIntsRow : OpenClaim := { program := "ytbkbkpnpllemfaa", sum := "23d72337436fa0f9ca0500c3ea59c2d1f7c769ffc64559d8a25c044904c1757e", func := "loop.example/g00505/laws.FnExactPathFromInts", spec := "fnExactPathFromInts", apart := false }
def FnExactPathFromIntsSaid : Prop := fnExactPathFromIntsRow.holds Try.pinned (OpenSpec.ofChange fnExactPathFromIntsSpec)

/-- ITS FALSE NEIGHBOUR: 'it returns false'. Refute it at one input. -/
def fnExactPathFromIntsWrong : ChangeSpec := { name := "fnExactPathFromInts", fn := fun _ => fun
  | [d] => { results := [.lit (.bool false)], args := [d] }
  | _ => none }
def FnExactPathFromIntsWrongFalsely : Prop := fnExactPathFromIntsRow.holds Try.pinned (OpenSpec.ofChange fnExactPathFromIntsWrong)

/-- 'laws.FnExactReversePath': WHATEVER THE INPUT: true; the input reads as it did. -/
def fnExactReversePathSpec : ChangeSpec := { name := "fnExactReversePath", fn := fun _ => fun
  | [d] => { results := [.lit (.bool true)], args := [d] }
  | _ => none }
def fnExactReversePathRow : OpenClaim := { program := "ytbkbkpnpllemfaa", sum := "23d72337436fa0f9ca0500c3ea59c2d1f7c769ffc64559d8a25c044904c1757e", func := "loop.example/g00505/laws.FnExactReversePath", spec := "fnExactReversePath", unfollowed := true, recurses := true, apart := false }
def FnExactReversePathSaid : Prop := fnExactReversePathRow.holds Try.pinned (OpenSpec.ofChange fnExactReversePathSpec)

/-- ITS FALSE NEIGHBOUR: 'it returns false'. Refute it at one input. -/
def fnExactReversePathWrong : ChangeSpec := { name := "fnExactReversePath", fn := fun _ => fun
  | [d] => { results := [.lit (.bool false)], args := [d] }
  | _ => none }
def FnExactReversePathWrongFalsely : Prop := fnExactReversePathRow.holds Try.pinned (OpenSpec.ofChange fnExactReversePathWrong)

/- THE SECOND FORM. 'bulk': how many values and letters a reading holds, each counted each time it is reached (what is shared counts as often as it is met; a slice's spare places count too). A statement '..UptoSaid' is the law's where the arguments, and the package variables that the reading takes, are together of bulk at most 1048576: NARROWER than '..Said'. Prove '..Said' where nothing that the law and all that it calls make is longer than what came in: it says more and counts as full. Else prove '..UptoSaid'. A law counts once. -/
mutual
def uptoBulk {H : Type} : DataW H → Nat
  | .lit (.string bytes) => bytes.length + 1
  | .lit _ => 1
  | .nil => 1
  | .ptr d => uptoBulk d + 1
  | .slice elems spare => uptoBulkAll elems + uptoBulkAll spare + 1
  | .agg parts => uptoBulkAll parts + 1
  | .iface _ d => uptoBulk d + 1
  | .map entries => uptoBulkEntries entries + 1
  | .held _ => 1
def uptoBulkAll {H : Type} : List (DataW H) → Nat
  | [] => 0
  | d :: r => uptoBulk d + uptoBulkAll r
def uptoBulkEntries {H : Type} : List (Lit × DataW H) → Nat
  | [] => 0
  | x :: r => uptoBulkEntry x + uptoBulkEntries r
def uptoBulkEntry {H : Type} : Lit × DataW H → Nat
  | (.string bytes, d) => bytes.length + uptoBulk d + 1
  | (_, d) => uptoBulk d + 1
 end
def uptoSmall : (H : Type) → List (DataW H) → Bool := fun _ ds => decide (uptoBulkAll ds ≤ 1048576)
def OpenSpec.upto (s : _root_.Go.ChangeSpec) : _root_.Go.OpenSpec := { _root_.Go.OpenSpec.ofChange s with cond := some uptoSmall }

/-- 'laws.FnExactSplice', WHERE WHAT IT READS IS OF BULK AT MOST 1048576: true; the input reads as it did. -/
def fnExactSpliceUptoRow : OpenClaim := { program := "ytbkbkpnpllemfaa", sum := "23d72337436fa0f9ca0500c3ea59c2d1f7c769ffc64559d8a25c044904c1757e", func := "loop.example/g00505/laws.FnExactSplice", spec := "fnExactSplice", apart := false, narrowed := true }
def FnExactSpliceUptoSaid : Prop := fnExactSpliceUptoRow.holds Try.pinned (OpenSpec.upto fnExactSpliceSpec)

/-- 'laws.FnExactMakePart', WHERE WHAT IT READS IS OF BULK AT MOST 1048576: true; the input reads as it did. -/
def fnExactMakePartUptoRow : OpenClaim := { program := "ytbkbkpnpllemfaa", sum := "23d72337436fa0f9ca0500c3ea59c2d1f7c769ffc64559d8a25c044904c1757e", func := "loop.example/g00505/laws.FnExactMakePart", spec := "fnExactMakePart", apart := false, narrowed := true }
def FnExactMakePartUptoSaid : Prop := fnExactMakePartUptoRow.holds Try.pinned (OpenSpec.upto fnExactMakePartSpec)

/-- 'laws.FnExactJoinUpDown', WHERE WHAT IT READS IS OF BULK AT MOST 1048576: true; the input reads as it did. -/
def fnExactJoinUpDownUptoRow : OpenClaim := { program := "ytbkbkpnpllemfaa", sum := "23d72337436fa0f9ca0500c3ea59c2d1f7c769ffc64559d8a25c044904c1757e", func := "loop.example/g00505/laws.FnExactJoinUpDown", spec := "fnExactJoinUpDown", unfollowed := true, recurses := true, apart := false, narrowed := true }
def FnExactJoinUpDownUptoSaid : Prop := fnExactJoinUpDownUptoRow.holds Try.pinned (OpenSpec.upto fnExactJoinUpDownSpec)

/-- 'laws.FnExactJoinThree', WHERE WHAT IT READS IS OF BULK AT MOST 1048576: true; the input reads as it did. -/
def fnExactJoinThreeUptoRow : OpenClaim := { program := "ytbkbkpnpllemfaa", sum := "23d72337436fa0f9ca0500c3ea59c2d1f7c769ffc64559d8a25c044904c1757e", func := "loop.example/g00505/laws.FnExactJoinThree", spec := "fnExactJoinThree", unfollowed := true, recurses := true, apart := false, narrowed := true }
def FnExactJoinThreeUptoSaid : Prop := fnExactJoinThreeUptoRow.holds Try.pinned (OpenSpec.upto fnExactJoinThreeSpec)

/-- 'laws.FnExactPathFromInts', WHERE WHAT IT READS IS OF BULK AT MOST 1048576: true; the input reads as it did. -/
def fnExactPathFromIntsUptoRow : OpenClaim := { program := "ytbkbkpnpllemfaa", sum := "23d72337436fa0f9ca0500c3ea59c2d1f7c769ffc64559d8a25c044904c1757e", func := "loop.example/g00505/laws.FnExactPathFromInts", spec := "fnExactPathFromInts", apart := false, narrowed := true }
def FnExactPathFromIntsUptoSaid : Prop := fnExactPathFromIntsUptoRow.holds Try.pinned (OpenSpec.upto fnExactPathFromIntsSpec)

/-- 'laws.FnExactReversePath', WHERE WHAT IT READS IS OF BULK AT MOST 1048576: true; the input reads as it did. -/
def fnExactReversePathUptoRow : OpenClaim := { program := "ytbkbkpnpllemfaa", sum := "23d72337436fa0f9ca0500c3ea59c2d1f7c769ffc64559d8a25c044904c1757e", func := "loop.example/g00505/laws.FnExactReversePath", spec := "fnExactReversePath", unfollowed := true, recurses := true, apart := false, narrowed := true }
def FnExactReversePathUptoSaid : Prop := fnExactReversePathUptoRow.holds Try.pinned (OpenSpec.upto fnExactReversePathSpec)

end Rows
end Go.Proofs.Ytbkbkpnpllemfaa
