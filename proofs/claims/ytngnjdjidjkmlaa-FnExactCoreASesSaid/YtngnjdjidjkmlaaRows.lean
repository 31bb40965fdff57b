/-
  No cell of these rows narrows 'for every input' (looked for: loops, veiled, ifaces, maps, wideKeys, modest, calm, conditions, laid).
  DERIVED. THE GIVEN ROWS OF THIS SEAT. 9 by the template 'for every input the law returns true; each argument reads behind the call as it read before'; 0 by the template 'total and deterministic' (their statements: YtngnjdjidjkmlaaTotals.lean).
  GIVEN WITH THE SEED: the statements are not yours to turn. If you find one false, say at which input.
  Laid BY PROGRAM, IN A SANDBOX (cutbox-rows.mjs): the forced cells as the released guide's own fill.sh prints them over the translation ac2cf3f1ea3ad52c… (all of the seat's roots in one cut). By AI agents, Wed Nov 11 2026. No macro, syntax, notation, axiom, sorry.
-/
import Derived.Test.YtngnjdjidjkmlaaChecked
import GoSem.Claim
import GoSem.ClaimJoined
import GoSem.ClaimMapViews
import Derived.JoinedTies
import Derived.KernelRfl
namespace Go.Proofs.Ytngnjdjidjkmlaa
/- THE CELL 'sum', in the pinned program and in every row, IS THE sha256 OF THE DUMP (.gsa) THAT YtngnjdjidjkmlaaProg.lean LOADS. Nothing in Lean hashes anything: it is a label: what it is worth is what the hold of that sum in a sandbox is worth. -/
noncomputable def Try.pinned : Pinned := { name := "ytngnjdjidjkmlaa", sum := "ac2cf3f1ea3ad52c17ac7a7447bc20513071cb7c694000937eae5af49a9e483a", checked := Try.checked }
namespace Rows
def none {H : Type} : Left H := { results := [], args := [] }

/-- 'laws.FnEnds': WHATEVER THE INPUT: true; the input reads as it did. -/
def fnEndsSpec : ChangeSpec := { name := "fnEnds", fn := fun _ => fun
  | [d] => { results := [.lit (.bool true)], args := [d] }
  | _ => none }
def fnEndsRow : OpenClaim := { program := "ytngnjdjidjkmlaa", sum := "ac2cf3f1ea3ad52c17ac7a7447bc20513071cb7c694000937eae5af49a9e483a", func := "loop.example/g00505/laws.FnEnds", spec := "fnEnds", plainKeys := false, apart := false }
def FnEndsSaid : Prop := fnEndsRow.holds Try.pinned (OpenSpec.ofChange fnEndsSpec)

/-- ITS FALSE NEIGHBOUR: 'it returns false'. Refute it at one input. -/
def fnEndsWrong : ChangeSpec := { name := "fnEnds", fn := fun _ => fun
  | [d] => { results := [.lit (.bool false)], args := [d] }
  | _ => none }
def FnEndsWrongFalsely : Prop := fnEndsRow.holds Try.pinned (OpenSpec.ofChange fnEndsWrong)

/-- 'laws.FnDoors': WHATEVER THE INPUT: true; the input reads as it did. -/
def fnDoorsSpec : ChangeSpec := { name := "fnDoors", fn := fun _ => fun
  | [d] => { results := [.lit (.bool true)], args := [d] }
  | _ => none }
def fnDoorsRow : OpenClaim := { program := "ytngnjdjidjkmlaa", sum := "ac2cf3f1ea3ad52c17ac7a7447bc20513071cb7c694000937eae5af49a9e483a", func := "loop.example/g00505/laws.FnDoors", spec := "fnDoors", recurses := true, plainKeys := false, apart := false }
def FnDoorsSaid : Prop := fnDoorsRow.holds Try.pinned (OpenSpec.ofChange fnDoorsSpec)

/-- ITS FALSE NEIGHBOUR: 'it returns false'. Refute it at one input. -/
def fnDoorsWrong : ChangeSpec := { name := "fnDoors", fn := fun _ => fun
  | [d] => { results := [.lit (.bool false)], args := [d] }
  | _ => none }
def FnDoorsWrongFalsely : Prop := fnDoorsRow.holds Try.pinned (OpenSpec.ofChange fnDoorsWrong)

/-- 'laws.FnExactValidTopology': WHATEVER THE INPUT: true; the input reads as it did. -/
def fnExactValidTopologySpec : ChangeSpec := { name := "fnExactValidTopology", fn := fun _ => fun
  | [d] => { results := [.lit (.bool true)], args := [d] }
  | _ => none }
def fnExactValidTopologyRow : OpenClaim := { program := "ytngnjdjidjkmlaa", sum := "ac2cf3f1ea3ad52c17ac7a7447bc20513071cb7c694000937eae5af49a9e483a", func := "loop.example/g00505/laws.FnExactValidTopology", spec := "fnExactValidTopology", plainKeys := false, apart := false }
def FnExactValidTopologySaid : Prop := fnExactValidTopologyRow.holds Try.pinned (OpenSpec.ofChange fnExactValidTopologySpec)

/-- ITS FALSE NEIGHBOUR: 'it returns false'. Refute it at one input. -/
def fnExactValidTopologyWrong : ChangeSpec := { name := "fnExactValidTopology", fn := fun _ => fun
  | [d] => { results := [.lit (.bool false)], args := [d] }
  | _ => none }
def FnExactValidTopologyWrongFalsely : Prop := fnExactValidTopologyRow.holds Try.pinned (OpenSpec.ofChange fnExactValidTopologyWrong)

/-- 'laws.FnExactRemoteEnd': WHATEVER THE INPUT: true; the input reads as it did. -/
def fnExactRemoteEndSpec : ChangeSpec := { name := "fnExactRemoteEnd", fn := fun _ => fun
  | [d1, d2, d3] => { results := [.lit (.bool true)], args := [d1, d2, d3] }
  | _ => none }
def fnExactRemoteEndRow : OpenClaim := { program := "ytngnjdjidjkmlaa", sum := "ac2cf3f1ea3ad52c17ac7a7447bc20513071cb7c694000937eae5af49a9e483a", func := "loop.example/g00505/laws.FnExactRemoteEnd", spec := "fnExactRemoteEnd", plainKeys := false, apart := false }
def FnExactRemoteEndSaid : Prop := fnExactRemoteEndRow.holds Try.pinned (OpenSpec.ofChange fnExactRemoteEndSpec)

/-- ITS FALSE NEIGHBOUR: 'it returns false'. Refute it at one input. -/
def fnExactRemoteEndWrong : ChangeSpec := { name := "fnExactRemoteEnd", fn := fun _ => fun
  | [d1, d2, d3] => { results := [.lit (.bool false)], args := [d1, d2, d3] }
  | _ => none }
def FnExactRemoteEndWrongFalsely : Prop := fnExactRemoteEndRow.holds Try.pinned (OpenSpec.ofChange fnExactRemoteEndWrong)

/-- 'laws.FnExactInterfaceKind': WHATEVER THE INPUT: true; the input reads as it did. -/
def fnExactInterfaceKindSpec : ChangeSpec := { name := "fnExactInterfaceKind", fn := fun _ => fun
  | [d1, d2, d3] => { results := [.lit (.bool true)], args := [d1, d2, d3] }
  | _ => none }
def fnExactInterfaceKindRow : OpenClaim := { program := "ytngnjdjidjkmlaa", sum := "ac2cf3f1ea3ad52c17ac7a7447bc20513071cb7c694000937eae5af49a9e483a", func := "loop.example/g00505/laws.FnExactInterfaceKind", spec := "fnExactInterfaceKind", plainKeys := false, apart := false }
def FnExactInterfaceKindSaid : Prop := fnExactInterfaceKindRow.holds Try.pinned (OpenSpec.ofChange fnExactInterfaceKindSpec)

/-- ITS FALSE NEIGHBOUR: 'it returns false'. Refute it at one input. -/
def fnExactInterfaceKindWrong : ChangeSpec := { name := "fnExactInterfaceKind", fn := fun _ => fun
  | [d1, d2, d3] => { results := [.lit (.bool false)], args := [d1, d2, d3] }
  | _ => none }
def FnExactInterfaceKindWrongFalsely : Prop := fnExactInterfaceKindRow.holds Try.pinned (OpenSpec.ofChange fnExactInterfaceKindWrong)

/-- 'laws.FnExactInterfaces': WHATEVER THE INPUT: true; the input reads as it did. -/
def fnExactInterfacesSpec : ChangeSpec := { name := "fnExactInterfaces", fn := fun _ => fun
  | [d1, d2] => { results := [.lit (.bool true)], args := [d1, d2] }
  | _ => none }
def fnExactInterfacesRow : OpenClaim := { program := "ytngnjdjidjkmlaa", sum := "ac2cf3f1ea3ad52c17ac7a7447bc20513071cb7c694000937eae5af49a9e483a", func := "loop.example/g00505/laws.FnExactInterfaces", spec := "fnExactInterfaces", recurses := true, plainKeys := false, apart := false }
def FnExactInterfacesSaid : Prop := fnExactInterfacesRow.holds Try.pinned (OpenSpec.ofChange fnExactInterfacesSpec)

/-- ITS FALSE NEIGHBOUR: 'it returns false'. Refute it at one input. -/
def fnExactInterfacesWrong : ChangeSpec := { name := "fnExactInterfaces", fn := fun _ => fun
  | [d1, d2] => { results := [.lit (.bool false)], args := [d1, d2] }
  | _ => none }
def FnExactInterfacesWrongFalsely : Prop := fnExactInterfacesRow.holds Try.pinned (OpenSpec.ofChange fnExactInterfacesWrong)

/-- 'laws.FnExactInterfacesOfKind': WHATEVER THE INPUT: true; the input reads as it did. -/
def fnExactInterfacesOfKindSpec : ChangeSpec := { name := "fnExactInterfacesOfKind", fn := fun _ => fun
  | [d1, d2, d3] => { results := [.lit (.bool true)], args := [d1, d2, d3] }
  | _ => none }
def fnExactInterfacesOfKindRow : OpenClaim := { program := "ytngnjdjidjkmlaa", sum := "ac2cf3f1ea3ad52c17ac7a7447bc20513071cb7c694000937eae5af49a9e483a", func := "loop.example/g00505/laws.FnExactInterfacesOfKind", spec := "fnExactInterfacesOfKind", recurses := true, plainKeys := false, apart := false }
def FnExactInterfacesOfKindSaid : Prop := fnExactInterfacesOfKindRow.holds Try.pinned (OpenSpec.ofChange fnExactInterfacesOfKindSpec)

/-- ITS FALSE NEIGHBOUR: 'it returns false'. Refute it at one input. -/
def fnExactInterfacesOfKindWrong : ChangeSpec := { name := "fnExactInterfacesOfKind", fn := fun _ => fun
  | [d1, d2, d3] => { results := [.lit (.bool false)], args := [d1, d2, d3] }
  | _ => none }
def FnExactInterfacesOfKindWrongFalsely : Prop := fnExactInterfacesOfKindRow.holds Try.pinned (OpenSpec.ofChange fnExactInterfacesOfKindWrong)

/-- 'laws.FnExactCoreASes': WHATEVER THE INPUT: true; the input reads as it did. -/
def fnExactCoreASesSpec : ChangeSpec := { name := "fnExactCoreASes", fn := fun _ => fun
  | [d1, d2] => { results := [.lit (.bool true)], args := [d1, d2] }
  | _ => none }
def fnExactCoreASesRow : OpenClaim := { program := "ytngnjdjidjkmlaa", sum := "ac2cf3f1ea3ad52c17ac7a7447bc20513071cb7c694000937eae5af49a9e483a", func := "loop.example/g00505/laws.FnExactCoreASes", spec := "fnExactCoreASes", plainKeys := false, apart := false }
def FnExactCoreASesSaid : Prop := fnExactCoreASesRow.holds Try.pinned (OpenSpec.ofChange fnExactCoreASesSpec)

/-- ITS FALSE NEIGHBOUR: 'it returns false'. Refute it at one input. -/
def fnExactCoreASesWrong : ChangeSpec := { name := "fnExactCoreASes", fn := fun _ => fun
  | [d1, d2] => { results := [.lit (.bool false)], args := [d1, d2] }
  | _ => none }
def FnExactCoreASesWrongFalsely : Prop := fnExactCoreASesRow.holds Try.pinned (OpenSpec.ofChange fnExactCoreASesWrong)

/-- 'laws.FnExactLinkIndex': WHATEVER THE INPUT: true; the input reads as it did. -/
def fnExactLinkIndexSpec : ChangeSpec := { name := "fnExactLinkIndex", fn := fun _ => fun
  | [d1, d2, d3] => { results := [.lit (.bool true)], args := [d1, d2, d3] }
  | _ => none }
def fnExactLinkIndexRow : OpenClaim := { program := "ytngnjdjidjkmlaa", sum := "ac2cf3f1ea3ad52c17ac7a7447bc20513071cb7c694000937eae5af49a9e483a", func := "loop.example/g00505/laws.FnExactLinkIndex", spec := "fnExactLinkIndex", plainKeys := false, apart := false }
def FnExactLinkIndexSaid : Prop := fnExactLinkIndexRow.holds Try.pinned (OpenSpec.ofChange fnExactLinkIndexSpec)

/-- ITS FALSE NEIGHBOUR: 'it returns false'. Refute it at one input. -/
def fnExactLinkIndexWrong : ChangeSpec := { name := "fnExactLinkIndex", fn := fun _ => fun
  | [d1, d2, d3] => { results := [.lit (.bool false)], args := [d1, d2, d3] }
  | _ => none }
def FnExactLinkIndexWrongFalsely : Prop := fnExactLinkIndexRow.holds Try.pinned (OpenSpec.ofChange fnExactLinkIndexWrong)

/- THE SECOND FORM. 'bulk': how many values and letters a reading holds, each counted each time it is reached (what is shared counts as often as it is met; a slice's spare places count too). A statement '..UptoSaid' is the law's where the arguments, and the package variables that the reading takes, are together of bulk at most 1048576: NARROWER than '..Said'. Prove '..Said' where nothing that the law and all that it calls make is longer than what came in: it says more and counts as full. Else prove '..UptoSaid'. A law counts once. -/
mutual
def uptoBulk {H : Type} : DataW H → Nat
  | .lit (.string bytes) => bytes.length + 1
  | .lit _ => 1
  | .nil => 1
  | .ptr d => uptoBulk d + 1
  | .slice elems spare => uptoBulkAll elems + uptoBulkAll spare + 1
  | .agg parts => uptoBulkAll parts + 1
  | .iface _ d => uptoBulk d + 1
  | .map entries => uptoBulkEntries entries + 1
  | .held _ => 1
def uptoBulkAll {H : Type} : List (DataW H) → Nat
  | [] => 0
  | d :: r => uptoBulk d + uptoBulkAll r
def uptoBulkEntries {H : Type} : List (Lit × DataW H) → Nat
  | [] => 0
  | x :: r => uptoBulkEntry x + uptoBulkEntries r
def uptoBulkEntry {H : Type} : Lit × DataW H → Nat
  | (.string bytes, d) => bytes.length + uptoBulk d + 1
  | (_, d) => uptoBulk d + 1
 end
def uptoSmall : (H : Type) → List (DataW H) → Bool := fun _ ds => decide (uptoBulkAll ds ≤ 1048576)
def OpenSpec.upto (s : _root_.Go.ChangeSpec) : _root_.Go.OpenSpec := { _root_.Go.OpenSpec.ofChange s with cond := some uptoSmall }

/-- 'laws.FnEnds', WHERE WHAT IT READS IS OF BULK AT MOST 1048576: true; the input reads as it did. -/
def fnEndsUptoRow : OpenClaim := { program := "ytngnjdjidjkmlaa", sum := "ac2cf3f1ea3ad52c17ac7a7447bc20513071cb7c694000937eae5af49a9e483a", func := "loop.example/g00505/laws.FnEnds", spec := "fnEnds", plainKeys := false, apart := false, narrowed := true }
def FnEndsUptoSaid : Prop := fnEndsUptoRow.holds Try.pinned (OpenSpec.upto fnEndsSpec)

/-- 'laws.FnDoors', WHERE WHAT IT READS IS OF BULK AT MOST 1048576: true; the input reads as it did. -/
def fnDoorsUptoRow : OpenClaim := { program := "ytngnjdjidjkmlaa", sum := "ac2cf3f1ea3ad52c17ac7a7447bc20513071cb7c694000937eae5af49a9e483a", func := "loop.example/g00505/laws.FnDoors", spec := "fnDoors", recurses := true, plainKeys := false, apart := false, narrowed := true }
def FnDoorsUptoSaid : Prop := fnDoorsUptoRow.holds Try.pinned (OpenSpec.upto fnDoorsSpec)

/-- 'laws.FnExactValidTopology', WHERE WHAT IT READS IS OF BULK AT MOST 1048576: true; the input reads as it did. -/
def fnExactValidTopologyUptoRow : OpenClaim := { program := "ytngnjdjidjkmlaa", sum := "ac2cf3f1ea3ad52c17ac7a7447bc20513071cb7c694000937eae5af49a9e483a", func := "loop.example/g00505/laws.FnExactValidTopology", spec := "fnExactValidTopology", plainKeys := false, apart := false, narrowed := true }
def FnExactValidTopologyUptoSaid : Prop := fnExactValidTopologyUptoRow.holds Try.pinned (OpenSpec.upto fnExactValidTopologySpec)

/-- 'laws.FnExactRemoteEnd', WHERE WHAT IT READS IS OF BULK AT MOST 1048576: true; the input reads as it did. -/
def fnExactRemoteEndUptoRow : OpenClaim := { program := "ytngnjdjidjkmlaa", sum := "ac2cf3f1ea3ad52c17ac7a7447bc20513071cb7c694000937eae5af49a9e483a", func := "loop.example/g00505/laws.FnExactRemoteEnd", spec := "fnExactRemoteEnd", plainKeys := false, apart := false, narrowed := true }
def FnExactRemoteEndUptoSaid : Prop := fnExactRemoteEndUptoRow.holds Try.pinned (OpenSpec.upto fnExactRemoteEndSpec)

/-- 'laws.FnExactInterfaceKind', WHERE WHAT IT READS IS OF BULK AT MOST 1048576: true; the input reads as it did. -/
def fnExactInterfaceKindUptoRow : OpenClaim := { program := "ytngnjdjidjkmlaa", sum := "ac2cf3f1ea3ad52c17ac7a7447bc20513071cb7c694000937eae5af49a9e483a", func := "loop.example/g00505/laws.FnExactInterfaceKind", spec := "fnExactInterfaceKind", plainKeys := false, apart := false, narrowed := true }
def FnExactInterfaceKindUptoSaid : Prop := fnExactInterfaceKindUptoRow.holds Try.pinned (OpenSpec.upto fnExactInterfaceKindSpec)

/-- 'laws.FnExactInterfaces', WHERE WHAT IT READS IS OF BULK AT MOST 1048576: true; the input reads as it did. -/
def fnExactInterfacesUptoRow : OpenClaim := { program := "ytngnjdjidjkmlaa", sum := "ac2cf3f1ea3ad52c17ac7a7447bc20513071cb7c694000937eae5af49a9e483a", func := "loop.example/g00505/laws.FnExactInterfaces", spec := "fnExactInterfaces", recurses := true, plainKeys := false, apart := false, narrowed := true }
def FnExactInterfacesUptoSaid : Prop := fnExactInterfacesUptoRow.holds Try.pinned (OpenSpec.upto fnExactInterfacesSpec)

/-- 'laws.FnExactInterfacesOfKind', WHERE WHAT IT READS IS OF BULK AT MOST 1048576: true; the input reads as it did. -/
def fnExactInterfacesOfKindUptoRow : OpenClaim := { program := "ytngnjdjidjkmlaa", sum := "ac2cf3f1ea3ad52c17ac7a7447bc20513071cb7c694000937eae5af49a9e483a", func := "loop.example/g00505/laws.FnExactInterfacesOfKind", spec := "fnExactInterfacesOfKind", recurses := true, plainKeys := false, apart := false, narrowed := true }
def FnExactInterfacesOfKindUptoSaid : Prop := fnExactInterfacesOfKindUptoRow.holds Try.pinned (OpenSpec.upto fnExactInterfacesOfKindSpec)

/-- 'laws.FnExactCoreASes', WHERE WHAT IT READS IS OF BULK AT MOST 1048576: true; the input reads as it did. -/
def fnExactCoreASesUptoRow : OpenClaim := { program := "ytngnjdjidjkmlaa", sum := "ac2cf3f1ea3ad52c17ac7a7447bc20513071cb7c694000937eae5af49a9e483a", func := "loop.example/g00505/laws.FnExactCoreASes", spec := "fnExactCoreASes", plainKeys := false, apart := false, narrowed := true }
def FnExactCoreASesUptoSaid : Prop := fnExactCoreASesUptoRow.holds Try.pinned (OpenSpec.upto fnExactCoreASesSpec)

/-- 'laws.FnExactLinkIndex', WHERE WHAT IT READS IS OF BULK AT MOST 1048576: true; the input reads as it did. -/
def fnExactLinkIndexUptoRow : OpenClaim := { program := "ytngnjdjidjkmlaa", sum := "ac2cf3f1ea3ad52c17ac7a7447bc20513071cb7c694000937eae5af49a9e483a", func := "loop.example/g00505/laws.FnExactLinkIndex", spec := "fnExactLinkIndex", plainKeys := false, apart := false, narrowed := true }
def FnExactLinkIndexUptoSaid : Prop := fnExactLinkIndexUptoRow.holds Try.pinned (OpenSpec.upto fnExactLinkIndexSpec)

end Rows
end Go.Proofs.Ytngnjdjidjkmlaa
