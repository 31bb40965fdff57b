/-
  No cell of these rows narrows 'for every input' (looked for: loops, veiled, ifaces, maps, wideKeys, modest, calm, conditions, laid).
  DERIVED. THE GIVEN ROWS OF THIS SEAT. 4 by the template 'for every input the law returns true; each argument reads behind the call as it read before'; 0 by the template 'total and deterministic' (their statements: YtldnfjpdhmjhoaaTotals.lean).
  GIVEN WITH THE SEED: the statements are not yours to turn. If you find one false, say at which input.
  Laid BY PROGRAM, IN A SANDBOX (cutbox-rows.mjs): the forced cells as the released guide's own fill.sh prints them over the translation c10d5501e7ec72c1… (all of the seat's roots in one cut). By AI agents, Wed Nov 11 2026. No macro, syntax, notation, axiom, sorry.
-/
import Derived.Test.YtldnfjpdhmjhoaaChecked
import GoSem.Claim
import GoSem.ClaimJoined
import GoSem.ClaimMapViews
import Derived.JoinedTies
import Derived.KernelRfl
namespace Go.Proofs.Ytldnfjpdhmjhoaa
/- THE CELL 'sum', in the pinned program and in every row, IS THE sha256 OF THE DUMP (.gsa) THAT YtldnfjpdhmjhoaaProg.lean LOADS. Nothing in Lean hashes anything: it is a label: what it is worth is what the hold of that sum in a sandbox is worth. -/
noncomputable def Try.pinned : Pinned := { name := "ytldnfjpdhmjhoaa", sum := "c10d5501e7ec72c105bb7b9eafa184b4b9a6ad8d585d3b4378c2466524eea0ef", checked := Try.checked }
namespace Rows
def none {H : Type} : Left H := { results := [], args := [] }

/-- 'laws.FnExactEgressSteps': WHATEVER THE INPUT: true; the input reads as it did. -/
def fnExactEgressStepsSpec : ChangeSpec := { name := "fnExactEgressSteps", fn := fun _ => fun
  | [d] => { results := [.lit (.bool true)], args := [d] }
  | _ => none }
def fnExactEgressStepsRow : OpenClaim := { program := "ytldnfjpdhmjhoaa", sum := "c10d5501e7ec72c105bb7b9eafa184b4b9a6ad8d585d3b4378c2466524eea0ef", func := "loop.example/g00505/laws.FnExactEgressSteps", spec := "fnExactEgressSteps", unfollowed := true, recurses := true, apart := false }
def FnExactEgressStepsSaid : Prop := fnExactEgressStepsRow.holds Try.pinned (OpenSpec.ofChange fnExactEgressStepsSpec)

/-- ITS FALSE NEIGHBOUR: 'it returns false'. Refute it at one input. -/
def fnExactEgressStepsWrong : ChangeSpec := { name := "fnExactEgressSteps", fn := fun _ => fun
  | [d] => { results := [.lit (.bool false)], args := [d] }
  | _ => none }
def FnExactEgressStepsWrongFalsely : Prop := fnExactEgressStepsRow.holds Try.pinned (OpenSpec.ofChange fnExactEgressStepsWrong)

/-- 'laws.FnExactPathReserved': WHATEVER THE INPUT: true; the input reads as it did. -/
def fnExactPathReservedSpec : ChangeSpec := { name := "fnExactPathReserved", fn := fun _ => fun
  | [d1, d2, d3, d4] => { results := [.lit (.bool true)], args := [d1, d2, d3, d4] }
  | _ => none }
def fnExactPathReservedRow : OpenClaim := { program := "ytldnfjpdhmjhoaa", sum := "c10d5501e7ec72c105bb7b9eafa184b4b9a6ad8d585d3b4378c2466524eea0ef", func := "loop.example/g00505/laws.FnExactPathReserved", spec := "fnExactPathReserved", unfollowed := true, recurses := true, apart := false }
def FnExactPathReservedSaid : Prop := fnExactPathReservedRow.holds Try.pinned (OpenSpec.ofChange fnExactPathReservedSpec)

/-- ITS FALSE NEIGHBOUR: 'it returns false'. Refute it at one input. -/
def fnExactPathReservedWrong : ChangeSpec := { name := "fnExactPathReserved", fn := fun _ => fun
  | [d1, d2, d3, d4] => { results := [.lit (.bool false)], args := [d1, d2, d3, d4] }
  | _ => none }
def FnExactPathReservedWrongFalsely : Prop := fnExactPathReservedRow.holds Try.pinned (OpenSpec.ofChange fnExactPathReservedWrong)

/-- 'laws.FnExactPathRate': WHATEVER THE INPUT: true; the input reads as it did. -/
def fnExactPathRateSpec : ChangeSpec := { name := "fnExactPathRate", fn := fun _ => fun
  | [d1, d2, d3, d4] => { results := [.lit (.bool true)], args := [d1, d2, d3, d4] }
  | _ => none }
def fnExactPathRateRow : OpenClaim := { program := "ytldnfjpdhmjhoaa", sum := "c10d5501e7ec72c105bb7b9eafa184b4b9a6ad8d585d3b4378c2466524eea0ef", func := "loop.example/g00505/laws.FnExactPathRate", spec := "fnExactPathRate", unfollowed := true, recurses := true, apart := false }
def FnExactPathRateSaid : Prop := fnExactPathRateRow.holds Try.pinned (OpenSpec.ofChange fnExactPathRateSpec)

/-- ITS FALSE NEIGHBOUR: 'it returns false'. Refute it at one input. -/
def fnExactPathRateWrong : ChangeSpec := { name := "fnExactPathRate", fn := fun _ => fun
  | [d1, d2, d3, d4] => { results := [.lit (.bool false)], args := [d1, d2, d3, d4] }
  | _ => none }
def FnExactPathRateWrongFalsely : Prop := fnExactPathRateRow.holds Try.pinned (OpenSpec.ofChange fnExactPathRateWrong)

/-- 'laws.FnExactAvailableRate': WHATEVER THE INPUT: true; the input reads as it did. -/
def fnExactAvailableRateSpec : ChangeSpec := { name := "fnExactAvailableRate", fn := fun _ => fun
  | [d1, d2, d3, d4] => { results := [.lit (.bool true)], args := [d1, d2, d3, d4] }
  | _ => none }
def fnExactAvailableRateRow : OpenClaim := { program := "ytldnfjpdhmjhoaa", sum := "c10d5501e7ec72c105bb7b9eafa184b4b9a6ad8d585d3b4378c2466524eea0ef", func := "loop.example/g00505/laws.FnExactAvailableRate", spec := "fnExactAvailableRate", unfollowed := true, recurses := true, apart := false }
def FnExactAvailableRateSaid : Prop := fnExactAvailableRateRow.holds Try.pinned (OpenSpec.ofChange fnExactAvailableRateSpec)

/-- ITS FALSE NEIGHBOUR: 'it returns false'. Refute it at one input. -/
def fnExactAvailableRateWrong : ChangeSpec := { name := "fnExactAvailableRate", fn := fun _ => fun
  | [d1, d2, d3, d4] => { results := [.lit (.bool false)], args := [d1, d2, d3, d4] }
  | _ => none }
def FnExactAvailableRateWrongFalsely : Prop := fnExactAvailableRateRow.holds Try.pinned (OpenSpec.ofChange fnExactAvailableRateWrong)

/- THE SECOND FORM. 'bulk': how many values and letters a reading holds, each counted each time it is reached (what is shared counts as often as it is met; a slice's spare places count too). A statement '..UptoSaid' is the law's where the arguments, and the package variables that the reading takes, are together of bulk at most 1048576: NARROWER than '..Said'. Prove '..Said' where nothing that the law and all that it calls make is longer than what came in: it says more and counts as full. Else prove '..UptoSaid'. A law counts once. -/
mutual
def uptoBulk {H : Type} : DataW H → Nat
  | .lit (.string bytes) => bytes.length + 1
  | .lit _ => 1
  | .nil => 1
  | .ptr d => uptoBulk d + 1
  | .slice elems spare => uptoBulkAll elems + uptoBulkAll spare + 1
  | .agg parts => uptoBulkAll parts + 1
  | .iface _ d => uptoBulk d + 1
  | .map entries => uptoBulkEntries entries + 1
  | .held _ => 1
def uptoBulkAll {H : Type} : List (DataW H) → Nat
  | [] => 0
  | d :: r => uptoBulk d + uptoBulkAll r
def uptoBulkEntries {H : Type} : List (Lit × DataW H) → Nat
  | [] => 0
  | x :: r => uptoBulkEntry x + uptoBulkEntries r
def uptoBulkEntry {H : Type} : Lit × DataW H → Nat
  | (.string bytes, d) => bytes.length + uptoBulk d + 1
  | (_, d) => uptoBulk d + 1
 end
def uptoSmall : (H : Type) → List (DataW H) → Bool := fun _ ds => decide (uptoBulkAll ds ≤ 1048576)
def OpenSpec.upto (s : _root_.Go.ChangeSpec) : _root_.Go.OpenSpec := { _root_.Go.OpenSpec.ofChange s with cond := some uptoSmall }

/-- 'laws.FnExactEgressSteps', WHERE WHAT IT READS IS OF BULK AT MOST 1048576: true; the input reads as it did. -/
def fnExactEgressStepsUptoRow : OpenClaim := { program := "ytldnfjpdhmjhoaa", sum := "c10d5501e7ec72c105bb7b9eafa184b4b9a6ad8d585d3b4378c2466524eea0ef", func := "loop.example/g00505/laws.FnExactEgressSteps", spec := "fnExactEgressSteps", unfollowed := true, recurses := true, apart := false, narrowed := true }
def FnExactEgressStepsUptoSaid : Prop := fnExactEgressStepsUptoRow.holds Try.pinned (OpenSpec.upto fnExactEgressStepsSpec)

/-- 'laws.FnExactPathReserved', WHERE WHAT IT READS IS OF BULK AT MOST 1048576: true; the input reads as it did. -/
def fnExactPathReservedUptoRow : OpenClaim := { program := "ytldnfjpdhmjhoaa", sum := "c10d5501e7ec72c105bb7b9eafa184b4b9a6ad8d585d3b4378c2466524eea0ef", func := "loop.example/g00505/laws.FnExactPathReserved", spec := "fnExactPathReserved", unfollowed := true, recurses := true, apart := false, narrowed := true }
def FnExactPathReservedUptoSaid : Prop := fnExactPathReservedUptoRow.holds Try.pinned (OpenSpec.upto fnExactPathReservedSpec)

/-- 'laws.FnExactPathRate', WHERE WHAT IT READS IS OF BULK AT MOST 1048576: true; the input reads as it did. -/
def fnExactPathRateUptoRow : OpenClaim := { program := "ytldnfjpdhmjhoaa", sum := "c10d5501e7ec72c105bb7b9eafa184b4b9a6ad8d585d3b4378c2466524eea0ef", func := "loop.example/g00505/laws.FnExactPathRate", spec := "fnExactPathRate", unfollowed := true, recurses := true, apart := false, narrowed := true }
def FnExactPathRateUptoSaid : Prop := fnExactPathRateUptoRow.holds Try.pinned (OpenSpec.upto fnExactPathRateSpec)

/-- 'laws.FnExactAvailableRate', WHERE WHAT IT READS IS OF BULK AT MOST 1048576: true; the input reads as it did. -/
def fnExactAvailableRateUptoRow : OpenClaim := { program := "ytldnfjpdhmjhoaa", sum := "c10d5501e7ec72c105bb7b9eafa184b4b9a6ad8d585d3b4378c2466524eea0ef", func := "loop.example/g00505/laws.FnExactAvailableRate", spec := "fnExactAvailableRate", unfollowed := true, recurses := true, apart := false, narrowed := true }
def FnExactAvailableRateUptoSaid : Prop := fnExactAvailableRateUptoRow.holds Try.pinned (OpenSpec.upto fnExactAvailableRateSpec)

end Rows
end Go.Proofs.Ytldnfjpdhmjhoaa
