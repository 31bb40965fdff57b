/-
  No cell of these rows narrows 'for every input' (looked for: loops, veiled, ifaces, maps, wideKeys, modest, calm, conditions, laid).
  DERIVED. THE GIVEN ROWS OF THIS SEAT. 12 by the template 'for every input the law returns true; each argument reads behind the call as it read before'; 0 by the template 'total and deterministic' (their statements: YtmpbpbcjflmfeaaTotals.lean).
  GIVEN WITH THE SEED: the statements are not yours to turn. If you find one false, say at which input.
  Laid BY PROGRAM, IN A SANDBOX (cutbox-rows.mjs): the forced cells as the released guide's own fill.sh prints them over the translation 698287993fe2c205… (all of the seat's roots in one cut). By AI agents, Wed Nov 11 2026. No macro, syntax, notation, axiom, sorry.
-/
import Derived.Test.YtmpbpbcjflmfeaaChecked
import GoSem.Claim
import GoSem.ClaimJoined
import GoSem.ClaimMapViews
import Derived.JoinedTies
import Derived.KernelRfl
namespace Go.Proofs.Ytmpbpbcjflmfeaa
/- THE CELL 'sum', in the pinned program and in every row, IS THE sha256 OF THE DUMP (.gsa) THAT YtmpbpbcjflmfeaaProg.lean LOADS. Nothing in Lean hashes anything: it is a label: what it is worth is what the hold of that sum in a sandbox is worth. -/
noncomputable def Try.pinned : Pinned := { name := "ytmpbpbcjflmfeaa", sum := "698287993fe2c205894e75cc6d7a46ff4619d2fb2229d3055c33cabd5a1c629d", checked := Try.checked }
namespace Rows
def none {H : Type} : Left H := { results := [], args := [] }

/-- 'laws.FnExactPathSteps': WHATEVER THE INPUT: true; the input reads as it did. -/
def fnExactPathStepsSpec : ChangeSpec := { name := "fnExactPathSteps", fn := fun _ => fun
  | [d] => { results := [.lit (.bool true)], args := [d] }
  | _ => none }
def fnExactPathStepsRow : OpenClaim := { program := "ytmpbpbcjflmfeaa", sum := "698287993fe2c205894e75cc6d7a46ff4619d2fb2229d3055c33cabd5a1c629d", func := "loop.example/g00505/laws.FnExactPathSteps", spec := "fnExactPathSteps", apart := false }
def FnExactPathStepsSaid : Prop := fnExactPathStepsRow.holds Try.pinned (OpenSpec.ofChange fnExactPathStepsSpec)

/-- ITS FALSE NEIGHBOUR: 'it returns false'. Refute it at one input. -/
def fnExactPathStepsWrong : ChangeSpec := { name := "fnExactPathSteps", fn := fun _ => fun
  | [d] => { results := [.lit (.bool false)], args := [d] }
  | _ => none }
def FnExactPathStepsWrongFalsely : Prop := fnExactPathStepsRow.holds Try.pinned (OpenSpec.ofChange fnExactPathStepsWrong)

/-- 'laws.FnExactInterfacesUsed': WHATEVER THE INPUT: true; the input reads as it did. -/
def fnExactInterfacesUsedSpec : ChangeSpec := { name := "fnExactInterfacesUsed", fn := fun _ => fun
  | [d] => { results := [.lit (.bool true)], args := [d] }
  | _ => none }
def fnExactInterfacesUsedRow : OpenClaim := { program := "ytmpbpbcjflmfeaa", sum := "698287993fe2c205894e75cc6d7a46ff4619d2fb2229d3055c33cabd5a1c629d", func := "loop.example/g00505/laws.FnExactInterfacesUsed", spec := "fnExactInterfacesUsed", apart := false }
def FnExactInterfacesUsedSaid : Prop := fnExactInterfacesUsedRow.holds Try.pinned (OpenSpec.ofChange fnExactInterfacesUsedSpec)

/-- ITS FALSE NEIGHBOUR: 'it returns false'. Refute it at one input. -/
def fnExactInterfacesUsedWrong : ChangeSpec := { name := "fnExactInterfacesUsed", fn := fun _ => fun
  | [d] => { results := [.lit (.bool false)], args := [d] }
  | _ => none }
def FnExactInterfacesUsedWrongFalsely : Prop := fnExactInterfacesUsedRow.holds Try.pinned (OpenSpec.ofChange fnExactInterfacesUsedWrong)

/-- 'laws.FnExactPathLength': WHATEVER THE INPUT: true; the input reads as it did. -/
def fnExactPathLengthSpec : ChangeSpec := { name := "fnExactPathLength", fn := fun _ => fun
  | [d] => { results := [.lit (.bool true)], args := [d] }
  | _ => none }
def fnExactPathLengthRow : OpenClaim := { program := "ytmpbpbcjflmfeaa", sum := "698287993fe2c205894e75cc6d7a46ff4619d2fb2229d3055c33cabd5a1c629d", func := "loop.example/g00505/laws.FnExactPathLength", spec := "fnExactPathLength", apart := false }
def FnExactPathLengthSaid : Prop := fnExactPathLengthRow.holds Try.pinned (OpenSpec.ofChange fnExactPathLengthSpec)

/-- ITS FALSE NEIGHBOUR: 'it returns false'. Refute it at one input. -/
def fnExactPathLengthWrong : ChangeSpec := { name := "fnExactPathLength", fn := fun _ => fun
  | [d] => { results := [.lit (.bool false)], args := [d] }
  | _ => none }
def FnExactPathLengthWrongFalsely : Prop := fnExactPathLengthRow.holds Try.pinned (OpenSpec.ofChange fnExactPathLengthWrong)

/-- 'laws.FnExactPathAllowed': WHATEVER THE INPUT: true; the input reads as it did. -/
def fnExactPathAllowedSpec : ChangeSpec := { name := "fnExactPathAllowed", fn := fun _ => fun
  | [d1, d2] => { results := [.lit (.bool true)], args := [d1, d2] }
  | _ => none }
def fnExactPathAllowedRow : OpenClaim := { program := "ytmpbpbcjflmfeaa", sum := "698287993fe2c205894e75cc6d7a46ff4619d2fb2229d3055c33cabd5a1c629d", func := "loop.example/g00505/laws.FnExactPathAllowed", spec := "fnExactPathAllowed", apart := false }
def FnExactPathAllowedSaid : Prop := fnExactPathAllowedRow.holds Try.pinned (OpenSpec.ofChange fnExactPathAllowedSpec)

/-- ITS FALSE NEIGHBOUR: 'it returns false'. Refute it at one input. -/
def fnExactPathAllowedWrong : ChangeSpec := { name := "fnExactPathAllowed", fn := fun _ => fun
  | [d1, d2] => { results := [.lit (.bool false)], args := [d1, d2] }
  | _ => none }
def FnExactPathAllowedWrongFalsely : Prop := fnExactPathAllowedRow.holds Try.pinned (OpenSpec.ofChange fnExactPathAllowedWrong)

/-- 'laws.FnExactFirstForbiddenStep': WHATEVER THE INPUT: true; the input reads as it did. -/
def fnExactFirstForbiddenStepSpec : ChangeSpec := { name := "fnExactFirstForbiddenStep", fn := fun _ => fun
  | [d1, d2] => { results := [.lit (.bool true)], args := [d1, d2] }
  | _ => none }
def fnExactFirstForbiddenStepRow : OpenClaim := { program := "ytmpbpbcjflmfeaa", sum := "698287993fe2c205894e75cc6d7a46ff4619d2fb2229d3055c33cabd5a1c629d", func := "loop.example/g00505/laws.FnExactFirstForbiddenStep", spec := "fnExactFirstForbiddenStep", apart := false }
def FnExactFirstForbiddenStepSaid : Prop := fnExactFirstForbiddenStepRow.holds Try.pinned (OpenSpec.ofChange fnExactFirstForbiddenStepSpec)

/-- ITS FALSE NEIGHBOUR: 'it returns false'. Refute it at one input. -/
def fnExactFirstForbiddenStepWrong : ChangeSpec := { name := "fnExactFirstForbiddenStep", fn := fun _ => fun
  | [d1, d2] => { results := [.lit (.bool false)], args := [d1, d2] }
  | _ => none }
def FnExactFirstForbiddenStepWrongFalsely : Prop := fnExactFirstForbiddenStepRow.holds Try.pinned (OpenSpec.ofChange fnExactFirstForbiddenStepWrong)

/-- 'laws.FnExactUpSteps': WHATEVER THE INPUT: true; the input reads as it did. -/
def fnExactUpStepsSpec : ChangeSpec := { name := "fnExactUpSteps", fn := fun _ => fun
  | [d1, d2] => { results := [.lit (.bool true)], args := [d1, d2] }
  | _ => none }
def fnExactUpStepsRow : OpenClaim := { program := "ytmpbpbcjflmfeaa", sum := "698287993fe2c205894e75cc6d7a46ff4619d2fb2229d3055c33cabd5a1c629d", func := "loop.example/g00505/laws.FnExactUpSteps", spec := "fnExactUpSteps", apart := false }
def FnExactUpStepsSaid : Prop := fnExactUpStepsRow.holds Try.pinned (OpenSpec.ofChange fnExactUpStepsSpec)

/-- ITS FALSE NEIGHBOUR: 'it returns false'. Refute it at one input. -/
def fnExactUpStepsWrong : ChangeSpec := { name := "fnExactUpSteps", fn := fun _ => fun
  | [d1, d2] => { results := [.lit (.bool false)], args := [d1, d2] }
  | _ => none }
def FnExactUpStepsWrongFalsely : Prop := fnExactUpStepsRow.holds Try.pinned (OpenSpec.ofChange fnExactUpStepsWrong)

/-- 'laws.FnExactDownSteps': WHATEVER THE INPUT: true; the input reads as it did. -/
def fnExactDownStepsSpec : ChangeSpec := { name := "fnExactDownSteps", fn := fun _ => fun
  | [d1, d2] => { results := [.lit (.bool true)], args := [d1, d2] }
  | _ => none }
def fnExactDownStepsRow : OpenClaim := { program := "ytmpbpbcjflmfeaa", sum := "698287993fe2c205894e75cc6d7a46ff4619d2fb2229d3055c33cabd5a1c629d", func := "loop.example/g00505/laws.FnExactDownSteps", spec := "fnExactDownSteps", apart := false }
def FnExactDownStepsSaid : Prop := fnExactDownStepsRow.holds Try.pinned (OpenSpec.ofChange fnExactDownStepsSpec)

/-- ITS FALSE NEIGHBOUR: 'it returns false'. Refute it at one input. -/
def fnExactDownStepsWrong : ChangeSpec := { name := "fnExactDownSteps", fn := fun _ => fun
  | [d1, d2] => { results := [.lit (.bool false)], args := [d1, d2] }
  | _ => none }
def FnExactDownStepsWrongFalsely : Prop := fnExactDownStepsRow.holds Try.pinned (OpenSpec.ofChange fnExactDownStepsWrong)

/-- 'laws.FnExactCoreSteps': WHATEVER THE INPUT: true; the input reads as it did. -/
def fnExactCoreStepsSpec : ChangeSpec := { name := "fnExactCoreSteps", fn := fun _ => fun
  | [d1, d2] => { results := [.lit (.bool true)], args := [d1, d2] }
  | _ => none }
def fnExactCoreStepsRow : OpenClaim := { program := "ytmpbpbcjflmfeaa", sum := "698287993fe2c205894e75cc6d7a46ff4619d2fb2229d3055c33cabd5a1c629d", func := "loop.example/g00505/laws.FnExactCoreSteps", spec := "fnExactCoreSteps", apart := false }
def FnExactCoreStepsSaid : Prop := fnExactCoreStepsRow.holds Try.pinned (OpenSpec.ofChange fnExactCoreStepsSpec)

/-- ITS FALSE NEIGHBOUR: 'it returns false'. Refute it at one input. -/
def fnExactCoreStepsWrong : ChangeSpec := { name := "fnExactCoreSteps", fn := fun _ => fun
  | [d1, d2] => { results := [.lit (.bool false)], args := [d1, d2] }
  | _ => none }
def FnExactCoreStepsWrongFalsely : Prop := fnExactCoreStepsRow.holds Try.pinned (OpenSpec.ofChange fnExactCoreStepsWrong)

/-- 'laws.FnExactAffects': WHATEVER THE INPUT: true; the input reads as it did. -/
def fnExactAffectsSpec : ChangeSpec := { name := "fnExactAffects", fn := fun _ => fun
  | [d1, d2] => { results := [.lit (.bool true)], args := [d1, d2] }
  | _ => none }
def fnExactAffectsRow : OpenClaim := { program := "ytmpbpbcjflmfeaa", sum := "698287993fe2c205894e75cc6d7a46ff4619d2fb2229d3055c33cabd5a1c629d", func := "loop.example/g00505/laws.FnExactAffects", spec := "fnExactAffects", apart := false }
def FnExactAffectsSaid : Prop := fnExactAffectsRow.holds Try.pinned (OpenSpec.ofChange fnExactAffectsSpec)

/-- ITS FALSE NEIGHBOUR: 'it returns false'. Refute it at one input. -/
def fnExactAffectsWrong : ChangeSpec := { name := "fnExactAffects", fn := fun _ => fun
  | [d1, d2] => { results := [.lit (.bool false)], args := [d1, d2] }
  | _ => none }
def FnExactAffectsWrongFalsely : Prop := fnExactAffectsRow.holds Try.pinned (OpenSpec.ofChange fnExactAffectsWrong)

/-- 'laws.FnExactEgressSteps': WHATEVER THE INPUT: true; the input reads as it did. -/
def fnExactEgressStepsSpec : ChangeSpec := { name := "fnExactEgressSteps", fn := fun _ => fun
  | [d] => { results := [.lit (.bool true)], args := [d] }
  | _ => none }
def fnExactEgressStepsRow : OpenClaim := { program := "ytmpbpbcjflmfeaa", sum := "698287993fe2c205894e75cc6d7a46ff4619d2fb2229d3055c33cabd5a1c629d", func := "loop.example/g00505/laws.FnExactEgressSteps", spec := "fnExactEgressSteps", unfollowed := true, recurses := true, apart := false }
def FnExactEgressStepsSaid : Prop := fnExactEgressStepsRow.holds Try.pinned (OpenSpec.ofChange fnExactEgressStepsSpec)

/-- ITS FALSE NEIGHBOUR: 'it returns false'. Refute it at one input. -/
def fnExactEgressStepsWrong : ChangeSpec := { name := "fnExactEgressSteps", fn := fun _ => fun
  | [d] => { results := [.lit (.bool false)], args := [d] }
  | _ => none }
def FnExactEgressStepsWrongFalsely : Prop := fnExactEgressStepsRow.holds Try.pinned (OpenSpec.ofChange fnExactEgressStepsWrong)

/-- 'laws.FnExactPathRate': WHATEVER THE INPUT: true; the input reads as it did. -/
def fnExactPathRateSpec : ChangeSpec := { name := "fnExactPathRate", fn := fun _ => fun
  | [d1, d2, d3, d4] => { results := [.lit (.bool true)], args := [d1, d2, d3, d4] }
  | _ => none }
def fnExactPathRateRow : OpenClaim := { program := "ytmpbpbcjflmfeaa", sum := "698287993fe2c205894e75cc6d7a46ff4619d2fb2229d3055c33cabd5a1c629d", func := "loop.example/g00505/laws.FnExactPathRate", spec := "fnExactPathRate", unfollowed := true, recurses := true, apart := false }
def FnExactPathRateSaid : Prop := fnExactPathRateRow.holds Try.pinned (OpenSpec.ofChange fnExactPathRateSpec)

/-- ITS FALSE NEIGHBOUR: 'it returns false'. Refute it at one input. -/
def fnExactPathRateWrong : ChangeSpec := { name := "fnExactPathRate", fn := fun _ => fun
  | [d1, d2, d3, d4] => { results := [.lit (.bool false)], args := [d1, d2, d3, d4] }
  | _ => none }
def FnExactPathRateWrongFalsely : Prop := fnExactPathRateRow.holds Try.pinned (OpenSpec.ofChange fnExactPathRateWrong)

/-- 'laws.FnExactAvailableRate': WHATEVER THE INPUT: true; the input reads as it did. -/
def fnExactAvailableRateSpec : ChangeSpec := { name := "fnExactAvailableRate", fn := fun _ => fun
  | [d1, d2, d3, d4] => { results := [.lit (.bool true)], args := [d1, d2, d3, d4] }
  | _ => none }
def fnExactAvailableRateRow : OpenClaim := { program := "ytmpbpbcjflmfeaa", sum := "698287993fe2c205894e75cc6d7a46ff4619d2fb2229d3055c33cabd5a1c629d", func := "loop.example/g00505/laws.FnExactAvailableRate", spec := "fnExactAvailableRate", unfollowed := true, recurses := true, apart := false }
def FnExactAvailableRateSaid : Prop := fnExactAvailableRateRow.holds Try.pinned (OpenSpec.ofChange fnExactAvailableRateSpec)

/-- ITS FALSE NEIGHBOUR: 'it returns false'. Refute it at one input. -/
def fnExactAvailableRateWrong : ChangeSpec := { name := "fnExactAvailableRate", fn := fun _ => fun
  | [d1, d2, d3, d4] => { results := [.lit (.bool false)], args := [d1, d2, d3, d4] }
  | _ => none }
def FnExactAvailableRateWrongFalsely : Prop := fnExactAvailableRateRow.holds Try.pinned (OpenSpec.ofChange fnExactAvailableRateWrong)

/- THE SECOND FORM. 'bulk': how many values and letters a reading holds, each counted each time it is reached (what is shared counts as often as it is met; a slice's spare places count too). A statement '..UptoSaid' is the law's where the arguments, and the package variables that the reading takes, are together of bulk at most 1048576: NARROWER than '..Said'. Prove '..Said' where nothing that the law and all that it calls make is longer than what came in: it says more and counts as full. Else prove '..UptoSaid'. A law counts once. -/
mutual
def uptoBulk {H : Type} : DataW H → Nat
  | .lit (.string bytes) => bytes.length + 1
  | .lit _ => 1
  | .nil => 1
  | .ptr d => uptoBulk d + 1
  | .slice elems spare => uptoBulkAll elems + uptoBulkAll spare + 1
  | .agg parts => uptoBulkAll parts + 1
  | .iface _ d => uptoBulk d + 1
  | .map entries => uptoBulkEntries entries + 1
  | .held _ => 1
def uptoBulkAll {H : Type} : List (DataW H) → Nat
  | [] => 0
  | d :: r => uptoBulk d + uptoBulkAll r
def uptoBulkEntries {H : Type} : List (Lit × DataW H) → Nat
  | [] => 0
  | x :: r => uptoBulkEntry x + uptoBulkEntries r
def uptoBulkEntry {H : Type} : Lit × DataW H → Nat
  | (.string bytes, d) => bytes.length + uptoBulk d + 1
  | (_, d) => uptoBulk d + 1
 end
def uptoSmall : (H : Type) → List (DataW H) → Bool := fun _ ds => decide (uptoBulkAll ds ≤ 1048576)
def OpenSpec.upto (s : _root_.Go.ChangeSpec) : _root_.Go.OpenSpec := { _root_.Go.OpenSpec.ofChange s with cond := some uptoSmall }

/-- 'laws.FnExactPathSteps', WHERE WHAT IT READS IS OF BULK AT MOST 1048576: true; the input reads as it did. -/
def fnExactPathStepsUptoRow : OpenClaim := { program := "ytmpbpbcjflmfeaa", sum := "698287993fe2c205894e75cc6d7a46ff4619d2fb2229d3055c33cabd5a1c629d", func := "loop.example/g00505/laws.FnExactPathSteps", spec := "fnExactPathSteps", apart := false, narrowed := true }
def FnExactPathStepsUptoSaid : Prop := fnExactPathStepsUptoRow.holds Try.pinned (OpenSpec.upto fnExactPathStepsSpec)

/-- 'laws.FnExactInterfacesUsed', WHERE WHAT IT READS IS OF BULK AT MOST 1048576: true; the input reads as it did. -/
def fnExactInterfacesUsedUptoRow : OpenClaim := { program := "ytmpbpbcjflmfeaa", sum := "698287993fe2c205894e75cc6d7a46ff4619d2fb2229d3055c33cabd5a1c629d", func := "loop.example/g00505/laws.FnExactInterfacesUsed", spec := "fnExactInterfacesUsed", apart := false, narrowed := true }
def FnExactInterfacesUsedUptoSaid : Prop := fnExactInterfacesUsedUptoRow.holds Try.pinned (OpenSpec.upto fnExactInterfacesUsedSpec)

/-- 'laws.FnExactPathLength', WHERE WHAT IT READS IS OF BULK AT MOST 1048576: true; the input reads as it did. -/
def fnExactPathLengthUptoRow : OpenClaim := { program := "ytmpbpbcjflmfeaa", sum := "698287993fe2c205894e75cc6d7a46ff4619d2fb2229d3055c33cabd5a1c629d", func := "loop.example/g00505/laws.FnExactPathLength", spec := "fnExactPathLength", apart := false, narrowed := true }
def FnExactPathLengthUptoSaid : Prop := fnExactPathLengthUptoRow.holds Try.pinned (OpenSpec.upto fnExactPathLengthSpec)

/-- 'laws.FnExactPathAllowed', WHERE WHAT IT READS IS OF BULK AT MOST 1048576: true; the input reads as it did. -/
def fnExactPathAllowedUptoRow : OpenClaim := { program := "ytmpbpbcjflmfeaa", sum := "698287993fe2c205894e75cc6d7a46ff4619d2fb2229d3055c33cabd5a1c629d", func := "loop.example/g00505/laws.FnExactPathAllowed", spec := "fnExactPathAllowed", apart := false, narrowed := true }
def FnExactPathAllowedUptoSaid : Prop := fnExactPathAllowedUptoRow.holds Try.pinned (OpenSpec.upto fnExactPathAllowedSpec)

/-- 'laws.FnExactFirstForbiddenStep', WHERE WHAT IT READS IS OF BULK AT MOST 1048576: true; the input reads as it did. -/
def fnExactFirstForbiddenStepUptoRow : OpenClaim := { program := "ytmpbpbcjflmfeaa", sum := "698287993fe2c205894e75cc6d7a46ff4619d2fb2229d3055c33cabd5a1c629d", func := "loop.example/g00505/laws.FnExactFirstForbiddenStep", spec := "fnExactFirstForbiddenStep", apart := false, narrowed := true }
def FnExactFirstForbiddenStepUptoSaid : Prop := fnExactFirstForbiddenStepUptoRow.holds Try.pinned (OpenSpec.upto fnExactFirstForbiddenStepSpec)

/-- 'laws.FnExactUpSteps', WHERE WHAT IT READS IS OF BULK AT MOST 1048576: true; the input reads as it did. -/
def fnExactUpStepsUptoRow : OpenClaim := { program := "ytmpbpbcjflmfeaa", sum := "698287993fe2c205894e75cc6d7a46ff4619d2fb2229d3055c33cabd5a1c629d", func := "loop.example/g00505/laws.FnExactUpSteps", spec := "fnExactUpSteps", apart := false, narrowed := true }
def FnExactUpStepsUptoSaid : Prop := fnExactUpStepsUptoRow.holds Try.pinned (OpenSpec.upto fnExactUpStepsSpec)

/-- 'laws.FnExactDownSteps', WHERE WHAT IT READS IS OF BULK AT MOST 1048576: true; the input reads as it did. -/
def fnExactDownStepsUptoRow : OpenClaim := { program := "ytmpbpbcjflmfeaa", sum := "698287993fe2c205894e75cc6d7a46ff4619d2fb2229d3055c33cabd5a1c629d", func := "loop.example/g00505/laws.FnExactDownSteps", spec := "fnExactDownSteps", apart := false, narrowed := true }
def FnExactDownStepsUptoSaid : Prop := fnExactDownStepsUptoRow.holds Try.pinned (OpenSpec.upto fnExactDownStepsSpec)

/-- 'laws.FnExactCoreSteps', WHERE WHAT IT READS IS OF BULK AT MOST 1048576: true; the input reads as it did. -/
def fnExactCoreStepsUptoRow : OpenClaim := { program := "ytmpbpbcjflmfeaa", sum := "698287993fe2c205894e75cc6d7a46ff4619d2fb2229d3055c33cabd5a1c629d", func := "loop.example/g00505/laws.FnExactCoreSteps", spec := "fnExactCoreSteps", apart := false, narrowed := true }
def FnExactCoreStepsUptoSaid : Prop := fnExactCoreStepsUptoRow.holds Try.pinned (OpenSpec.upto fnExactCoreStepsSpec)

/-- 'laws.FnExactAffects', WHERE WHAT IT READS IS OF BULK AT MOST 1048576: true; the input reads as it did. -/
def fnExactAffectsUptoRow : OpenClaim := { program := "ytmpbpbcjflmfeaa", sum := "698287993fe2c205894e75cc6d7a46ff4619d2fb2229d3055c33cabd5a1c629d", func := "loop.example/g00505/laws.FnExactAffects", spec := "fnExactAffects", apart := false, narrowed := true }
def FnExactAffectsUptoSaid : Prop := fnExactAffectsUptoRow.holds Try.pinned (OpenSpec.upto fnExactAffectsSpec)

/-- 'laws.FnExactEgressSteps', WHERE WHAT IT READS IS OF BULK AT MOST 1048576: true; the input reads as it did. -/
def fnExactEgressStepsUptoRow : OpenClaim := { program := "ytmpbpbcjflmfeaa", sum := "698287993fe2c205894e75cc6d7a46ff4619d2fb2229d3055c33cabd5a1c629d", func := "loop.example/g00505/laws.FnExactEgressSteps", spec := "fnExactEgressSteps", unfollowed := true, recurses := true, apart := false, narrowed := true }
def FnExactEgressStepsUptoSaid : Prop := fnExactEgressStepsUptoRow.holds Try.pinned (OpenSpec.upto fnExactEgressStepsSpec)

/-- 'laws.FnExactPathRate', WHERE WHAT IT READS IS OF BULK AT MOST 1048576: true; the input reads as it did. -/
def fnExactPathRateUptoRow : OpenClaim := { program := "ytmpbpbcjflmfeaa", sum := "698287993fe2c205894e75cc6d7a46ff4619d2fb2229d3055c33cabd5a1c629d", func := "loop.example/g00505/laws.FnExactPathRate", spec := "fnExactPathRate", unfollowed := true, recurses := true, apart := false, narrowed := true }
def FnExactPathRateUptoSaid : Prop := fnExactPathRateUptoRow.holds Try.pinned (OpenSpec.upto fnExactPathRateSpec)

/-- 'laws.FnExactAvailableRate', WHERE WHAT IT READS IS OF BULK AT MOST 1048576: true; the input reads as it did. -/
def fnExactAvailableRateUptoRow : OpenClaim := { program := "ytmpbpbcjflmfeaa", sum := "698287993fe2c205894e75cc6d7a46ff4619d2fb2229d3055c33cabd5a1c629d", func := "loop.example/g00505/laws.FnExactAvailableRate", spec := "fnExactAvailableRate", unfollowed := true, recurses := true, apart := false, narrowed := true }
def FnExactAvailableRateUptoSaid : Prop := fnExactAvailableRateUptoRow.holds Try.pinned (OpenSpec.upto fnExactAvailableRateSpec)

end Rows
end Go.Proofs.Ytmpbpbcjflmfeaa
