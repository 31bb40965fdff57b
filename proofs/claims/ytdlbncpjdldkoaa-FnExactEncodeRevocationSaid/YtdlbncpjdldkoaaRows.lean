/-
  No cell of these rows narrows 'for every input' (looked for: loops, veiled, ifaces, maps, wideKeys, modest, calm, conditions, laid).
  DERIVED. THE GIVEN ROWS OF THIS SEAT. 12 by the template 'for every input the law returns true; each argument reads behind the call as it read before'; 0 by the template 'total and deterministic' (their statements: YtdlbncpjdldkoaaTotals.lean).
  GIVEN WITH THE SEED: the statements are not yours to turn. If you find one false, say at which input.
  Laid BY PROGRAM, IN A SANDBOX (cutbox-rows.mjs): the forced cells as the released guide's own fill.sh prints them over the translation 6cd915c0d4c096fc… (all of the seat's roots in one cut). By AI agents, Wed Nov 11 2026. No macro, syntax, notation, axiom, sorry.
-/
import Derived.Test.YtdlbncpjdldkoaaChecked
import GoSem.Claim
import GoSem.ClaimJoined
import GoSem.ClaimMapViews
import Derived.JoinedTies
import Derived.KernelRfl
namespace Go.Proofs.Ytdlbncpjdldkoaa
/- THE CELL 'sum', in the pinned program and in every row, IS THE sha256 OF THE DUMP (.gsa) THAT YtdlbncpjdldkoaaProg.lean LOADS. Nothing in Lean hashes anything: it is a label: what it is worth is what the hold of that sum in a sandbox is worth. -/
noncomputable def Try.pinned : Pinned := { name := "ytdlbncpjdldkoaa", sum := "6cd915c0d4c096fc24b984bca4fbc464f5ae8588fe1880022b4656c50fc705bc", checked := Try.checked }
namespace Rows
def none {H : Type} : Left H := { results := [], args := [] }

/-- 'laws.FnExactEqualSteps': WHATEVER THE INPUT: true; the input reads as it did. -/
def fnExactEqualStepsSpec : ChangeSpec := { name := "fnExactEqualSteps", fn := fun _ => fun
  | [d1, d2] => { results := [.lit (.bool true)], args := [d1, d2] }
  | _ => none }
def fnExactEqualStepsRow : OpenClaim := { program := "ytdlbncpjdldkoaa", sum := "6cd915c0d4c096fc24b984bca4fbc464f5ae8588fe1880022b4656c50fc705bc", func := "loop.example/g00505/laws.FnExactEqualSteps", spec := "fnExactEqualSteps", apart := false }
def FnExactEqualStepsSaid : Prop := fnExactEqualStepsRow.holds Try.pinned (OpenSpec.ofChange fnExactEqualStepsSpec)

/-- ITS FALSE NEIGHBOUR: 'it returns false'. Refute it at one input. -/
def fnExactEqualStepsWrong : ChangeSpec := { name := "fnExactEqualSteps", fn := fun _ => fun
  | [d1, d2] => { results := [.lit (.bool false)], args := [d1, d2] }
  | _ => none }
def FnExactEqualStepsWrongFalsely : Prop := fnExactEqualStepsRow.holds Try.pinned (OpenSpec.ofChange fnExactEqualStepsWrong)

/-- 'laws.FnExactReverseKind': WHATEVER THE INPUT: true; the input reads as it did. -/
def fnExactReverseKindSpec : ChangeSpec := { name := "fnExactReverseKind", fn := fun _ => fun
  | [d] => { results := [.lit (.bool true)], args := [d] }
  | _ => none }
def fnExactReverseKindRow : OpenClaim := { program := "ytdlbncpjdldkoaa", sum := "6cd915c0d4c096fc24b984bca4fbc464f5ae8588fe1880022b4656c50fc705bc", func := "loop.example/g00505/laws.FnExactReverseKind", spec := "fnExactReverseKind", apart := false }
def FnExactReverseKindSaid : Prop := fnExactReverseKindRow.holds Try.pinned (OpenSpec.ofChange fnExactReverseKindSpec)

/-- ITS FALSE NEIGHBOUR: 'it returns false'. Refute it at one input. -/
def fnExactReverseKindWrong : ChangeSpec := { name := "fnExactReverseKind", fn := fun _ => fun
  | [d] => { results := [.lit (.bool false)], args := [d] }
  | _ => none }
def FnExactReverseKindWrongFalsely : Prop := fnExactReverseKindRow.holds Try.pinned (OpenSpec.ofChange fnExactReverseKindWrong)

/-- 'laws.FnExactValidRevocation': WHATEVER THE INPUT: true; the input reads as it did. -/
def fnExactValidRevocationSpec : ChangeSpec := { name := "fnExactValidRevocation", fn := fun _ => fun
  | [d] => { results := [.lit (.bool true)], args := [d] }
  | _ => none }
def fnExactValidRevocationRow : OpenClaim := { program := "ytdlbncpjdldkoaa", sum := "6cd915c0d4c096fc24b984bca4fbc464f5ae8588fe1880022b4656c50fc705bc", func := "loop.example/g00505/laws.FnExactValidRevocation", spec := "fnExactValidRevocation", apart := false }
def FnExactValidRevocationSaid : Prop := fnExactValidRevocationRow.holds Try.pinned (OpenSpec.ofChange fnExactValidRevocationSpec)

/-- ITS FALSE NEIGHBOUR: 'it returns false'. Refute it at one input. -/
def fnExactValidRevocationWrong : ChangeSpec := { name := "fnExactValidRevocation", fn := fun _ => fun
  | [d] => { results := [.lit (.bool false)], args := [d] }
  | _ => none }
def FnExactValidRevocationWrongFalsely : Prop := fnExactValidRevocationRow.holds Try.pinned (OpenSpec.ofChange fnExactValidRevocationWrong)

/-- 'laws.FnExactEncodeRevocation': WHATEVER THE INPUT: true; the input reads as it did. -/
def fnExactEncodeRevocationSpec : ChangeSpec := { name := "fnExactEncodeRevocation", fn := fun _ => fun
  | [d] => { results := [.lit (.bool true)], args := [d] }
  | _ => none }
def fnExactEncodeRevocationRow : OpenClaim := { program := "ytdlbncpjdldkoaa", sum := "6cd915c0d4c096fc24b984bca4fbc464f5ae8588fe1880022b4656c50fc705bc", func := "loop.example/g00505/laws.FnExactEncodeRevocation", spec := "fnExactEncodeRevocation", apart := false }
def FnExactEncodeRevocationSaid : Prop := fnExactEncodeRevocationRow.holds Try.pinned (OpenSpec.ofChange fnExactEncodeRevocationSpec)

/-- ITS FALSE NEIGHBOUR: 'it returns false'. Refute it at one input. -/
def fnExactEncodeRevocationWrong : ChangeSpec := { name := "fnExactEncodeRevocation", fn := fun _ => fun
  | [d] => { results := [.lit (.bool false)], args := [d] }
  | _ => none }
def FnExactEncodeRevocationWrongFalsely : Prop := fnExactEncodeRevocationRow.holds Try.pinned (OpenSpec.ofChange fnExactEncodeRevocationWrong)

/-- 'laws.FnExactValidReservation': WHATEVER THE INPUT: true; the input reads as it did. -/
def fnExactValidReservationSpec : ChangeSpec := { name := "fnExactValidReservation", fn := fun _ => fun
  | [d] => { results := [.lit (.bool true)], args := [d] }
  | _ => none }
def fnExactValidReservationRow : OpenClaim := { program := "ytdlbncpjdldkoaa", sum := "6cd915c0d4c096fc24b984bca4fbc464f5ae8588fe1880022b4656c50fc705bc", func := "loop.example/g00505/laws.FnExactValidReservation", spec := "fnExactValidReservation", apart := false }
def FnExactValidReservationSaid : Prop := fnExactValidReservationRow.holds Try.pinned (OpenSpec.ofChange fnExactValidReservationSpec)

/-- ITS FALSE NEIGHBOUR: 'it returns false'. Refute it at one input. -/
def fnExactValidReservationWrong : ChangeSpec := { name := "fnExactValidReservation", fn := fun _ => fun
  | [d] => { results := [.lit (.bool false)], args := [d] }
  | _ => none }
def FnExactValidReservationWrongFalsely : Prop := fnExactValidReservationRow.holds Try.pinned (OpenSpec.ofChange fnExactValidReservationWrong)

/-- 'laws.FnExactReservedRate': WHATEVER THE INPUT: true; the input reads as it did. -/
def fnExactReservedRateSpec : ChangeSpec := { name := "fnExactReservedRate", fn := fun _ => fun
  | [d1, d2, d3, d4] => { results := [.lit (.bool true)], args := [d1, d2, d3, d4] }
  | _ => none }
def fnExactReservedRateRow : OpenClaim := { program := "ytdlbncpjdldkoaa", sum := "6cd915c0d4c096fc24b984bca4fbc464f5ae8588fe1880022b4656c50fc705bc", func := "loop.example/g00505/laws.FnExactReservedRate", spec := "fnExactReservedRate", unfollowed := true, recurses := true, apart := false }
def FnExactReservedRateSaid : Prop := fnExactReservedRateRow.holds Try.pinned (OpenSpec.ofChange fnExactReservedRateSpec)

/-- ITS FALSE NEIGHBOUR: 'it returns false'. Refute it at one input. -/
def fnExactReservedRateWrong : ChangeSpec := { name := "fnExactReservedRate", fn := fun _ => fun
  | [d1, d2, d3, d4] => { results := [.lit (.bool false)], args := [d1, d2, d3, d4] }
  | _ => none }
def FnExactReservedRateWrongFalsely : Prop := fnExactReservedRateRow.holds Try.pinned (OpenSpec.ofChange fnExactReservedRateWrong)

/-- 'laws.FnExactReservationRate': WHATEVER THE INPUT: true; the input reads as it did. -/
def fnExactReservationRateSpec : ChangeSpec := { name := "fnExactReservationRate", fn := fun _ => fun
  | [d1, d2, d3, d4, d5] => { results := [.lit (.bool true)], args := [d1, d2, d3, d4, d5] }
  | _ => none }
def fnExactReservationRateRow : OpenClaim := { program := "ytdlbncpjdldkoaa", sum := "6cd915c0d4c096fc24b984bca4fbc464f5ae8588fe1880022b4656c50fc705bc", func := "loop.example/g00505/laws.FnExactReservationRate", spec := "fnExactReservationRate", apart := false }
def FnExactReservationRateSaid : Prop := fnExactReservationRateRow.holds Try.pinned (OpenSpec.ofChange fnExactReservationRateSpec)

/-- ITS FALSE NEIGHBOUR: 'it returns false'. Refute it at one input. -/
def fnExactReservationRateWrong : ChangeSpec := { name := "fnExactReservationRate", fn := fun _ => fun
  | [d1, d2, d3, d4, d5] => { results := [.lit (.bool false)], args := [d1, d2, d3, d4, d5] }
  | _ => none }
def FnExactReservationRateWrongFalsely : Prop := fnExactReservationRateRow.holds Try.pinned (OpenSpec.ofChange fnExactReservationRateWrong)

/-- 'laws.FnExactFreeRate': WHATEVER THE INPUT: true; the input reads as it did. -/
def fnExactFreeRateSpec : ChangeSpec := { name := "fnExactFreeRate", fn := fun _ => fun
  | [d1, d2, d3, d4, d5] => { results := [.lit (.bool true)], args := [d1, d2, d3, d4, d5] }
  | _ => none }
def fnExactFreeRateRow : OpenClaim := { program := "ytdlbncpjdldkoaa", sum := "6cd915c0d4c096fc24b984bca4fbc464f5ae8588fe1880022b4656c50fc705bc", func := "loop.example/g00505/laws.FnExactFreeRate", spec := "fnExactFreeRate", unfollowed := true, recurses := true, apart := false }
def FnExactFreeRateSaid : Prop := fnExactFreeRateRow.holds Try.pinned (OpenSpec.ofChange fnExactFreeRateSpec)

/-- ITS FALSE NEIGHBOUR: 'it returns false'. Refute it at one input. -/
def fnExactFreeRateWrong : ChangeSpec := { name := "fnExactFreeRate", fn := fun _ => fun
  | [d1, d2, d3, d4, d5] => { results := [.lit (.bool false)], args := [d1, d2, d3, d4, d5] }
  | _ => none }
def FnExactFreeRateWrongFalsely : Prop := fnExactFreeRateRow.holds Try.pinned (OpenSpec.ofChange fnExactFreeRateWrong)

/-- 'laws.FnExactEqualReservations': WHATEVER THE INPUT: true; the input reads as it did. -/
def fnExactEqualReservationsSpec : ChangeSpec := { name := "fnExactEqualReservations", fn := fun _ => fun
  | [d1, d2] => { results := [.lit (.bool true)], args := [d1, d2] }
  | _ => none }
def fnExactEqualReservationsRow : OpenClaim := { program := "ytdlbncpjdldkoaa", sum := "6cd915c0d4c096fc24b984bca4fbc464f5ae8588fe1880022b4656c50fc705bc", func := "loop.example/g00505/laws.FnExactEqualReservations", spec := "fnExactEqualReservations", apart := false }
def FnExactEqualReservationsSaid : Prop := fnExactEqualReservationsRow.holds Try.pinned (OpenSpec.ofChange fnExactEqualReservationsSpec)

/-- ITS FALSE NEIGHBOUR: 'it returns false'. Refute it at one input. -/
def fnExactEqualReservationsWrong : ChangeSpec := { name := "fnExactEqualReservations", fn := fun _ => fun
  | [d1, d2] => { results := [.lit (.bool false)], args := [d1, d2] }
  | _ => none }
def FnExactEqualReservationsWrongFalsely : Prop := fnExactEqualReservationsRow.holds Try.pinned (OpenSpec.ofChange fnExactEqualReservationsWrong)

/-- 'laws.FnExactSentCount': WHATEVER THE INPUT: true; the input reads as it did. -/
def fnExactSentCountSpec : ChangeSpec := { name := "fnExactSentCount", fn := fun _ => fun
  | [d1, d2, d3] => { results := [.lit (.bool true)], args := [d1, d2, d3] }
  | _ => none }
def fnExactSentCountRow : OpenClaim := { program := "ytdlbncpjdldkoaa", sum := "6cd915c0d4c096fc24b984bca4fbc464f5ae8588fe1880022b4656c50fc705bc", func := "loop.example/g00505/laws.FnExactSentCount", spec := "fnExactSentCount", apart := false }
def FnExactSentCountSaid : Prop := fnExactSentCountRow.holds Try.pinned (OpenSpec.ofChange fnExactSentCountSpec)

/-- ITS FALSE NEIGHBOUR: 'it returns false'. Refute it at one input. -/
def fnExactSentCountWrong : ChangeSpec := { name := "fnExactSentCount", fn := fun _ => fun
  | [d1, d2, d3] => { results := [.lit (.bool false)], args := [d1, d2, d3] }
  | _ => none }
def FnExactSentCountWrongFalsely : Prop := fnExactSentCountRow.holds Try.pinned (OpenSpec.ofChange fnExactSentCountWrong)

/-- 'laws.FnExactEqualSchedulers': WHATEVER THE INPUT: true; the input reads as it did. -/
def fnExactEqualSchedulersSpec : ChangeSpec := { name := "fnExactEqualSchedulers", fn := fun _ => fun
  | [d1, d2] => { results := [.lit (.bool true)], args := [d1, d2] }
  | _ => none }
def fnExactEqualSchedulersRow : OpenClaim := { program := "ytdlbncpjdldkoaa", sum := "6cd915c0d4c096fc24b984bca4fbc464f5ae8588fe1880022b4656c50fc705bc", func := "loop.example/g00505/laws.FnExactEqualSchedulers", spec := "fnExactEqualSchedulers", apart := false }
def FnExactEqualSchedulersSaid : Prop := fnExactEqualSchedulersRow.holds Try.pinned (OpenSpec.ofChange fnExactEqualSchedulersSpec)

/-- ITS FALSE NEIGHBOUR: 'it returns false'. Refute it at one input. -/
def fnExactEqualSchedulersWrong : ChangeSpec := { name := "fnExactEqualSchedulers", fn := fun _ => fun
  | [d1, d2] => { results := [.lit (.bool false)], args := [d1, d2] }
  | _ => none }
def FnExactEqualSchedulersWrongFalsely : Prop := fnExactEqualSchedulersRow.holds Try.pinned (OpenSpec.ofChange fnExactEqualSchedulersWrong)

/-- 'laws.FnExactEventName': WHATEVER THE INPUT: true; the input reads as it did. -/
def fnExactEventNameSpec : ChangeSpec := { name := "fnExactEventName", fn := fun _ => fun
  | [d] => { results := [.lit (.bool true)], args := [d] }
  | _ => none }
def fnExactEventNameRow : OpenClaim := { program := "ytdlbncpjdldkoaa", sum := "6cd915c0d4c096fc24b984bca4fbc464f5ae8588fe1880022b4656c50fc705bc", func := "loop.example/g00505/laws.FnExactEventName", spec := "fnExactEventName", apart := false }
def FnExactEventNameSaid : Prop := fnExactEventNameRow.holds Try.pinned (OpenSpec.ofChange fnExactEventNameSpec)

/-- ITS FALSE NEIGHBOUR: 'it returns false'. Refute it at one input. -/
def fnExactEventNameWrong : ChangeSpec := { name := "fnExactEventName", fn := fun _ => fun
  | [d] => { results := [.lit (.bool false)], args := [d] }
  | _ => none }
def FnExactEventNameWrongFalsely : Prop := fnExactEventNameRow.holds Try.pinned (OpenSpec.ofChange fnExactEventNameWrong)

/- THE SECOND FORM. 'bulk': how many values and letters a reading holds, each counted each time it is reached (what is shared counts as often as it is met; a slice's spare places count too). A statement '..UptoSaid' is the law's where the arguments, and the package variables that the reading takes, are together of bulk at most 1048576: NARROWER than '..Said'. Prove '..Said' where nothing that the law and all that it calls make is longer than what came in: it says more and counts as full. Else prove '..UptoSaid'. A law counts once. -/
mutual
def uptoBulk {H : Type} : DataW H → Nat
  | .lit (.string bytes) => bytes.length + 1
  | .lit _ => 1
  | .nil => 1
  | .ptr d => uptoBulk d + 1
  | .slice elems spare => uptoBulkAll elems + uptoBulkAll spare + 1
  | .agg parts => uptoBulkAll parts + 1
  | .iface _ d => uptoBulk d + 1
  | .map entries => uptoBulkEntries entries + 1
  | .held _ => 1
def uptoBulkAll {H : Type} : List (DataW H) → Nat
  | [] => 0
  | d :: r => uptoBulk d + uptoBulkAll r
def uptoBulkEntries {H : Type} : List (Lit × DataW H) → Nat
  | [] => 0
  | x :: r => uptoBulkEntry x + uptoBulkEntries r
def uptoBulkEntry {H : Type} : Lit × DataW H → Nat
  | (.string bytes, d) => bytes.length + uptoBulk d + 1
  | (_, d) => uptoBulk d + 1
 end
def uptoSmall : (H : Type) → List (DataW H) → Bool := fun _ ds => decide (uptoBulkAll ds ≤ 1048576)
def OpenSpec.upto (s : _root_.Go.ChangeSpec) : _root_.Go.OpenSpec := { _root_.Go.OpenSpec.ofChange s with cond := some uptoSmall }

/-- 'laws.FnExactEqualSteps', WHERE WHAT IT READS IS OF BULK AT MOST 1048576: true; the input reads as it did. -/
def fnExactEqualStepsUptoRow : OpenClaim := { program := "ytdlbncpjdldkoaa", sum := "6cd915c0d4c096fc24b984bca4fbc464f5ae8588fe1880022b4656c50fc705bc", func := "loop.example/g00505/laws.FnExactEqualSteps", spec := "fnExactEqualSteps", apart := false, narrowed := true }
def FnExactEqualStepsUptoSaid : Prop := fnExactEqualStepsUptoRow.holds Try.pinned (OpenSpec.upto fnExactEqualStepsSpec)

/-- 'laws.FnExactReverseKind', WHERE WHAT IT READS IS OF BULK AT MOST 1048576: true; the input reads as it did. -/
def fnExactReverseKindUptoRow : OpenClaim := { program := "ytdlbncpjdldkoaa", sum := "6cd915c0d4c096fc24b984bca4fbc464f5ae8588fe1880022b4656c50fc705bc", func := "loop.example/g00505/laws.FnExactReverseKind", spec := "fnExactReverseKind", apart := false, narrowed := true }
def FnExactReverseKindUptoSaid : Prop := fnExactReverseKindUptoRow.holds Try.pinned (OpenSpec.upto fnExactReverseKindSpec)

/-- 'laws.FnExactValidRevocation', WHERE WHAT IT READS IS OF BULK AT MOST 1048576: true; the input reads as it did. -/
def fnExactValidRevocationUptoRow : OpenClaim := { program := "ytdlbncpjdldkoaa", sum := "6cd915c0d4c096fc24b984bca4fbc464f5ae8588fe1880022b4656c50fc705bc", func := "loop.example/g00505/laws.FnExactValidRevocation", spec := "fnExactValidRevocation", apart := false, narrowed := true }
def FnExactValidRevocationUptoSaid : Prop := fnExactValidRevocationUptoRow.holds Try.pinned (OpenSpec.upto fnExactValidRevocationSpec)

/-- 'laws.FnExactEncodeRevocation', WHERE WHAT IT READS IS OF BULK AT MOST 1048576: true; the input reads as it did. -/
def fnExactEncodeRevocationUptoRow : OpenClaim := { program := "ytdlbncpjdldkoaa", sum := "6cd915c0d4c096fc24b984bca4fbc464f5ae8588fe1880022b4656c50fc705bc", func := "loop.example/g00505/laws.FnExactEncodeRevocation", spec := "fnExactEncodeRevocation", apart := false, narrowed := true }
def FnExactEncodeRevocationUptoSaid : Prop := fnExactEncodeRevocationUptoRow.holds Try.pinned (OpenSpec.upto fnExactEncodeRevocationSpec)

/-- 'laws.FnExactValidReservation', WHERE WHAT IT READS IS OF BULK AT MOST 1048576: true; the input reads as it did. -/
def fnExactValidReservationUptoRow : OpenClaim := { program := "ytdlbncpjdldkoaa", sum := "6cd915c0d4c096fc24b984bca4fbc464f5ae8588fe1880022b4656c50fc705bc", func := "loop.example/g00505/laws.FnExactValidReservation", spec := "fnExactValidReservation", apart := false, narrowed := true }
def FnExactValidReservationUptoSaid : Prop := fnExactValidReservationUptoRow.holds Try.pinned (OpenSpec.upto fnExactValidReservationSpec)

/-- 'laws.FnExactReservedRate', WHERE WHAT IT READS IS OF BULK AT MOST 1048576: true; the input reads as it did. -/
def fnExactReservedRateUptoRow : OpenClaim := { program := "ytdlbncpjdldkoaa", sum := "6cd915c0d4c096fc24b984bca4fbc464f5ae8588fe1880022b4656c50fc705bc", func := "loop.example/g00505/laws.FnExactReservedRate", spec := "fnExactReservedRate", unfollowed := true, recurses := true, apart := false, narrowed := true }
def FnExactReservedRateUptoSaid : Prop := fnExactReservedRateUptoRow.holds Try.pinned (OpenSpec.upto fnExactReservedRateSpec)

/-- 'laws.FnExactReservationRate', WHERE WHAT IT READS IS OF BULK AT MOST 1048576: true; the input reads as it did. -/
def fnExactReservationRateUptoRow : OpenClaim := { program := "ytdlbncpjdldkoaa", sum := "6cd915c0d4c096fc24b984bca4fbc464f5ae8588fe1880022b4656c50fc705bc", func := "loop.example/g00505/laws.FnExactReservationRate", spec := "fnExactReservationRate", apart := false, narrowed := true }
def FnExactReservationRateUptoSaid : Prop := fnExactReservationRateUptoRow.holds Try.pinned (OpenSpec.upto fnExactReservationRateSpec)

/-- 'laws.FnExactFreeRate', WHERE WHAT IT READS IS OF BULK AT MOST 1048576: true; the input reads as it did. -/
def fnExactFreeRateUptoRow : OpenClaim := { program := "ytdlbncpjdldkoaa", sum := "6cd915c0d4c096fc24b984bca4fbc464f5ae8588fe1880022b4656c50fc705bc", func := "loop.example/g00505/laws.FnExactFreeRate", spec := "fnExactFreeRate", unfollowed := true, recurses := true, apart := false, narrowed := true }
def FnExactFreeRateUptoSaid : Prop := fnExactFreeRateUptoRow.holds Try.pinned (OpenSpec.upto fnExactFreeRateSpec)

/-- 'laws.FnExactEqualReservations', WHERE WHAT IT READS IS OF BULK AT MOST 1048576: true; the input reads as it did. -/
def fnExactEqualReservationsUptoRow : OpenClaim := { program := "ytdlbncpjdldkoaa", sum := "6cd915c0d4c096fc24b984bca4fbc464f5ae8588fe1880022b4656c50fc705bc", func := "loop.example/g00505/laws.FnExactEqualReservations", spec := "fnExactEqualReservations", apart := false, narrowed := true }
def FnExactEqualReservationsUptoSaid : Prop := fnExactEqualReservationsUptoRow.holds Try.pinned (OpenSpec.upto fnExactEqualReservationsSpec)

/-- 'laws.FnExactSentCount', WHERE WHAT IT READS IS OF BULK AT MOST 1048576: true; the input reads as it did. -/
def fnExactSentCountUptoRow : OpenClaim := { program := "ytdlbncpjdldkoaa", sum := "6cd915c0d4c096fc24b984bca4fbc464f5ae8588fe1880022b4656c50fc705bc", func := "loop.example/g00505/laws.FnExactSentCount", spec := "fnExactSentCount", apart := false, narrowed := true }
def FnExactSentCountUptoSaid : Prop := fnExactSentCountUptoRow.holds Try.pinned (OpenSpec.upto fnExactSentCountSpec)

/-- 'laws.FnExactEqualSchedulers', WHERE WHAT IT READS IS OF BULK AT MOST 1048576: true; the input reads as it did. -/
def fnExactEqualSchedulersUptoRow : OpenClaim := { program := "ytdlbncpjdldkoaa", sum := "6cd915c0d4c096fc24b984bca4fbc464f5ae8588fe1880022b4656c50fc705bc", func := "loop.example/g00505/laws.FnExactEqualSchedulers", spec := "fnExactEqualSchedulers", apart := false, narrowed := true }
def FnExactEqualSchedulersUptoSaid : Prop := fnExactEqualSchedulersUptoRow.holds Try.pinned (OpenSpec.upto fnExactEqualSchedulersSpec)

/-- 'laws.FnExactEventName', WHERE WHAT IT READS IS OF BULK AT MOST 1048576: true; the input reads as it did. -/
def fnExactEventNameUptoRow : OpenClaim := { program := "ytdlbncpjdldkoaa", sum := "6cd915c0d4c096fc24b984bca4fbc464f5ae8588fe1880022b4656c50fc705bc", func := "loop.example/g00505/laws.FnExactEventName", spec := "fnExactEventName", apart := false, narrowed := true }
def FnExactEventNameUptoSaid : Prop := fnExactEventNameUptoRow.holds Try.pinned (OpenSpec.upto fnExactEventNameSpec)

end Rows
end Go.Proofs.Ytdlbncpjdldkoaa
