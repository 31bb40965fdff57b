/-
  No cell of these rows narrows 'for every input' (looked for: loops, veiled, ifaces, maps, wideKeys, modest, calm, conditions, laid).
  DERIVED. THE GIVEN ROWS OF THIS SEAT. 12 by the template 'for every input the law returns true; each argument reads behind the call as it read before'; 0 by the template 'total and deterministic' (their statements: YtdbaecgbhadkbaaTotals.lean).
  GIVEN WITH THE SEED: the statements are not yours to turn. If you find one false, say at which input.
  Laid BY PROGRAM, IN A SANDBOX (cutbox-rows.mjs): the forced cells as the released guide's own fill.sh prints them over the translation 85e301347264c7c2… (all of the seat's roots in one cut). By AI agents, Wed Nov 11 2026. No macro, syntax, notation, axiom, sorry.
-/
import Derived.Test.YtdbaecgbhadkbaaChecked
import GoSem.Claim
import GoSem.ClaimJoined
import GoSem.ClaimMapViews
import Derived.JoinedTies
import Derived.KernelRfl
namespace Go.Proofs.Ytdbaecgbhadkbaa
/- THE CELL 'sum', in the pinned program and in every row, IS THE sha256 OF THE DUMP (.gsa) THAT YtdbaecgbhadkbaaProg.lean LOADS. Nothing in Lean hashes anything: it is a label: what it is worth is what the hold of that sum in a sandbox is worth. -/
noncomputable def Try.pinned : Pinned := { name := "ytdbaecgbhadkbaa", sum := "85e301347264c7c26ca864fff0e8c71750f0241b696453cdebb00f8beaa9bcbe", checked := Try.checked }
namespace Rows
def none {H : Type} : Left H := { results := [], args := [] }

/-- 'laws.FnExactReverseSteps': WHATEVER THE INPUT: true; the input reads as it did. -/
def fnExactReverseStepsSpec : ChangeSpec := { name := "fnExactReverseSteps", fn := fun _ => fun
  | [d] => { results := [.lit (.bool true)], args := [d] }
  | _ => none }
def fnExactReverseStepsRow : OpenClaim := { program := "ytdbaecgbhadkbaa", sum := "85e301347264c7c26ca864fff0e8c71750f0241b696453cdebb00f8beaa9bcbe", func := "loop.example/g00505/laws.FnExactReverseSteps", spec := "fnExactReverseSteps", unfollowed := true, recurses := true, apart := false }
def FnExactReverseStepsSaid : Prop := fnExactReverseStepsRow.holds Try.pinned (OpenSpec.ofChange fnExactReverseStepsSpec)

/-- ITS FALSE NEIGHBOUR: 'it returns false'. Refute it at one input. -/
def fnExactReverseStepsWrong : ChangeSpec := { name := "fnExactReverseSteps", fn := fun _ => fun
  | [d] => { results := [.lit (.bool false)], args := [d] }
  | _ => none }
def FnExactReverseStepsWrongFalsely : Prop := fnExactReverseStepsRow.holds Try.pinned (OpenSpec.ofChange fnExactReverseStepsWrong)

/-- 'laws.FnExactAddRevocation': WHATEVER THE INPUT: true; the input reads as it did. -/
def fnExactAddRevocationSpec : ChangeSpec := { name := "fnExactAddRevocation", fn := fun _ => fun
  | [d1, d2] => { results := [.lit (.bool true)], args := [d1, d2] }
  | _ => none }
def fnExactAddRevocationRow : OpenClaim := { program := "ytdbaecgbhadkbaa", sum := "85e301347264c7c26ca864fff0e8c71750f0241b696453cdebb00f8beaa9bcbe", func := "loop.example/g00505/laws.FnExactAddRevocation", spec := "fnExactAddRevocation", unfollowed := true, recurses := true, apart := false }
def FnExactAddRevocationSaid : Prop := fnExactAddRevocationRow.holds Try.pinned (OpenSpec.ofChange fnExactAddRevocationSpec)

/-- ITS FALSE NEIGHBOUR: 'it returns false'. Refute it at one input. -/
def fnExactAddRevocationWrong : ChangeSpec := { name := "fnExactAddRevocation", fn := fun _ => fun
  | [d1, d2] => { results := [.lit (.bool false)], args := [d1, d2] }
  | _ => none }
def FnExactAddRevocationWrongFalsely : Prop := fnExactAddRevocationRow.holds Try.pinned (OpenSpec.ofChange fnExactAddRevocationWrong)

/-- 'laws.FnExactActiveRevocations': WHATEVER THE INPUT: true; the input reads as it did. -/
def fnExactActiveRevocationsSpec : ChangeSpec := { name := "fnExactActiveRevocations", fn := fun _ => fun
  | [d1, d2] => { results := [.lit (.bool true)], args := [d1, d2] }
  | _ => none }
def fnExactActiveRevocationsRow : OpenClaim := { program := "ytdbaecgbhadkbaa", sum := "85e301347264c7c26ca864fff0e8c71750f0241b696453cdebb00f8beaa9bcbe", func := "loop.example/g00505/laws.FnExactActiveRevocations", spec := "fnExactActiveRevocations", unfollowed := true, recurses := true, apart := false }
def FnExactActiveRevocationsSaid : Prop := fnExactActiveRevocationsRow.holds Try.pinned (OpenSpec.ofChange fnExactActiveRevocationsSpec)

/-- ITS FALSE NEIGHBOUR: 'it returns false'. Refute it at one input. -/
def fnExactActiveRevocationsWrong : ChangeSpec := { name := "fnExactActiveRevocations", fn := fun _ => fun
  | [d1, d2] => { results := [.lit (.bool false)], args := [d1, d2] }
  | _ => none }
def FnExactActiveRevocationsWrongFalsely : Prop := fnExactActiveRevocationsRow.holds Try.pinned (OpenSpec.ofChange fnExactActiveRevocationsWrong)

/-- 'laws.FnExactDecodeRevocation': WHATEVER THE INPUT: true; the input reads as it did. -/
def fnExactDecodeRevocationSpec : ChangeSpec := { name := "fnExactDecodeRevocation", fn := fun _ => fun
  | [d] => { results := [.lit (.bool true)], args := [d] }
  | _ => none }
def fnExactDecodeRevocationRow : OpenClaim := { program := "ytdbaecgbhadkbaa", sum := "85e301347264c7c26ca864fff0e8c71750f0241b696453cdebb00f8beaa9bcbe", func := "loop.example/g00505/laws.FnExactDecodeRevocation", spec := "fnExactDecodeRevocation", apart := false }
def FnExactDecodeRevocationSaid : Prop := fnExactDecodeRevocationRow.holds Try.pinned (OpenSpec.ofChange fnExactDecodeRevocationSpec)

/-- ITS FALSE NEIGHBOUR: 'it returns false'. Refute it at one input. -/
def fnExactDecodeRevocationWrong : ChangeSpec := { name := "fnExactDecodeRevocation", fn := fun _ => fun
  | [d] => { results := [.lit (.bool false)], args := [d] }
  | _ => none }
def FnExactDecodeRevocationWrongFalsely : Prop := fnExactDecodeRevocationRow.holds Try.pinned (OpenSpec.ofChange fnExactDecodeRevocationWrong)

/-- 'laws.FnExactAdmit': WHATEVER THE INPUT: true; the input reads as it did. -/
def fnExactAdmitSpec : ChangeSpec := { name := "fnExactAdmit", fn := fun _ => fun
  | [d1, d2, d3, d4] => { results := [.lit (.bool true)], args := [d1, d2, d3, d4] }
  | _ => none }
def fnExactAdmitRow : OpenClaim := { program := "ytdbaecgbhadkbaa", sum := "85e301347264c7c26ca864fff0e8c71750f0241b696453cdebb00f8beaa9bcbe", func := "loop.example/g00505/laws.FnExactAdmit", spec := "fnExactAdmit", unfollowed := true, recurses := true, apart := false }
def FnExactAdmitSaid : Prop := fnExactAdmitRow.holds Try.pinned (OpenSpec.ofChange fnExactAdmitSpec)

/-- ITS FALSE NEIGHBOUR: 'it returns false'. Refute it at one input. -/
def fnExactAdmitWrong : ChangeSpec := { name := "fnExactAdmit", fn := fun _ => fun
  | [d1, d2, d3, d4] => { results := [.lit (.bool false)], args := [d1, d2, d3, d4] }
  | _ => none }
def FnExactAdmitWrongFalsely : Prop := fnExactAdmitRow.holds Try.pinned (OpenSpec.ofChange fnExactAdmitWrong)

/-- 'laws.FnExactRelease': WHATEVER THE INPUT: true; the input reads as it did. -/
def fnExactReleaseSpec : ChangeSpec := { name := "fnExactRelease", fn := fun _ => fun
  | [d1, d2] => { results := [.lit (.bool true)], args := [d1, d2] }
  | _ => none }
def fnExactReleaseRow : OpenClaim := { program := "ytdbaecgbhadkbaa", sum := "85e301347264c7c26ca864fff0e8c71750f0241b696453cdebb00f8beaa9bcbe", func := "loop.example/g00505/laws.FnExactRelease", spec := "fnExactRelease", unfollowed := true, recurses := true, apart := false }
def FnExactReleaseSaid : Prop := fnExactReleaseRow.holds Try.pinned (OpenSpec.ofChange fnExactReleaseSpec)

/-- ITS FALSE NEIGHBOUR: 'it returns false'. Refute it at one input. -/
def fnExactReleaseWrong : ChangeSpec := { name := "fnExactRelease", fn := fun _ => fun
  | [d1, d2] => { results := [.lit (.bool false)], args := [d1, d2] }
  | _ => none }
def FnExactReleaseWrongFalsely : Prop := fnExactReleaseRow.holds Try.pinned (OpenSpec.ofChange fnExactReleaseWrong)

/-- 'laws.FnExactActiveReservations': WHATEVER THE INPUT: true; the input reads as it did. -/
def fnExactActiveReservationsSpec : ChangeSpec := { name := "fnExactActiveReservations", fn := fun _ => fun
  | [d1, d2] => { results := [.lit (.bool true)], args := [d1, d2] }
  | _ => none }
def fnExactActiveReservationsRow : OpenClaim := { program := "ytdbaecgbhadkbaa", sum := "85e301347264c7c26ca864fff0e8c71750f0241b696453cdebb00f8beaa9bcbe", func := "loop.example/g00505/laws.FnExactActiveReservations", spec := "fnExactActiveReservations", unfollowed := true, recurses := true, apart := false }
def FnExactActiveReservationsSaid : Prop := fnExactActiveReservationsRow.holds Try.pinned (OpenSpec.ofChange fnExactActiveReservationsSpec)

/-- ITS FALSE NEIGHBOUR: 'it returns false'. Refute it at one input. -/
def fnExactActiveReservationsWrong : ChangeSpec := { name := "fnExactActiveReservations", fn := fun _ => fun
  | [d1, d2] => { results := [.lit (.bool false)], args := [d1, d2] }
  | _ => none }
def FnExactActiveReservationsWrongFalsely : Prop := fnExactActiveReservationsRow.holds Try.pinned (OpenSpec.ofChange fnExactActiveReservationsWrong)

/-- 'laws.FnExactReservationIDs': WHATEVER THE INPUT: true; the input reads as it did. -/
def fnExactReservationIDsSpec : ChangeSpec := { name := "fnExactReservationIDs", fn := fun _ => fun
  | [d] => { results := [.lit (.bool true)], args := [d] }
  | _ => none }
def fnExactReservationIDsRow : OpenClaim := { program := "ytdbaecgbhadkbaa", sum := "85e301347264c7c26ca864fff0e8c71750f0241b696453cdebb00f8beaa9bcbe", func := "loop.example/g00505/laws.FnExactReservationIDs", spec := "fnExactReservationIDs", recurses := true, apart := false }
def FnExactReservationIDsSaid : Prop := fnExactReservationIDsRow.holds Try.pinned (OpenSpec.ofChange fnExactReservationIDsSpec)

/-- ITS FALSE NEIGHBOUR: 'it returns false'. Refute it at one input. -/
def fnExactReservationIDsWrong : ChangeSpec := { name := "fnExactReservationIDs", fn := fun _ => fun
  | [d] => { results := [.lit (.bool false)], args := [d] }
  | _ => none }
def FnExactReservationIDsWrongFalsely : Prop := fnExactReservationIDsRow.holds Try.pinned (OpenSpec.ofChange fnExactReservationIDsWrong)

/-- 'laws.FnExactNewScheduler': WHATEVER THE INPUT: true; the input reads as it did. -/
def fnExactNewSchedulerSpec : ChangeSpec := { name := "fnExactNewScheduler", fn := fun _ => fun
  | [d] => { results := [.lit (.bool true)], args := [d] }
  | _ => none }
def fnExactNewSchedulerRow : OpenClaim := { program := "ytdbaecgbhadkbaa", sum := "85e301347264c7c26ca864fff0e8c71750f0241b696453cdebb00f8beaa9bcbe", func := "loop.example/g00505/laws.FnExactNewScheduler", spec := "fnExactNewScheduler", apart := false }
def FnExactNewSchedulerSaid : Prop := fnExactNewSchedulerRow.holds Try.pinned (OpenSpec.ofChange fnExactNewSchedulerSpec)

/-- ITS FALSE NEIGHBOUR: 'it returns false'. Refute it at one input. -/
def fnExactNewSchedulerWrong : ChangeSpec := { name := "fnExactNewScheduler", fn := fun _ => fun
  | [d] => { results := [.lit (.bool false)], args := [d] }
  | _ => none }
def FnExactNewSchedulerWrongFalsely : Prop := fnExactNewSchedulerRow.holds Try.pinned (OpenSpec.ofChange fnExactNewSchedulerWrong)

/-- 'laws.FnExactBeginTick': WHATEVER THE INPUT: true; the input reads as it did. -/
def fnExactBeginTickSpec : ChangeSpec := { name := "fnExactBeginTick", fn := fun _ => fun
  | [d1, d2] => { results := [.lit (.bool true)], args := [d1, d2] }
  | _ => none }
def fnExactBeginTickRow : OpenClaim := { program := "ytdbaecgbhadkbaa", sum := "85e301347264c7c26ca864fff0e8c71750f0241b696453cdebb00f8beaa9bcbe", func := "loop.example/g00505/laws.FnExactBeginTick", spec := "fnExactBeginTick", unfollowed := true, recurses := true, apart := false }
def FnExactBeginTickSaid : Prop := fnExactBeginTickRow.holds Try.pinned (OpenSpec.ofChange fnExactBeginTickSpec)

/-- ITS FALSE NEIGHBOUR: 'it returns false'. Refute it at one input. -/
def fnExactBeginTickWrong : ChangeSpec := { name := "fnExactBeginTick", fn := fun _ => fun
  | [d1, d2] => { results := [.lit (.bool false)], args := [d1, d2] }
  | _ => none }
def FnExactBeginTickWrongFalsely : Prop := fnExactBeginTickRow.holds Try.pinned (OpenSpec.ofChange fnExactBeginTickWrong)

/-- 'laws.FnExactNewFlow': WHATEVER THE INPUT: true; the input reads as it did. -/
def fnExactNewFlowSpec : ChangeSpec := { name := "fnExactNewFlow", fn := fun _ => fun
  | [d1, d2, d3] => { results := [.lit (.bool true)], args := [d1, d2, d3] }
  | _ => none }
def fnExactNewFlowRow : OpenClaim := { program := "ytdbaecgbhadkbaa", sum := "85e301347264c7c26ca864fff0e8c71750f0241b696453cdebb00f8beaa9bcbe", func := "loop.example/g00505/laws.FnExactNewFlow", spec := "fnExactNewFlow", apart := false }
def FnExactNewFlowSaid : Prop := fnExactNewFlowRow.holds Try.pinned (OpenSpec.ofChange fnExactNewFlowSpec)

/-- ITS FALSE NEIGHBOUR: 'it returns false'. Refute it at one input. -/
def fnExactNewFlowWrong : ChangeSpec := { name := "fnExactNewFlow", fn := fun _ => fun
  | [d1, d2, d3] => { results := [.lit (.bool false)], args := [d1, d2, d3] }
  | _ => none }
def FnExactNewFlowWrongFalsely : Prop := fnExactNewFlowRow.holds Try.pinned (OpenSpec.ofChange fnExactNewFlowWrong)

/-- 'laws.FnExactNewInbox': WHATEVER THE INPUT: true; the input reads as it did. -/
def fnExactNewInboxSpec : ChangeSpec := { name := "fnExactNewInbox", fn := fun _ => fun
  | [d1, d2] => { results := [.lit (.bool true)], args := [d1, d2] }
  | _ => none }
def fnExactNewInboxRow : OpenClaim := { program := "ytdbaecgbhadkbaa", sum := "85e301347264c7c26ca864fff0e8c71750f0241b696453cdebb00f8beaa9bcbe", func := "loop.example/g00505/laws.FnExactNewInbox", spec := "fnExactNewInbox", apart := false }
def FnExactNewInboxSaid : Prop := fnExactNewInboxRow.holds Try.pinned (OpenSpec.ofChange fnExactNewInboxSpec)

/-- ITS FALSE NEIGHBOUR: 'it returns false'. Refute it at one input. -/
def fnExactNewInboxWrong : ChangeSpec := { name := "fnExactNewInbox", fn := fun _ => fun
  | [d1, d2] => { results := [.lit (.bool false)], args := [d1, d2] }
  | _ => none }
def FnExactNewInboxWrongFalsely : Prop := fnExactNewInboxRow.holds Try.pinned (OpenSpec.ofChange fnExactNewInboxWrong)

/- THE SECOND FORM. 'bulk': how many values and letters a reading holds, each counted each time it is reached (what is shared counts as often as it is met; a slice's spare places count too). A statement '..UptoSaid' is the law's where the arguments, and the package variables that the reading takes, are together of bulk at most 1048576: NARROWER than '..Said'. Prove '..Said' where nothing that the law and all that it calls make is longer than what came in: it says more and counts as full. Else prove '..UptoSaid'. A law counts once. -/
mutual
def uptoBulk {H : Type} : DataW H → Nat
  | .lit (.string bytes) => bytes.length + 1
  | .lit _ => 1
  | .nil => 1
  | .ptr d => uptoBulk d + 1
  | .slice elems spare => uptoBulkAll elems + uptoBulkAll spare + 1
  | .agg parts => uptoBulkAll parts + 1
  | .iface _ d => uptoBulk d + 1
  | .map entries => uptoBulkEntries entries + 1
  | .held _ => 1
def uptoBulkAll {H : Type} : List (DataW H) → Nat
  | [] => 0
  | d :: r => uptoBulk d + uptoBulkAll r
def uptoBulkEntries {H : Type} : List (Lit × DataW H) → Nat
  | [] => 0
  | x :: r => uptoBulkEntry x + uptoBulkEntries r
def uptoBulkEntry {H : Type} : Lit × DataW H → Nat
  | (.string bytes, d) => bytes.length + uptoBulk d + 1
  | (_, d) => uptoBulk d + 1
 end
def uptoSmall : (H : Type) → List (DataW H) → Bool := fun _ ds => decide (uptoBulkAll ds ≤ 1048576)
def OpenSpec.upto (s : _root_.Go.ChangeSpec) : _root_.Go.OpenSpec := { _root_.Go.OpenSpec.ofChange s with cond := some uptoSmall }

/-- 'laws.FnExactReverseSteps', WHERE WHAT IT READS IS OF BULK AT MOST 1048576: true; the input reads as it did. -/
def fnExactReverseStepsUptoRow : OpenClaim := { program := "ytdbaecgbhadkbaa", sum := "85e301347264c7c26ca864fff0e8c71750f0241b696453cdebb00f8beaa9bcbe", func := "loop.example/g00505/laws.FnExactReverseSteps", spec := "fnExactReverseSteps", unfollowed := true, recurses := true, apart := false, narrowed := true }
def FnExactReverseStepsUptoSaid : Prop := fnExactReverseStepsUptoRow.holds Try.pinned (OpenSpec.upto fnExactReverseStepsSpec)

/-- 'laws.FnExactAddRevocation', WHERE WHAT IT READS IS OF BULK AT MOST 1048576: true; the input reads as it did. -/
def fnExactAddRevocationUptoRow : OpenClaim := { program := "ytdbaecgbhadkbaa", sum := "85e301347264c7c26ca864fff0e8c71750f0241b696453cdebb00f8beaa9bcbe", func := "loop.example/g00505/laws.FnExactAddRevocation", spec := "fnExactAddRevocation", unfollowed := true, recurses := true, apart := false, narrowed := true }
def FnExactAddRevocationUptoSaid : Prop := fnExactAddRevocationUptoRow.holds Try.pinned (OpenSpec.upto fnExactAddRevocationSpec)

/-- 'laws.FnExactActiveRevocations', WHERE WHAT IT READS IS OF BULK AT MOST 1048576: true; the input reads as it did. -/
def fnExactActiveRevocationsUptoRow : OpenClaim := { program := "ytdbaecgbhadkbaa", sum := "85e301347264c7c26ca864fff0e8c71750f0241b696453cdebb00f8beaa9bcbe", func := "loop.example/g00505/laws.FnExactActiveRevocations", spec := "fnExactActiveRevocations", unfollowed := true, recurses := true, apart := false, narrowed := true }
def FnExactActiveRevocationsUptoSaid : Prop := fnExactActiveRevocationsUptoRow.holds Try.pinned (OpenSpec.upto fnExactActiveRevocationsSpec)

/-- 'laws.FnExactDecodeRevocation', WHERE WHAT IT READS IS OF BULK AT MOST 1048576: true; the input reads as it did. -/
def fnExactDecodeRevocationUptoRow : OpenClaim := { program := "ytdbaecgbhadkbaa", sum := "85e301347264c7c26ca864fff0e8c71750f0241b696453cdebb00f8beaa9bcbe", func := "loop.example/g00505/laws.FnExactDecodeRevocation", spec := "fnExactDecodeRevocation", apart := false, narrowed := true }
def FnExactDecodeRevocationUptoSaid : Prop := fnExactDecodeRevocationUptoRow.holds Try.pinned (OpenSpec.upto fnExactDecodeRevocationSpec)

/-- 'laws.FnExactAdmit', WHERE WHAT IT READS IS OF BULK AT MOST 1048576: true; the input reads as it did. -/
def fnExactAdmitUptoRow : OpenClaim := { program := "ytdbaecgbhadkbaa", sum := "85e301347264c7c26ca864fff0e8c71750f0241b696453cdebb00f8beaa9bcbe", func := "loop.example/g00505/laws.FnExactAdmit", spec := "fnExactAdmit", unfollowed := true, recurses := true, apart := false, narrowed := true }
def FnExactAdmitUptoSaid : Prop := fnExactAdmitUptoRow.holds Try.pinned (OpenSpec.upto fnExactAdmitSpec)

/-- 'laws.FnExactRelease', WHERE WHAT IT READS IS OF BULK AT MOST 1048576: true; the input reads as it did. -/
def fnExactReleaseUptoRow : OpenClaim := { program := "ytdbaecgbhadkbaa", sum := "85e301347264c7c26ca864fff0e8c71750f0241b696453cdebb00f8beaa9bcbe", func := "loop.example/g00505/laws.FnExactRelease", spec := "fnExactRelease", unfollowed := true, recurses := true, apart := false, narrowed := true }
def FnExactReleaseUptoSaid : Prop := fnExactReleaseUptoRow.holds Try.pinned (OpenSpec.upto fnExactReleaseSpec)

/-- 'laws.FnExactActiveReservations', WHERE WHAT IT READS IS OF BULK AT MOST 1048576: true; the input reads as it did. -/
def fnExactActiveReservationsUptoRow : OpenClaim := { program := "ytdbaecgbhadkbaa", sum := "85e301347264c7c26ca864fff0e8c71750f0241b696453cdebb00f8beaa9bcbe", func := "loop.example/g00505/laws.FnExactActiveReservations", spec := "fnExactActiveReservations", unfollowed := true, recurses := true, apart := false, narrowed := true }
def FnExactActiveReservationsUptoSaid : Prop := fnExactActiveReservationsUptoRow.holds Try.pinned (OpenSpec.upto fnExactActiveReservationsSpec)

/-- 'laws.FnExactReservationIDs', WHERE WHAT IT READS IS OF BULK AT MOST 1048576: true; the input reads as it did. -/
def fnExactReservationIDsUptoRow : OpenClaim := { program := "ytdbaecgbhadkbaa", sum := "85e301347264c7c26ca864fff0e8c71750f0241b696453cdebb00f8beaa9bcbe", func := "loop.example/g00505/laws.FnExactReservationIDs", spec := "fnExactReservationIDs", recurses := true, apart := false, narrowed := true }
def FnExactReservationIDsUptoSaid : Prop := fnExactReservationIDsUptoRow.holds Try.pinned (OpenSpec.upto fnExactReservationIDsSpec)

/-- 'laws.FnExactNewScheduler', WHERE WHAT IT READS IS OF BULK AT MOST 1048576: true; the input reads as it did. -/
def fnExactNewSchedulerUptoRow : OpenClaim := { program := "ytdbaecgbhadkbaa", sum := "85e301347264c7c26ca864fff0e8c71750f0241b696453cdebb00f8beaa9bcbe", func := "loop.example/g00505/laws.FnExactNewScheduler", spec := "fnExactNewScheduler", apart := false, narrowed := true }
def FnExactNewSchedulerUptoSaid : Prop := fnExactNewSchedulerUptoRow.holds Try.pinned (OpenSpec.upto fnExactNewSchedulerSpec)

/-- 'laws.FnExactBeginTick', WHERE WHAT IT READS IS OF BULK AT MOST 1048576: true; the input reads as it did. -/
def fnExactBeginTickUptoRow : OpenClaim := { program := "ytdbaecgbhadkbaa", sum := "85e301347264c7c26ca864fff0e8c71750f0241b696453cdebb00f8beaa9bcbe", func := "loop.example/g00505/laws.FnExactBeginTick", spec := "fnExactBeginTick", unfollowed := true, recurses := true, apart := false, narrowed := true }
def FnExactBeginTickUptoSaid : Prop := fnExactBeginTickUptoRow.holds Try.pinned (OpenSpec.upto fnExactBeginTickSpec)

/-- 'laws.FnExactNewFlow', WHERE WHAT IT READS IS OF BULK AT MOST 1048576: true; the input reads as it did. -/
def fnExactNewFlowUptoRow : OpenClaim := { program := "ytdbaecgbhadkbaa", sum := "85e301347264c7c26ca864fff0e8c71750f0241b696453cdebb00f8beaa9bcbe", func := "loop.example/g00505/laws.FnExactNewFlow", spec := "fnExactNewFlow", apart := false, narrowed := true }
def FnExactNewFlowUptoSaid : Prop := fnExactNewFlowUptoRow.holds Try.pinned (OpenSpec.upto fnExactNewFlowSpec)

/-- 'laws.FnExactNewInbox', WHERE WHAT IT READS IS OF BULK AT MOST 1048576: true; the input reads as it did. -/
def fnExactNewInboxUptoRow : OpenClaim := { program := "ytdbaecgbhadkbaa", sum := "85e301347264c7c26ca864fff0e8c71750f0241b696453cdebb00f8beaa9bcbe", func := "loop.example/g00505/laws.FnExactNewInbox", spec := "fnExactNewInbox", apart := false, narrowed := true }
def FnExactNewInboxUptoSaid : Prop := fnExactNewInboxUptoRow.holds Try.pinned (OpenSpec.upto fnExactNewInboxSpec)

end Rows
end Go.Proofs.Ytdbaecgbhadkbaa
