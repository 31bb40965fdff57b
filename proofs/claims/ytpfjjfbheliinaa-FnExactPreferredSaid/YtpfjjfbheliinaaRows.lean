/-
  No cell of these rows narrows 'for every input' (looked for: loops, veiled, ifaces, maps, wideKeys, modest, calm, conditions, laid).
  DERIVED. THE GIVEN ROWS OF THIS SEAT. 9 by the template 'for every input the law returns true; each argument reads behind the call as it read before'; 0 by the template 'total and deterministic' (their statements: YtpfjjfbheliinaaTotals.lean).
  GIVEN WITH THE SEED: the statements are not yours to turn. If you find one false, say at which input.
  Laid BY PROGRAM, IN A SANDBOX (cutbox-rows.mjs): the forced cells as the released guide's own fill.sh prints them over the translation a0964659a6be5306… (all of the seat's roots in one cut). By AI agents, Wed Nov 11 2026. No macro, syntax, notation, axiom, sorry.
-/
import Derived.Test.YtpfjjfbheliinaaChecked
import GoSem.Claim
import GoSem.ClaimJoined
import GoSem.ClaimMapViews
import Derived.JoinedTies
import Derived.KernelRfl
namespace Go.Proofs.Ytpfjjfbheliinaa
/- THE CELL 'sum', in the pinned program and in every row, IS THE sha256 OF THE DUMP (.gsa) THAT YtpfjjfbheliinaaProg.lean LOADS. Nothing in Lean hashes anything: it is a label: what it is worth is what the hold of that sum in a sandbox is worth. -/
noncomputable def Try.pinned : Pinned := { name := "ytpfjjfbheliinaa", sum := "a0964659a6be53069938d8592cc07515aa4605b4e42a9ac7063c801f9a93febe", checked := Try.checked }
namespace Rows
def none {H : Type} : Left H := { results := [], args := [] }

/-- 'laws.FnExactPreferred': WHATEVER THE INPUT: true; the input reads as it did. -/
def fnExactPreferredSpec : ChangeSpec := { name := "fnExactPreferred", fn := fun _ => fun
  | [d1, d2] => { results := [.lit (.bool true)], args := [d1, d2] }
  | _ => none }
def fnExactPreferredRow : OpenClaim := { program := "ytpfjjfbheliinaa", sum := "a0964659a6be53069938d8592cc07515aa4605b4e42a9ac7063c801f9a93febe", func := "loop.example/g00505/laws.FnExactPreferred", spec := "fnExactPreferred", plainKeys := false, apart := false }
def FnExactPreferredSaid : Prop := fnExactPreferredRow.holds Try.pinned (OpenSpec.ofChange fnExactPreferredSpec)

/-- ITS FALSE NEIGHBOUR: 'it returns false'. Refute it at one input. -/
def fnExactPreferredWrong : ChangeSpec := { name := "fnExactPreferred", fn := fun _ => fun
  | [d1, d2] => { results := [.lit (.bool false)], args := [d1, d2] }
  | _ => none }
def FnExactPreferredWrongFalsely : Prop := fnExactPreferredRow.holds Try.pinned (OpenSpec.ofChange fnExactPreferredWrong)

/-- 'laws.FnExactDropExpired': WHATEVER THE INPUT: true; the input reads as it did. -/
def fnExactDropExpiredSpec : ChangeSpec := { name := "fnExactDropExpired", fn := fun _ => fun
  | [d1, d2] => { results := [.lit (.bool true)], args := [d1, d2] }
  | _ => none }
def fnExactDropExpiredRow : OpenClaim := { program := "ytpfjjfbheliinaa", sum := "a0964659a6be53069938d8592cc07515aa4605b4e42a9ac7063c801f9a93febe", func := "loop.example/g00505/laws.FnExactDropExpired", spec := "fnExactDropExpired", plainKeys := false, apart := false }
def FnExactDropExpiredSaid : Prop := fnExactDropExpiredRow.holds Try.pinned (OpenSpec.ofChange fnExactDropExpiredSpec)

/-- ITS FALSE NEIGHBOUR: 'it returns false'. Refute it at one input. -/
def fnExactDropExpiredWrong : ChangeSpec := { name := "fnExactDropExpired", fn := fun _ => fun
  | [d1, d2] => { results := [.lit (.bool false)], args := [d1, d2] }
  | _ => none }
def FnExactDropExpiredWrongFalsely : Prop := fnExactDropExpiredRow.holds Try.pinned (OpenSpec.ofChange fnExactDropExpiredWrong)

/-- 'laws.FnExactHasBeacon': WHATEVER THE INPUT: true; the input reads as it did. -/
def fnExactHasBeaconSpec : ChangeSpec := { name := "fnExactHasBeacon", fn := fun _ => fun
  | [d1, d2] => { results := [.lit (.bool true)], args := [d1, d2] }
  | _ => none }
def fnExactHasBeaconRow : OpenClaim := { program := "ytpfjjfbheliinaa", sum := "a0964659a6be53069938d8592cc07515aa4605b4e42a9ac7063c801f9a93febe", func := "loop.example/g00505/laws.FnExactHasBeacon", spec := "fnExactHasBeacon", plainKeys := false, apart := false }
def FnExactHasBeaconSaid : Prop := fnExactHasBeaconRow.holds Try.pinned (OpenSpec.ofChange fnExactHasBeaconSpec)

/-- ITS FALSE NEIGHBOUR: 'it returns false'. Refute it at one input. -/
def fnExactHasBeaconWrong : ChangeSpec := { name := "fnExactHasBeacon", fn := fun _ => fun
  | [d1, d2] => { results := [.lit (.bool false)], args := [d1, d2] }
  | _ => none }
def FnExactHasBeaconWrongFalsely : Prop := fnExactHasBeaconRow.holds Try.pinned (OpenSpec.ofChange fnExactHasBeaconWrong)

/-- 'laws.FnExactEqualBeacons': WHATEVER THE INPUT: true; the input reads as it did. -/
def fnExactEqualBeaconsSpec : ChangeSpec := { name := "fnExactEqualBeacons", fn := fun _ => fun
  | [d1, d2] => { results := [.lit (.bool true)], args := [d1, d2] }
  | _ => none }
def fnExactEqualBeaconsRow : OpenClaim := { program := "ytpfjjfbheliinaa", sum := "a0964659a6be53069938d8592cc07515aa4605b4e42a9ac7063c801f9a93febe", func := "loop.example/g00505/laws.FnExactEqualBeacons", spec := "fnExactEqualBeacons", unfollowed := true, recurses := true, plainKeys := false, apart := false }
def FnExactEqualBeaconsSaid : Prop := fnExactEqualBeaconsRow.holds Try.pinned (OpenSpec.ofChange fnExactEqualBeaconsSpec)

/-- ITS FALSE NEIGHBOUR: 'it returns false'. Refute it at one input. -/
def fnExactEqualBeaconsWrong : ChangeSpec := { name := "fnExactEqualBeacons", fn := fun _ => fun
  | [d1, d2] => { results := [.lit (.bool false)], args := [d1, d2] }
  | _ => none }
def FnExactEqualBeaconsWrongFalsely : Prop := fnExactEqualBeaconsRow.holds Try.pinned (OpenSpec.ofChange fnExactEqualBeaconsWrong)

/-- 'laws.FnExactOriginASes': WHATEVER THE INPUT: true; the input reads as it did. -/
def fnExactOriginASesSpec : ChangeSpec := { name := "fnExactOriginASes", fn := fun _ => fun
  | [d] => { results := [.lit (.bool true)], args := [d] }
  | _ => none }
def fnExactOriginASesRow : OpenClaim := { program := "ytpfjjfbheliinaa", sum := "a0964659a6be53069938d8592cc07515aa4605b4e42a9ac7063c801f9a93febe", func := "loop.example/g00505/laws.FnExactOriginASes", spec := "fnExactOriginASes", plainKeys := false, apart := false }
def FnExactOriginASesSaid : Prop := fnExactOriginASesRow.holds Try.pinned (OpenSpec.ofChange fnExactOriginASesSpec)

/-- ITS FALSE NEIGHBOUR: 'it returns false'. Refute it at one input. -/
def fnExactOriginASesWrong : ChangeSpec := { name := "fnExactOriginASes", fn := fun _ => fun
  | [d] => { results := [.lit (.bool false)], args := [d] }
  | _ => none }
def FnExactOriginASesWrongFalsely : Prop := fnExactOriginASesRow.holds Try.pinned (OpenSpec.ofChange fnExactOriginASesWrong)

/-- 'laws.FnExactTruncateSigned': WHATEVER THE INPUT: true; the input reads as it did. -/
def fnExactTruncateSignedSpec : ChangeSpec := { name := "fnExactTruncateSigned", fn := fun _ => fun
  | [d1, d2] => { results := [.lit (.bool true)], args := [d1, d2] }
  | _ => none }
def fnExactTruncateSignedRow : OpenClaim := { program := "ytpfjjfbheliinaa", sum := "a0964659a6be53069938d8592cc07515aa4605b4e42a9ac7063c801f9a93febe", func := "loop.example/g00505/laws.FnExactTruncateSigned", spec := "fnExactTruncateSigned", plainKeys := false, apart := false }
def FnExactTruncateSignedSaid : Prop := fnExactTruncateSignedRow.holds Try.pinned (OpenSpec.ofChange fnExactTruncateSignedSpec)

/-- ITS FALSE NEIGHBOUR: 'it returns false'. Refute it at one input. -/
def fnExactTruncateSignedWrong : ChangeSpec := { name := "fnExactTruncateSigned", fn := fun _ => fun
  | [d1, d2] => { results := [.lit (.bool false)], args := [d1, d2] }
  | _ => none }
def FnExactTruncateSignedWrongFalsely : Prop := fnExactTruncateSignedRow.holds Try.pinned (OpenSpec.ofChange fnExactTruncateSignedWrong)

/-- 'laws.FnExactNewPacket': WHATEVER THE INPUT: true; the input reads as it did. -/
def fnExactNewPacketSpec : ChangeSpec := { name := "fnExactNewPacket", fn := fun _ => fun
  | [d1, d2, d3, d4, d5] => { results := [.lit (.bool true)], args := [d1, d2, d3, d4, d5] }
  | _ => none }
def fnExactNewPacketRow : OpenClaim := { program := "ytpfjjfbheliinaa", sum := "a0964659a6be53069938d8592cc07515aa4605b4e42a9ac7063c801f9a93febe", func := "loop.example/g00505/laws.FnExactNewPacket", spec := "fnExactNewPacket", unfollowed := true, recurses := true, plainKeys := false, apart := false }
def FnExactNewPacketSaid : Prop := fnExactNewPacketRow.holds Try.pinned (OpenSpec.ofChange fnExactNewPacketSpec)

/-- ITS FALSE NEIGHBOUR: 'it returns false'. Refute it at one input. -/
def fnExactNewPacketWrong : ChangeSpec := { name := "fnExactNewPacket", fn := fun _ => fun
  | [d1, d2, d3, d4, d5] => { results := [.lit (.bool false)], args := [d1, d2, d3, d4, d5] }
  | _ => none }
def FnExactNewPacketWrongFalsely : Prop := fnExactNewPacketRow.holds Try.pinned (OpenSpec.ofChange fnExactNewPacketWrong)

/-- 'laws.FnExactEncodePacket': WHATEVER THE INPUT: true; the input reads as it did. -/
def fnExactEncodePacketSpec : ChangeSpec := { name := "fnExactEncodePacket", fn := fun _ => fun
  | [d] => { results := [.lit (.bool true)], args := [d] }
  | _ => none }
def fnExactEncodePacketRow : OpenClaim := { program := "ytpfjjfbheliinaa", sum := "a0964659a6be53069938d8592cc07515aa4605b4e42a9ac7063c801f9a93febe", func := "loop.example/g00505/laws.FnExactEncodePacket", spec := "fnExactEncodePacket", unfollowed := true, recurses := true, plainKeys := false, apart := false }
def FnExactEncodePacketSaid : Prop := fnExactEncodePacketRow.holds Try.pinned (OpenSpec.ofChange fnExactEncodePacketSpec)

/-- ITS FALSE NEIGHBOUR: 'it returns false'. Refute it at one input. -/
def fnExactEncodePacketWrong : ChangeSpec := { name := "fnExactEncodePacket", fn := fun _ => fun
  | [d] => { results := [.lit (.bool false)], args := [d] }
  | _ => none }
def FnExactEncodePacketWrongFalsely : Prop := fnExactEncodePacketRow.holds Try.pinned (OpenSpec.ofChange fnExactEncodePacketWrong)

/-- 'laws.FnExactUsedCount': WHATEVER THE INPUT: true; the input reads as it did. -/
def fnExactUsedCountSpec : ChangeSpec := { name := "fnExactUsedCount", fn := fun _ => fun
  | [d1, d2, d3, d4] => { results := [.lit (.bool true)], args := [d1, d2, d3, d4] }
  | _ => none }
def fnExactUsedCountRow : OpenClaim := { program := "ytpfjjfbheliinaa", sum := "a0964659a6be53069938d8592cc07515aa4605b4e42a9ac7063c801f9a93febe", func := "loop.example/g00505/laws.FnExactUsedCount", spec := "fnExactUsedCount", plainKeys := false, apart := false }
def FnExactUsedCountSaid : Prop := fnExactUsedCountRow.holds Try.pinned (OpenSpec.ofChange fnExactUsedCountSpec)

/-- ITS FALSE NEIGHBOUR: 'it returns false'. Refute it at one input. -/
def fnExactUsedCountWrong : ChangeSpec := { name := "fnExactUsedCount", fn := fun _ => fun
  | [d1, d2, d3, d4] => { results := [.lit (.bool false)], args := [d1, d2, d3, d4] }
  | _ => none }
def FnExactUsedCountWrongFalsely : Prop := fnExactUsedCountRow.holds Try.pinned (OpenSpec.ofChange fnExactUsedCountWrong)

/- THE SECOND FORM. 'bulk': how many values and letters a reading holds, each counted each time it is reached (what is shared counts as often as it is met; a slice's spare places count too). A statement '..UptoSaid' is the law's where the arguments, and the package variables that the reading takes, are together of bulk at most 1048576: NARROWER than '..Said'. Prove '..Said' where nothing that the law and all that it calls make is longer than what came in: it says more and counts as full. Else prove '..UptoSaid'. A law counts once. -/
mutual
def uptoBulk {H : Type} : DataW H → Nat
  | .lit (.string bytes) => bytes.length + 1
  | .lit _ => 1
  | .nil => 1
  | .ptr d => uptoBulk d + 1
  | .slice elems spare => uptoBulkAll elems + uptoBulkAll spare + 1
  | .agg parts => uptoBulkAll parts + 1
  | .iface _ d => uptoBulk d + 1
  | .map entries => uptoBulkEntries entries + 1
  | .held _ => 1
def uptoBulkAll {H : Type} : List (DataW H) → Nat
  | [] => 0
  | d :: r => uptoBulk d + uptoBulkAll r
def uptoBulkEntries {H : Type} : List (Lit × DataW H) → Nat
  | [] => 0
  | x :: r => uptoBulkEntry x + uptoBulkEntries r
def uptoBulkEntry {H : Type} : Lit × DataW H → Nat
  | (.string bytes, d) => bytes.length + uptoBulk d + 1
  | (_, d) => uptoBulk d + 1
 end
def uptoSmall : (H : Type) → List (DataW H) → Bool := fun _ ds => decide (uptoBulkAll ds ≤ 1048576)
def OpenSpec.upto (s : _root_.Go.ChangeSpec) : _root_.Go.OpenSpec := { _root_.Go.OpenSpec.ofChange s with cond := some uptoSmall }

/-- 'laws.FnExactPreferred', WHERE WHAT IT READS IS OF BULK AT MOST 1048576: true; the input reads as it did. -/
def fnExactPreferredUptoRow : OpenClaim := { program := "ytpfjjfbheliinaa", sum := "a0964659a6be53069938d8592cc07515aa4605b4e42a9ac7063c801f9a93febe", func := "loop.example/g00505/laws.FnExactPreferred", spec := "fnExactPreferred", plainKeys := false, apart := false, narrowed := true }
def FnExactPreferredUptoSaid : Prop := fnExactPreferredUptoRow.holds Try.pinned (OpenSpec.upto fnExactPreferredSpec)

/-- 'laws.FnExactDropExpired', WHERE WHAT IT READS IS OF BULK AT MOST 1048576: true; the input reads as it did. -/
def fnExactDropExpiredUptoRow : OpenClaim := { program := "ytpfjjfbheliinaa", sum := "a0964659a6be53069938d8592cc07515aa4605b4e42a9ac7063c801f9a93febe", func := "loop.example/g00505/laws.FnExactDropExpired", spec := "fnExactDropExpired", plainKeys := false, apart := false, narrowed := true }
def FnExactDropExpiredUptoSaid : Prop := fnExactDropExpiredUptoRow.holds Try.pinned (OpenSpec.upto fnExactDropExpiredSpec)

/-- 'laws.FnExactHasBeacon', WHERE WHAT IT READS IS OF BULK AT MOST 1048576: true; the input reads as it did. -/
def fnExactHasBeaconUptoRow : OpenClaim := { program := "ytpfjjfbheliinaa", sum := "a0964659a6be53069938d8592cc07515aa4605b4e42a9ac7063c801f9a93febe", func := "loop.example/g00505/laws.FnExactHasBeacon", spec := "fnExactHasBeacon", plainKeys := false, apart := false, narrowed := true }
def FnExactHasBeaconUptoSaid : Prop := fnExactHasBeaconUptoRow.holds Try.pinned (OpenSpec.upto fnExactHasBeaconSpec)

/-- 'laws.FnExactEqualBeacons', WHERE WHAT IT READS IS OF BULK AT MOST 1048576: true; the input reads as it did. -/
def fnExactEqualBeaconsUptoRow : OpenClaim := { program := "ytpfjjfbheliinaa", sum := "a0964659a6be53069938d8592cc07515aa4605b4e42a9ac7063c801f9a93febe", func := "loop.example/g00505/laws.FnExactEqualBeacons", spec := "fnExactEqualBeacons", unfollowed := true, recurses := true, plainKeys := false, apart := false, narrowed := true }
def FnExactEqualBeaconsUptoSaid : Prop := fnExactEqualBeaconsUptoRow.holds Try.pinned (OpenSpec.upto fnExactEqualBeaconsSpec)

/-- 'laws.FnExactOriginASes', WHERE WHAT IT READS IS OF BULK AT MOST 1048576: true; the input reads as it did. -/
def fnExactOriginASesUptoRow : OpenClaim := { program := "ytpfjjfbheliinaa", sum := "a0964659a6be53069938d8592cc07515aa4605b4e42a9ac7063c801f9a93febe", func := "loop.example/g00505/laws.FnExactOriginASes", spec := "fnExactOriginASes", plainKeys := false, apart := false, narrowed := true }
def FnExactOriginASesUptoSaid : Prop := fnExactOriginASesUptoRow.holds Try.pinned (OpenSpec.upto fnExactOriginASesSpec)

/-- 'laws.FnExactTruncateSigned', WHERE WHAT IT READS IS OF BULK AT MOST 1048576: true; the input reads as it did. -/
def fnExactTruncateSignedUptoRow : OpenClaim := { program := "ytpfjjfbheliinaa", sum := "a0964659a6be53069938d8592cc07515aa4605b4e42a9ac7063c801f9a93febe", func := "loop.example/g00505/laws.FnExactTruncateSigned", spec := "fnExactTruncateSigned", plainKeys := false, apart := false, narrowed := true }
def FnExactTruncateSignedUptoSaid : Prop := fnExactTruncateSignedUptoRow.holds Try.pinned (OpenSpec.upto fnExactTruncateSignedSpec)

/-- 'laws.FnExactNewPacket', WHERE WHAT IT READS IS OF BULK AT MOST 1048576: true; the input reads as it did. -/
def fnExactNewPacketUptoRow : OpenClaim := { program := "ytpfjjfbheliinaa", sum := "a0964659a6be53069938d8592cc07515aa4605b4e42a9ac7063c801f9a93febe", func := "loop.example/g00505/laws.FnExactNewPacket", spec := "fnExactNewPacket", unfollowed := true, recurses := true, plainKeys := false, apart := false, narrowed := true }
def FnExactNewPacketUptoSaid : Prop := fnExactNewPacketUptoRow.holds Try.pinned (OpenSpec.upto fnExactNewPacketSpec)

/-- 'laws.FnExactEncodePacket', WHERE WHAT IT READS IS OF BULK AT MOST 1048576: true; the input reads as it did. -/
def fnExactEncodePacketUptoRow : OpenClaim := { program := "ytpfjjfbheliinaa", sum := "a0964659a6be53069938d8592cc07515aa4605b4e42a9ac7063c801f9a93febe", func := "loop.example/g00505/laws.FnExactEncodePacket", spec := "fnExactEncodePacket", unfollowed := true, recurses := true, plainKeys := false, apart := false, narrowed := true }
def FnExactEncodePacketUptoSaid : Prop := fnExactEncodePacketUptoRow.holds Try.pinned (OpenSpec.upto fnExactEncodePacketSpec)

/-- 'laws.FnExactUsedCount', WHERE WHAT IT READS IS OF BULK AT MOST 1048576: true; the input reads as it did. -/
def fnExactUsedCountUptoRow : OpenClaim := { program := "ytpfjjfbheliinaa", sum := "a0964659a6be53069938d8592cc07515aa4605b4e42a9ac7063c801f9a93febe", func := "loop.example/g00505/laws.FnExactUsedCount", spec := "fnExactUsedCount", plainKeys := false, apart := false, narrowed := true }
def FnExactUsedCountUptoSaid : Prop := fnExactUsedCountUptoRow.holds Try.pinned (OpenSpec.upto fnExactUsedCountSpec)

end Rows
end Go.Proofs.Ytpfjjfbheliinaa
