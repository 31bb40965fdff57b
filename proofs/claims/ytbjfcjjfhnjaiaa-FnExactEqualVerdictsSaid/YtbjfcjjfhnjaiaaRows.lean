/-
  No cell of these rows narrows 'for every input' (looked for: loops, veiled, ifaces, maps, wideKeys, modest, calm, conditions, laid).
  DERIVED. THE GIVEN ROWS OF THIS SEAT. 11 by the template 'for every input the law returns true; each argument reads behind the call as it read before'; 0 by the template 'total and deterministic' (their statements: YtbjfcjjfhnjaiaaTotals.lean).
  GIVEN WITH THE SEED: the statements are not yours to turn. If you find one false, say at which input.
  Laid BY PROGRAM, IN A SANDBOX (cutbox-rows.mjs): the forced cells as the released guide's own fill.sh prints them over the translation 52a8076787e2436c… (all of the seat's roots in one cut). By AI agents, Wed Nov 11 2026. No macro, syntax, notation, axiom, sorry.
-/
import Derived.Test.YtbjfcjjfhnjaiaaChecked
import GoSem.Claim
import GoSem.ClaimJoined
import GoSem.ClaimMapViews
import Derived.JoinedTies
import Derived.KernelRfl
namespace Go.Proofs.Ytbjfcjjfhnjaiaa
/- THE CELL 'sum', in the pinned program and in every row, IS THE sha256 OF THE DUMP (.gsa) THAT YtbjfcjjfhnjaiaaProg.lean LOADS. Nothing in Lean hashes anything: it is a label: what it is worth is what the hold of that sum in a sandbox is worth. -/
noncomputable def Try.pinned : Pinned := { name := "ytbjfcjjfhnjaiaa", sum := "52a8076787e2436cc7168077ea74d930e549e9011340e7ed2ff4fc02b15d3dad", checked := Try.checked }
namespace Rows
def none {H : Type} : Left H := { results := [], args := [] }

/-- 'laws.FnExactEndpoints': WHATEVER THE INPUT: true; the input reads as it did. -/
def fnExactEndpointsSpec : ChangeSpec := { name := "fnExactEndpoints", fn := fun _ => fun
  | [d] => { results := [.lit (.bool true)], args := [d] }
  | _ => none }
def fnExactEndpointsRow : OpenClaim := { program := "ytbjfcjjfhnjaiaa", sum := "52a8076787e2436cc7168077ea74d930e549e9011340e7ed2ff4fc02b15d3dad", func := "loop.example/g00505/laws.FnExactEndpoints", spec := "fnExactEndpoints", apart := false }
def FnExactEndpointsSaid : Prop := fnExactEndpointsRow.holds Try.pinned (OpenSpec.ofChange fnExactEndpointsSpec)

/-- ITS FALSE NEIGHBOUR: 'it returns false'. Refute it at one input. -/
def fnExactEndpointsWrong : ChangeSpec := { name := "fnExactEndpoints", fn := fun _ => fun
  | [d] => { results := [.lit (.bool false)], args := [d] }
  | _ => none }
def FnExactEndpointsWrongFalsely : Prop := fnExactEndpointsRow.holds Try.pinned (OpenSpec.ofChange fnExactEndpointsWrong)

/-- 'laws.FnExactValidPacket': WHATEVER THE INPUT: true; the input reads as it did. -/
def fnExactValidPacketSpec : ChangeSpec := { name := "fnExactValidPacket", fn := fun _ => fun
  | [d] => { results := [.lit (.bool true)], args := [d] }
  | _ => none }
def fnExactValidPacketRow : OpenClaim := { program := "ytbjfcjjfhnjaiaa", sum := "52a8076787e2436cc7168077ea74d930e549e9011340e7ed2ff4fc02b15d3dad", func := "loop.example/g00505/laws.FnExactValidPacket", spec := "fnExactValidPacket", unfollowed := true, recurses := true, apart := false }
def FnExactValidPacketSaid : Prop := fnExactValidPacketRow.holds Try.pinned (OpenSpec.ofChange fnExactValidPacketSpec)

/-- ITS FALSE NEIGHBOUR: 'it returns false'. Refute it at one input. -/
def fnExactValidPacketWrong : ChangeSpec := { name := "fnExactValidPacket", fn := fun _ => fun
  | [d] => { results := [.lit (.bool false)], args := [d] }
  | _ => none }
def FnExactValidPacketWrongFalsely : Prop := fnExactValidPacketRow.holds Try.pinned (OpenSpec.ofChange fnExactValidPacketWrong)

/-- 'laws.FnExactCurrentAS': WHATEVER THE INPUT: true; the input reads as it did. -/
def fnExactCurrentASSpec : ChangeSpec := { name := "fnExactCurrentAS", fn := fun _ => fun
  | [d] => { results := [.lit (.bool true)], args := [d] }
  | _ => none }
def fnExactCurrentASRow : OpenClaim := { program := "ytbjfcjjfhnjaiaa", sum := "52a8076787e2436cc7168077ea74d930e549e9011340e7ed2ff4fc02b15d3dad", func := "loop.example/g00505/laws.FnExactCurrentAS", spec := "fnExactCurrentAS", apart := false }
def FnExactCurrentASSaid : Prop := fnExactCurrentASRow.holds Try.pinned (OpenSpec.ofChange fnExactCurrentASSpec)

/-- ITS FALSE NEIGHBOUR: 'it returns false'. Refute it at one input. -/
def fnExactCurrentASWrong : ChangeSpec := { name := "fnExactCurrentAS", fn := fun _ => fun
  | [d] => { results := [.lit (.bool false)], args := [d] }
  | _ => none }
def FnExactCurrentASWrongFalsely : Prop := fnExactCurrentASRow.holds Try.pinned (OpenSpec.ofChange fnExactCurrentASWrong)

/-- 'laws.FnExactEqualPackets': WHATEVER THE INPUT: true; the input reads as it did. -/
def fnExactEqualPacketsSpec : ChangeSpec := { name := "fnExactEqualPackets", fn := fun _ => fun
  | [d1, d2] => { results := [.lit (.bool true)], args := [d1, d2] }
  | _ => none }
def fnExactEqualPacketsRow : OpenClaim := { program := "ytbjfcjjfhnjaiaa", sum := "52a8076787e2436cc7168077ea74d930e549e9011340e7ed2ff4fc02b15d3dad", func := "loop.example/g00505/laws.FnExactEqualPackets", spec := "fnExactEqualPackets", unfollowed := true, recurses := true, apart := false }
def FnExactEqualPacketsSaid : Prop := fnExactEqualPacketsRow.holds Try.pinned (OpenSpec.ofChange fnExactEqualPacketsSpec)

/-- ITS FALSE NEIGHBOUR: 'it returns false'. Refute it at one input. -/
def fnExactEqualPacketsWrong : ChangeSpec := { name := "fnExactEqualPackets", fn := fun _ => fun
  | [d1, d2] => { results := [.lit (.bool false)], args := [d1, d2] }
  | _ => none }
def FnExactEqualPacketsWrongFalsely : Prop := fnExactEqualPacketsRow.holds Try.pinned (OpenSpec.ofChange fnExactEqualPacketsWrong)

/-- 'laws.FnExactAtLastHop': WHATEVER THE INPUT: true; the input reads as it did. -/
def fnExactAtLastHopSpec : ChangeSpec := { name := "fnExactAtLastHop", fn := fun _ => fun
  | [d] => { results := [.lit (.bool true)], args := [d] }
  | _ => none }
def fnExactAtLastHopRow : OpenClaim := { program := "ytbjfcjjfhnjaiaa", sum := "52a8076787e2436cc7168077ea74d930e549e9011340e7ed2ff4fc02b15d3dad", func := "loop.example/g00505/laws.FnExactAtLastHop", spec := "fnExactAtLastHop", apart := false }
def FnExactAtLastHopSaid : Prop := fnExactAtLastHopRow.holds Try.pinned (OpenSpec.ofChange fnExactAtLastHopSpec)

/-- ITS FALSE NEIGHBOUR: 'it returns false'. Refute it at one input. -/
def fnExactAtLastHopWrong : ChangeSpec := { name := "fnExactAtLastHop", fn := fun _ => fun
  | [d] => { results := [.lit (.bool false)], args := [d] }
  | _ => none }
def FnExactAtLastHopWrongFalsely : Prop := fnExactAtLastHopRow.holds Try.pinned (OpenSpec.ofChange fnExactAtLastHopWrong)

/-- 'laws.FnExactCurrentHopValid': WHATEVER THE INPUT: true; the input reads as it did. -/
def fnExactCurrentHopValidSpec : ChangeSpec := { name := "fnExactCurrentHopValid", fn := fun _ => fun
  | [d1, d2] => { results := [.lit (.bool true)], args := [d1, d2] }
  | _ => none }
def fnExactCurrentHopValidRow : OpenClaim := { program := "ytbjfcjjfhnjaiaa", sum := "52a8076787e2436cc7168077ea74d930e549e9011340e7ed2ff4fc02b15d3dad", func := "loop.example/g00505/laws.FnExactCurrentHopValid", spec := "fnExactCurrentHopValid", apart := false }
def FnExactCurrentHopValidSaid : Prop := fnExactCurrentHopValidRow.holds Try.pinned (OpenSpec.ofChange fnExactCurrentHopValidSpec)

/-- ITS FALSE NEIGHBOUR: 'it returns false'. Refute it at one input. -/
def fnExactCurrentHopValidWrong : ChangeSpec := { name := "fnExactCurrentHopValid", fn := fun _ => fun
  | [d1, d2] => { results := [.lit (.bool false)], args := [d1, d2] }
  | _ => none }
def FnExactCurrentHopValidWrongFalsely : Prop := fnExactCurrentHopValidRow.holds Try.pinned (OpenSpec.ofChange fnExactCurrentHopValidWrong)

/-- 'laws.FnExactEqualVerdicts': WHATEVER THE INPUT: true; the input reads as it did. -/
def fnExactEqualVerdictsSpec : ChangeSpec := { name := "fnExactEqualVerdicts", fn := fun _ => fun
  | [d1, d2] => { results := [.lit (.bool true)], args := [d1, d2] }
  | _ => none }
def fnExactEqualVerdictsRow : OpenClaim := { program := "ytbjfcjjfhnjaiaa", sum := "52a8076787e2436cc7168077ea74d930e549e9011340e7ed2ff4fc02b15d3dad", func := "loop.example/g00505/laws.FnExactEqualVerdicts", spec := "fnExactEqualVerdicts", unfollowed := true, recurses := true, apart := false }
def FnExactEqualVerdictsSaid : Prop := fnExactEqualVerdictsRow.holds Try.pinned (OpenSpec.ofChange fnExactEqualVerdictsSpec)

/-- ITS FALSE NEIGHBOUR: 'it returns false'. Refute it at one input. -/
def fnExactEqualVerdictsWrong : ChangeSpec := { name := "fnExactEqualVerdicts", fn := fun _ => fun
  | [d1, d2] => { results := [.lit (.bool false)], args := [d1, d2] }
  | _ => none }
def FnExactEqualVerdictsWrongFalsely : Prop := fnExactEqualVerdictsRow.holds Try.pinned (OpenSpec.ofChange fnExactEqualVerdictsWrong)

/-- 'laws.FnExactOppositeEndpoints': WHATEVER THE INPUT: true; the input reads as it did. -/
def fnExactOppositeEndpointsSpec : ChangeSpec := { name := "fnExactOppositeEndpoints", fn := fun _ => fun
  | [d1, d2] => { results := [.lit (.bool true)], args := [d1, d2] }
  | _ => none }
def fnExactOppositeEndpointsRow : OpenClaim := { program := "ytbjfcjjfhnjaiaa", sum := "52a8076787e2436cc7168077ea74d930e549e9011340e7ed2ff4fc02b15d3dad", func := "loop.example/g00505/laws.FnExactOppositeEndpoints", spec := "fnExactOppositeEndpoints", apart := false }
def FnExactOppositeEndpointsSaid : Prop := fnExactOppositeEndpointsRow.holds Try.pinned (OpenSpec.ofChange fnExactOppositeEndpointsSpec)

/-- ITS FALSE NEIGHBOUR: 'it returns false'. Refute it at one input. -/
def fnExactOppositeEndpointsWrong : ChangeSpec := { name := "fnExactOppositeEndpoints", fn := fun _ => fun
  | [d1, d2] => { results := [.lit (.bool false)], args := [d1, d2] }
  | _ => none }
def FnExactOppositeEndpointsWrongFalsely : Prop := fnExactOppositeEndpointsRow.holds Try.pinned (OpenSpec.ofChange fnExactOppositeEndpointsWrong)

/-- 'laws.FnExactValidInbox': WHATEVER THE INPUT: true; the input reads as it did. -/
def fnExactValidInboxSpec : ChangeSpec := { name := "fnExactValidInbox", fn := fun _ => fun
  | [d] => { results := [.lit (.bool true)], args := [d] }
  | _ => none }
def fnExactValidInboxRow : OpenClaim := { program := "ytbjfcjjfhnjaiaa", sum := "52a8076787e2436cc7168077ea74d930e549e9011340e7ed2ff4fc02b15d3dad", func := "loop.example/g00505/laws.FnExactValidInbox", spec := "fnExactValidInbox", unfollowed := true, recurses := true, apart := false }
def FnExactValidInboxSaid : Prop := fnExactValidInboxRow.holds Try.pinned (OpenSpec.ofChange fnExactValidInboxSpec)

/-- ITS FALSE NEIGHBOUR: 'it returns false'. Refute it at one input. -/
def fnExactValidInboxWrong : ChangeSpec := { name := "fnExactValidInbox", fn := fun _ => fun
  | [d] => { results := [.lit (.bool false)], args := [d] }
  | _ => none }
def FnExactValidInboxWrongFalsely : Prop := fnExactValidInboxRow.holds Try.pinned (OpenSpec.ofChange fnExactValidInboxWrong)

/-- 'laws.FnExactFindInbox': WHATEVER THE INPUT: true; the input reads as it did. -/
def fnExactFindInboxSpec : ChangeSpec := { name := "fnExactFindInbox", fn := fun _ => fun
  | [d1, d2, d3] => { results := [.lit (.bool true)], args := [d1, d2, d3] }
  | _ => none }
def fnExactFindInboxRow : OpenClaim := { program := "ytbjfcjjfhnjaiaa", sum := "52a8076787e2436cc7168077ea74d930e549e9011340e7ed2ff4fc02b15d3dad", func := "loop.example/g00505/laws.FnExactFindInbox", spec := "fnExactFindInbox", unfollowed := true, recurses := true, apart := false }
def FnExactFindInboxSaid : Prop := fnExactFindInboxRow.holds Try.pinned (OpenSpec.ofChange fnExactFindInboxSpec)

/-- ITS FALSE NEIGHBOUR: 'it returns false'. Refute it at one input. -/
def fnExactFindInboxWrong : ChangeSpec := { name := "fnExactFindInbox", fn := fun _ => fun
  | [d1, d2, d3] => { results := [.lit (.bool false)], args := [d1, d2, d3] }
  | _ => none }
def FnExactFindInboxWrongFalsely : Prop := fnExactFindInboxRow.holds Try.pinned (OpenSpec.ofChange fnExactFindInboxWrong)

/-- 'laws.FnExactEqualInboxes': WHATEVER THE INPUT: true; the input reads as it did. -/
def fnExactEqualInboxesSpec : ChangeSpec := { name := "fnExactEqualInboxes", fn := fun _ => fun
  | [d1, d2] => { results := [.lit (.bool true)], args := [d1, d2] }
  | _ => none }
def fnExactEqualInboxesRow : OpenClaim := { program := "ytbjfcjjfhnjaiaa", sum := "52a8076787e2436cc7168077ea74d930e549e9011340e7ed2ff4fc02b15d3dad", func := "loop.example/g00505/laws.FnExactEqualInboxes", spec := "fnExactEqualInboxes", unfollowed := true, recurses := true, apart := false }
def FnExactEqualInboxesSaid : Prop := fnExactEqualInboxesRow.holds Try.pinned (OpenSpec.ofChange fnExactEqualInboxesSpec)

/-- ITS FALSE NEIGHBOUR: 'it returns false'. Refute it at one input. -/
def fnExactEqualInboxesWrong : ChangeSpec := { name := "fnExactEqualInboxes", fn := fun _ => fun
  | [d1, d2] => { results := [.lit (.bool false)], args := [d1, d2] }
  | _ => none }
def FnExactEqualInboxesWrongFalsely : Prop := fnExactEqualInboxesRow.holds Try.pinned (OpenSpec.ofChange fnExactEqualInboxesWrong)

/- THE SECOND FORM. 'bulk': how many values and letters a reading holds, each counted each time it is reached (what is shared counts as often as it is met; a slice's spare places count too). A statement '..UptoSaid' is the law's where the arguments, and the package variables that the reading takes, are together of bulk at most 1048576: NARROWER than '..Said'. Prove '..Said' where nothing that the law and all that it calls make is longer than what came in: it says more and counts as full. Else prove '..UptoSaid'. A law counts once. -/
mutual
def uptoBulk {H : Type} : DataW H → Nat
  | .lit (.string bytes) => bytes.length + 1
  | .lit _ => 1
  | .nil => 1
  | .ptr d => uptoBulk d + 1
  | .slice elems spare => uptoBulkAll elems + uptoBulkAll spare + 1
  | .agg parts => uptoBulkAll parts + 1
  | .iface _ d => uptoBulk d + 1
  | .map entries => uptoBulkEntries entries + 1
  | .held _ => 1
def uptoBulkAll {H : Type} : List (DataW H) → Nat
  | [] => 0
  | d :: r => uptoBulk d + uptoBulkAll r
def uptoBulkEntries {H : Type} : List (Lit × DataW H) → Nat
  | [] => 0
  | x :: r => uptoBulkEntry x + uptoBulkEntries r
def uptoBulkEntry {H : Type} : Lit × DataW H → Nat
  | (.string bytes, d) => bytes.length + uptoBulk d + 1
  | (_, d) => uptoBulk d + 1
 end
def uptoSmall : (H : Type) → List (DataW H) → Bool := fun _ ds => decide (uptoBulkAll ds ≤ 1048576)
def OpenSpec.upto (s : _root_.Go.ChangeSpec) : _root_.Go.OpenSpec := { _root_.Go.OpenSpec.ofChange s with cond := some uptoSmall }

/-- 'laws.FnExactEndpoints', WHERE WHAT IT READS IS OF BULK AT MOST 1048576: true; the input reads as it did. -/
def fnExactEndpointsUptoRow : OpenClaim := { program := "ytbjfcjjfhnjaiaa", sum := "52a8076787e2436cc7168077ea74d930e549e9011340e7ed2ff4fc02b15d3dad", func := "loop.example/g00505/laws.FnExactEndpoints", spec := "fnExactEndpoints", apart := false, narrowed := true }
def FnExactEndpointsUptoSaid : Prop := fnExactEndpointsUptoRow.holds Try.pinned (OpenSpec.upto fnExactEndpointsSpec)

/-- 'laws.FnExactValidPacket', WHERE WHAT IT READS IS OF BULK AT MOST 1048576: true; the input reads as it did. -/
def fnExactValidPacketUptoRow : OpenClaim := { program := "ytbjfcjjfhnjaiaa", sum := "52a8076787e2436cc7168077ea74d930e549e9011340e7ed2ff4fc02b15d3dad", func := "loop.example/g00505/laws.FnExactValidPacket", spec := "fnExactValidPacket", unfollowed := true, recurses := true, apart := false, narrowed := true }
def FnExactValidPacketUptoSaid : Prop := fnExactValidPacketUptoRow.holds Try.pinned (OpenSpec.upto fnExactValidPacketSpec)

/-- 'laws.FnExactCurrentAS', WHERE WHAT IT READS IS OF BULK AT MOST 1048576: true; the input reads as it did. -/
def fnExactCurrentASUptoRow : OpenClaim := { program := "ytbjfcjjfhnjaiaa", sum := "52a8076787e2436cc7168077ea74d930e549e9011340e7ed2ff4fc02b15d3dad", func := "loop.example/g00505/laws.FnExactCurrentAS", spec := "fnExactCurrentAS", apart := false, narrowed := true }
def FnExactCurrentASUptoSaid : Prop := fnExactCurrentASUptoRow.holds Try.pinned (OpenSpec.upto fnExactCurrentASSpec)

/-- 'laws.FnExactEqualPackets', WHERE WHAT IT READS IS OF BULK AT MOST 1048576: true; the input reads as it did. -/
def fnExactEqualPacketsUptoRow : OpenClaim := { program := "ytbjfcjjfhnjaiaa", sum := "52a8076787e2436cc7168077ea74d930e549e9011340e7ed2ff4fc02b15d3dad", func := "loop.example/g00505/laws.FnExactEqualPackets", spec := "fnExactEqualPackets", unfollowed := true, recurses := true, apart := false, narrowed := true }
def FnExactEqualPacketsUptoSaid : Prop := fnExactEqualPacketsUptoRow.holds Try.pinned (OpenSpec.upto fnExactEqualPacketsSpec)

/-- 'laws.FnExactAtLastHop', WHERE WHAT IT READS IS OF BULK AT MOST 1048576: true; the input reads as it did. -/
def fnExactAtLastHopUptoRow : OpenClaim := { program := "ytbjfcjjfhnjaiaa", sum := "52a8076787e2436cc7168077ea74d930e549e9011340e7ed2ff4fc02b15d3dad", func := "loop.example/g00505/laws.FnExactAtLastHop", spec := "fnExactAtLastHop", apart := false, narrowed := true }
def FnExactAtLastHopUptoSaid : Prop := fnExactAtLastHopUptoRow.holds Try.pinned (OpenSpec.upto fnExactAtLastHopSpec)

/-- 'laws.FnExactCurrentHopValid', WHERE WHAT IT READS IS OF BULK AT MOST 1048576: true; the input reads as it did. -/
def fnExactCurrentHopValidUptoRow : OpenClaim := { program := "ytbjfcjjfhnjaiaa", sum := "52a8076787e2436cc7168077ea74d930e549e9011340e7ed2ff4fc02b15d3dad", func := "loop.example/g00505/laws.FnExactCurrentHopValid", spec := "fnExactCurrentHopValid", apart := false, narrowed := true }
def FnExactCurrentHopValidUptoSaid : Prop := fnExactCurrentHopValidUptoRow.holds Try.pinned (OpenSpec.upto fnExactCurrentHopValidSpec)

/-- 'laws.FnExactEqualVerdicts', WHERE WHAT IT READS IS OF BULK AT MOST 1048576: true; the input reads as it did. -/
def fnExactEqualVerdictsUptoRow : OpenClaim := { program := "ytbjfcjjfhnjaiaa", sum := "52a8076787e2436cc7168077ea74d930e549e9011340e7ed2ff4fc02b15d3dad", func := "loop.example/g00505/laws.FnExactEqualVerdicts", spec := "fnExactEqualVerdicts", unfollowed := true, recurses := true, apart := false, narrowed := true }
def FnExactEqualVerdictsUptoSaid : Prop := fnExactEqualVerdictsUptoRow.holds Try.pinned (OpenSpec.upto fnExactEqualVerdictsSpec)

/-- 'laws.FnExactOppositeEndpoints', WHERE WHAT IT READS IS OF BULK AT MOST 1048576: true; the input reads as it did. -/
def fnExactOppositeEndpointsUptoRow : OpenClaim := { program := "ytbjfcjjfhnjaiaa", sum := "52a8076787e2436cc7168077ea74d930e549e9011340e7ed2ff4fc02b15d3dad", func := "loop.example/g00505/laws.FnExactOppositeEndpoints", spec := "fnExactOppositeEndpoints", apart := false, narrowed := true }
def FnExactOppositeEndpointsUptoSaid : Prop := fnExactOppositeEndpointsUptoRow.holds Try.pinned (OpenSpec.upto fnExactOppositeEndpointsSpec)

/-- 'laws.FnExactValidInbox', WHERE WHAT IT READS IS OF BULK AT MOST 1048576: true; the input reads as it did. -/
def fnExactValidInboxUptoRow : OpenClaim := { program := "ytbjfcjjfhnjaiaa", sum := "52a8076787e2436cc7168077ea74d930e549e9011340e7ed2ff4fc02b15d3dad", func := "loop.example/g00505/laws.FnExactValidInbox", spec := "fnExactValidInbox", unfollowed := true, recurses := true, apart := false, narrowed := true }
def FnExactValidInboxUptoSaid : Prop := fnExactValidInboxUptoRow.holds Try.pinned (OpenSpec.upto fnExactValidInboxSpec)

/-- 'laws.FnExactFindInbox', WHERE WHAT IT READS IS OF BULK AT MOST 1048576: true; the input reads as it did. -/
def fnExactFindInboxUptoRow : OpenClaim := { program := "ytbjfcjjfhnjaiaa", sum := "52a8076787e2436cc7168077ea74d930e549e9011340e7ed2ff4fc02b15d3dad", func := "loop.example/g00505/laws.FnExactFindInbox", spec := "fnExactFindInbox", unfollowed := true, recurses := true, apart := false, narrowed := true }
def FnExactFindInboxUptoSaid : Prop := fnExactFindInboxUptoRow.holds Try.pinned (OpenSpec.upto fnExactFindInboxSpec)

/-- 'laws.FnExactEqualInboxes', WHERE WHAT IT READS IS OF BULK AT MOST 1048576: true; the input reads as it did. -/
def fnExactEqualInboxesUptoRow : OpenClaim := { program := "ytbjfcjjfhnjaiaa", sum := "52a8076787e2436cc7168077ea74d930e549e9011340e7ed2ff4fc02b15d3dad", func := "loop.example/g00505/laws.FnExactEqualInboxes", spec := "fnExactEqualInboxes", unfollowed := true, recurses := true, apart := false, narrowed := true }
def FnExactEqualInboxesUptoSaid : Prop := fnExactEqualInboxesUptoRow.holds Try.pinned (OpenSpec.upto fnExactEqualInboxesSpec)

end Rows
end Go.Proofs.Ytbjfcjjfhnjaiaa
