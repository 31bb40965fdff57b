/-
  No cell of these rows narrows 'for every input' (looked for: loops, veiled, ifaces, maps, wideKeys, modest, calm, conditions, laid).
  DERIVED. THE GIVEN ROWS OF THIS SEAT. 4 by the template 'for every input the law returns true; each argument reads behind the call as it read before'; 0 by the template 'total and deterministic' (their statements: YtdlafigjkefllaaTotals.lean).
  GIVEN WITH THE SEED: the statements are not yours to turn. If you find one false, say at which input.
  Laid BY PROGRAM, IN A SANDBOX (cutbox-rows.mjs): the forced cells as the released guide's own fill.sh prints them over the translation 67c86cfd3c40c29d… (all of the seat's roots in one cut). By AI agents, Wed Nov 11 2026. No macro, syntax, notation, axiom, sorry.
-/
import Derived.Test.YtdlafigjkefllaaChecked
import GoSem.Claim
import GoSem.ClaimJoined
import GoSem.ClaimMapViews
import Derived.JoinedTies
import Derived.KernelRfl
namespace Go.Proofs.Ytdlafigjkefllaa
/- THE CELL 'sum', in the pinned program and in every row, IS THE sha256 OF THE DUMP (.gsa) THAT YtdlafigjkefllaaProg.lean LOADS. Nothing in Lean hashes anything: it is a label: what it is worth is what the hold of that sum in a sandbox is worth. -/
noncomputable def Try.pinned : Pinned := { name := "ytdlafigjkefllaa", sum := "67c86cfd3c40c29db2c92696f6c5efb21a0f8055c541f8b0f22f33e9da05553f", checked := Try.checked }
namespace Rows
def none {H : Type} : Left H := { results := [], args := [] }

/-- 'laws.FnExactDropExpired': WHATEVER THE INPUT: true; the input reads as it did. -/
def fnExactDropExpiredSpec : ChangeSpec := { name := "fnExactDropExpired", fn := fun _ => fun
  | [d1, d2] => { results := [.lit (.bool true)], args := [d1, d2] }
  | _ => none }
def fnExactDropExpiredRow : OpenClaim := { program := "ytdlafigjkefllaa", sum := "67c86cfd3c40c29db2c92696f6c5efb21a0f8055c541f8b0f22f33e9da05553f", func := "loop.example/g00505/laws.FnExactDropExpired", spec := "fnExactDropExpired", apart := false }
def FnExactDropExpiredSaid : Prop := fnExactDropExpiredRow.holds Try.pinned (OpenSpec.ofChange fnExactDropExpiredSpec)

/-- ITS FALSE NEIGHBOUR: 'it returns false'. Refute it at one input. -/
def fnExactDropExpiredWrong : ChangeSpec := { name := "fnExactDropExpired", fn := fun _ => fun
  | [d1, d2] => { results := [.lit (.bool false)], args := [d1, d2] }
  | _ => none }
def FnExactDropExpiredWrongFalsely : Prop := fnExactDropExpiredRow.holds Try.pinned (OpenSpec.ofChange fnExactDropExpiredWrong)

/-- 'laws.FnExactDownSegments': WHATEVER THE INPUT: true; the input reads as it did. -/
def fnExactDownSegmentsSpec : ChangeSpec := { name := "fnExactDownSegments", fn := fun _ => fun
  | [d1, d2] => { results := [.lit (.bool true)], args := [d1, d2] }
  | _ => none }
def fnExactDownSegmentsRow : OpenClaim := { program := "ytdlafigjkefllaa", sum := "67c86cfd3c40c29db2c92696f6c5efb21a0f8055c541f8b0f22f33e9da05553f", func := "loop.example/g00505/laws.FnExactDownSegments", spec := "fnExactDownSegments", unfollowed := true, recurses := true, apart := false }
def FnExactDownSegmentsSaid : Prop := fnExactDownSegmentsRow.holds Try.pinned (OpenSpec.ofChange fnExactDownSegmentsSpec)

/-- ITS FALSE NEIGHBOUR: 'it returns false'. Refute it at one input. -/
def fnExactDownSegmentsWrong : ChangeSpec := { name := "fnExactDownSegments", fn := fun _ => fun
  | [d1, d2] => { results := [.lit (.bool false)], args := [d1, d2] }
  | _ => none }
def FnExactDownSegmentsWrongFalsely : Prop := fnExactDownSegmentsRow.holds Try.pinned (OpenSpec.ofChange fnExactDownSegmentsWrong)

/-- 'laws.FnExactCoreSegments': WHATEVER THE INPUT: true; the input reads as it did. -/
def fnExactCoreSegmentsSpec : ChangeSpec := { name := "fnExactCoreSegments", fn := fun _ => fun
  | [d1, d2, d3] => { results := [.lit (.bool true)], args := [d1, d2, d3] }
  | _ => none }
def fnExactCoreSegmentsRow : OpenClaim := { program := "ytdlafigjkefllaa", sum := "67c86cfd3c40c29db2c92696f6c5efb21a0f8055c541f8b0f22f33e9da05553f", func := "loop.example/g00505/laws.FnExactCoreSegments", spec := "fnExactCoreSegments", unfollowed := true, recurses := true, apart := false }
def FnExactCoreSegmentsSaid : Prop := fnExactCoreSegmentsRow.holds Try.pinned (OpenSpec.ofChange fnExactCoreSegmentsSpec)

/-- ITS FALSE NEIGHBOUR: 'it returns false'. Refute it at one input. -/
def fnExactCoreSegmentsWrong : ChangeSpec := { name := "fnExactCoreSegments", fn := fun _ => fun
  | [d1, d2, d3] => { results := [.lit (.bool false)], args := [d1, d2, d3] }
  | _ => none }
def FnExactCoreSegmentsWrongFalsely : Prop := fnExactCoreSegmentsRow.holds Try.pinned (OpenSpec.ofChange fnExactCoreSegmentsWrong)

/-- 'laws.FnExactHandleData': WHATEVER THE INPUT: true; the input reads as it did. -/
def fnExactHandleDataSpec : ChangeSpec := { name := "fnExactHandleData", fn := fun _ => fun
  | [d1, d2] => { results := [.lit (.bool true)], args := [d1, d2] }
  | _ => none }
def fnExactHandleDataRow : OpenClaim := { program := "ytdlafigjkefllaa", sum := "67c86cfd3c40c29db2c92696f6c5efb21a0f8055c541f8b0f22f33e9da05553f", func := "loop.example/g00505/laws.FnExactHandleData", spec := "fnExactHandleData", unfollowed := true, recurses := true, apart := false }
def FnExactHandleDataSaid : Prop := fnExactHandleDataRow.holds Try.pinned (OpenSpec.ofChange fnExactHandleDataSpec)

/-- ITS FALSE NEIGHBOUR: 'it returns false'. Refute it at one input. -/
def fnExactHandleDataWrong : ChangeSpec := { name := "fnExactHandleData", fn := fun _ => fun
  | [d1, d2] => { results := [.lit (.bool false)], args := [d1, d2] }
  | _ => none }
def FnExactHandleDataWrongFalsely : Prop := fnExactHandleDataRow.holds Try.pinned (OpenSpec.ofChange fnExactHandleDataWrong)

/- THE SECOND FORM. 'bulk': how many values and letters a reading holds, each counted each time it is reached (what is shared counts as often as it is met; a slice's spare places count too). A statement '..UptoSaid' is the law's where the arguments, and the package variables that the reading takes, are together of bulk at most 1048576: NARROWER than '..Said'. Prove '..Said' where nothing that the law and all that it calls make is longer than what came in: it says more and counts as full. Else prove '..UptoSaid'. A law counts once. -/
mutual
def uptoBulk {H : Type} : DataW H → Nat
  | .lit (.string bytes) => bytes.length + 1
  | .lit _ => 1
  | .nil => 1
  | .ptr d => uptoBulk d + 1
  | .slice elems spare => uptoBulkAll elems + uptoBulkAll spare + 1
  | .agg parts => uptoBulkAll parts + 1
  | .iface _ d => uptoBulk d + 1
  | .map entries => uptoBulkEntries entries + 1
  | .held _ => 1
def uptoBulkAll {H : Type} : List (DataW H) → Nat
  | [] => 0
  | d :: r => uptoBulk d + uptoBulkAll r
def uptoBulkEntries {H : Type} : List (Lit × DataW H) → Nat
  | [] => 0
  | x :: r => uptoBulkEntry x + uptoBulkEntries r
def uptoBulkEntry {H : Type} : Lit × DataW H → Nat
  | (.string bytes, d) => bytes.length + uptoBulk d + 1
  | (_, d) => uptoBulk d + 1
 end
def uptoSmall : (H : Type) → List (DataW H) → Bool := fun _ ds => decide (uptoBulkAll ds ≤ 1048576)
def OpenSpec.upto (s : _root_.Go.ChangeSpec) : _root_.Go.OpenSpec := { _root_.Go.OpenSpec.ofChange s with cond := some uptoSmall }

/-- 'laws.FnExactDropExpired', WHERE WHAT IT READS IS OF BULK AT MOST 1048576: true; the input reads as it did. -/
def fnExactDropExpiredUptoRow : OpenClaim := { program := "ytdlafigjkefllaa", sum := "67c86cfd3c40c29db2c92696f6c5efb21a0f8055c541f8b0f22f33e9da05553f", func := "loop.example/g00505/laws.FnExactDropExpired", spec := "fnExactDropExpired", apart := false, narrowed := true }
def FnExactDropExpiredUptoSaid : Prop := fnExactDropExpiredUptoRow.holds Try.pinned (OpenSpec.upto fnExactDropExpiredSpec)

/-- 'laws.FnExactDownSegments', WHERE WHAT IT READS IS OF BULK AT MOST 1048576: true; the input reads as it did. -/
def fnExactDownSegmentsUptoRow : OpenClaim := { program := "ytdlafigjkefllaa", sum := "67c86cfd3c40c29db2c92696f6c5efb21a0f8055c541f8b0f22f33e9da05553f", func := "loop.example/g00505/laws.FnExactDownSegments", spec := "fnExactDownSegments", unfollowed := true, recurses := true, apart := false, narrowed := true }
def FnExactDownSegmentsUptoSaid : Prop := fnExactDownSegmentsUptoRow.holds Try.pinned (OpenSpec.upto fnExactDownSegmentsSpec)

/-- 'laws.FnExactCoreSegments', WHERE WHAT IT READS IS OF BULK AT MOST 1048576: true; the input reads as it did. -/
def fnExactCoreSegmentsUptoRow : OpenClaim := { program := "ytdlafigjkefllaa", sum := "67c86cfd3c40c29db2c92696f6c5efb21a0f8055c541f8b0f22f33e9da05553f", func := "loop.example/g00505/laws.FnExactCoreSegments", spec := "fnExactCoreSegments", unfollowed := true, recurses := true, apart := false, narrowed := true }
def FnExactCoreSegmentsUptoSaid : Prop := fnExactCoreSegmentsUptoRow.holds Try.pinned (OpenSpec.upto fnExactCoreSegmentsSpec)

/-- 'laws.FnExactHandleData', WHERE WHAT IT READS IS OF BULK AT MOST 1048576: true; the input reads as it did. -/
def fnExactHandleDataUptoRow : OpenClaim := { program := "ytdlafigjkefllaa", sum := "67c86cfd3c40c29db2c92696f6c5efb21a0f8055c541f8b0f22f33e9da05553f", func := "loop.example/g00505/laws.FnExactHandleData", spec := "fnExactHandleData", unfollowed := true, recurses := true, apart := false, narrowed := true }
def FnExactHandleDataUptoSaid : Prop := fnExactHandleDataUptoRow.holds Try.pinned (OpenSpec.upto fnExactHandleDataSpec)

end Rows
end Go.Proofs.Ytdlafigjkefllaa
