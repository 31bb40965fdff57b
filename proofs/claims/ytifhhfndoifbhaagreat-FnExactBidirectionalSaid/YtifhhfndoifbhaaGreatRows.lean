/-
  No cell of these rows narrows 'for every input' (looked for: loops, veiled, ifaces, maps, wideKeys, modest, calm, conditions, laid).
  DERIVED. THE GIVEN ROWS OF THIS SEAT. 2 by the template 'for every input the law returns true; each argument reads behind the call as it read before'; 0 by the template 'total and deterministic' (their statements: YtifhhfndoifbhaaGreatTotals.lean).
  GIVEN WITH THE SEED: the statements are not yours to turn. If you find one false, say at which input.
  Laid BY PROGRAM, IN A SANDBOX (cutbox-rows.mjs): the forced cells as the released guide's own fill.sh prints them over the translation 1aed635169b39a99… (all of the seat's roots in one cut). By AI agents, Wed Nov 11 2026. No macro, syntax, notation, axiom, sorry.
-/
import Derived.Test.YtifhhfndoifbhaaGreatChecked
import GoSem.Claim
import GoSem.ClaimJoined
import GoSem.ClaimMapViews
import Derived.JoinedTies
import Derived.KernelRfl
namespace Go.Proofs.YtifhhfndoifbhaaGreat
/- THE CELL 'sum', in the pinned program and in every row, IS THE sha256 OF THE DUMP (.gsa) THAT YtifhhfndoifbhaaGreatProg.lean LOADS. Nothing in Lean hashes anything: it is a label: what it is worth is what the hold of that sum in a sandbox is worth. -/
noncomputable def Tryz.pinned : Pinned := { name := "ytifhhfndoifbhaagreat", sum := "1aed635169b39a99983f50b3b6caea4cf6bf4cd5f26e890ce788e703c5437586", checked := Tryz.checked }
namespace Rows
def none {H : Type} : Left H := { results := [], args := [] }

/-- 'laws.FnExactPathUsable': WHATEVER THE INPUT: true; the input reads as it did. -/
def fnExactPathUsableSpec : ChangeSpec := { name := "fnExactPathUsable", fn := fun _ => fun
  | [d1, d2, d3] => { results := [.lit (.bool true)], args := [d1, d2, d3] }
  | _ => none }
def fnExactPathUsableRow : OpenClaim := { program := "ytifhhfndoifbhaagreat", sum := "1aed635169b39a99983f50b3b6caea4cf6bf4cd5f26e890ce788e703c5437586", func := "loop.example/g00505/laws.FnExactPathUsable", spec := "fnExactPathUsable", unfollowed := true, recurses := true, apart := false }
def FnExactPathUsableSaid : Prop := fnExactPathUsableRow.holds Tryz.pinned (OpenSpec.ofChange fnExactPathUsableSpec)

/-- ITS FALSE NEIGHBOUR: 'it returns false'. Refute it at one input. -/
def fnExactPathUsableWrong : ChangeSpec := { name := "fnExactPathUsable", fn := fun _ => fun
  | [d1, d2, d3] => { results := [.lit (.bool false)], args := [d1, d2, d3] }
  | _ => none }
def FnExactPathUsableWrongFalsely : Prop := fnExactPathUsableRow.holds Tryz.pinned (OpenSpec.ofChange fnExactPathUsableWrong)

/-- 'laws.FnExactBidirectional': WHATEVER THE INPUT: true; the input reads as it did. -/
def fnExactBidirectionalSpec : ChangeSpec := { name := "fnExactBidirectional", fn := fun _ => fun
  | [d1, d2, d3] => { results := [.lit (.bool true)], args := [d1, d2, d3] }
  | _ => none }
def fnExactBidirectionalRow : OpenClaim := { program := "ytifhhfndoifbhaagreat", sum := "1aed635169b39a99983f50b3b6caea4cf6bf4cd5f26e890ce788e703c5437586", func := "loop.example/g00505/laws.FnExactBidirectional", spec := "fnExactBidirectional", unfollowed := true, recurses := true, apart := false }
def FnExactBidirectionalSaid : Prop := fnExactBidirectionalRow.holds Tryz.pinned (OpenSpec.ofChange fnExactBidirectionalSpec)

/-- ITS FALSE NEIGHBOUR: 'it returns false'. Refute it at one input. -/
def fnExactBidirectionalWrong : ChangeSpec := { name := "fnExactBidirectional", fn := fun _ => fun
  | [d1, d2, d3] => { results := [.lit (.bool false)], args := [d1, d2, d3] }
  | _ => none }
def FnExactBidirectionalWrongFalsely : Prop := fnExactBidirectionalRow.holds Tryz.pinned (OpenSpec.ofChange fnExactBidirectionalWrong)

/- THE SECOND FORM. 'bulk': how many values and letters a reading holds, each counted each time it is reached (what is shared counts as often as it is met; a slice's spare places count too). A statement '..UptoSaid' is the law's where the arguments, and the package variables that the reading takes, are together of bulk at most 1048576: NARROWER than '..Said'. Prove '..Said' where nothing that the law and all that it calls make is longer than what came in: it says more and counts as full. Else prove '..UptoSaid'. A law counts once. -/
mutual
def uptoBulk {H : Type} : DataW H → Nat
  | .lit (.string bytes) => bytes.length + 1
  | .lit _ => 1
  | .nil => 1
  | .ptr d => uptoBulk d + 1
  | .slice elems spare => uptoBulkAll elems + uptoBulkAll spare + 1
  | .agg parts => uptoBulkAll parts + 1
  | .iface _ d => uptoBulk d + 1
  | .map entries => uptoBulkEntries entries + 1
  | .held _ => 1
def uptoBulkAll {H : Type} : List (DataW H) → Nat
  | [] => 0
  | d :: r => uptoBulk d + uptoBulkAll r
def uptoBulkEntries {H : Type} : List (Lit × DataW H) → Nat
  | [] => 0
  | x :: r => uptoBulkEntry x + uptoBulkEntries r
def uptoBulkEntry {H : Type} : Lit × DataW H → Nat
  | (.string bytes, d) => bytes.length + uptoBulk d + 1
  | (_, d) => uptoBulk d + 1
 end
def uptoSmall : (H : Type) → List (DataW H) → Bool := fun _ ds => decide (uptoBulkAll ds ≤ 1048576)
def OpenSpec.upto (s : _root_.Go.ChangeSpec) : _root_.Go.OpenSpec := { _root_.Go.OpenSpec.ofChange s with cond := some uptoSmall }

/-- 'laws.FnExactPathUsable', WHERE WHAT IT READS IS OF BULK AT MOST 1048576: true; the input reads as it did. -/
def fnExactPathUsableUptoRow : OpenClaim := { program := "ytifhhfndoifbhaagreat", sum := "1aed635169b39a99983f50b3b6caea4cf6bf4cd5f26e890ce788e703c5437586", func := "loop.example/g00505/laws.FnExactPathUsable", spec := "fnExactPathUsable", unfollowed := true, recurses := true, apart := false, narrowed := true }
def FnExactPathUsableUptoSaid : Prop := fnExactPathUsableUptoRow.holds Tryz.pinned (OpenSpec.upto fnExactPathUsableSpec)

/-- 'laws.FnExactBidirectional', WHERE WHAT IT READS IS OF BULK AT MOST 1048576: true; the input reads as it did. -/
def fnExactBidirectionalUptoRow : OpenClaim := { program := "ytifhhfndoifbhaagreat", sum := "1aed635169b39a99983f50b3b6caea4cf6bf4cd5f26e890ce788e703c5437586", func := "loop.example/g00505/laws.FnExactBidirectional", spec := "fnExactBidirectional", unfollowed := true, recurses := true, apart := false, narrowed := true }
def FnExactBidirectionalUptoSaid : Prop := fnExactBidirectionalUptoRow.holds Tryz.pinned (OpenSpec.upto fnExactBidirectionalSpec)

end Rows
end Go.Proofs.YtifhhfndoifbhaaGreat
