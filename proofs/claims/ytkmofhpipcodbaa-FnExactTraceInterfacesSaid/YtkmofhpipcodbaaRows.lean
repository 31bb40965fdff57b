/-
  No cell of these rows narrows 'for every input' (looked for: loops, veiled, ifaces, maps, wideKeys, modest, calm, conditions, laid).
  DERIVED. THE GIVEN ROWS OF THIS SEAT. 6 by the template 'for every input the law returns true; each argument reads behind the call as it read before'; 0 by the template 'total and deterministic' (their statements: YtkmofhpipcodbaaTotals.lean).
  GIVEN WITH THE SEED: the statements are not yours to turn. If you find one false, say at which input.
  Laid BY PROGRAM, IN A SANDBOX (cutbox-rows.mjs): the forced cells as the released guide's own fill.sh prints them over the translation 1887ede9000b853b… (all of the seat's roots in one cut). By AI agents, Wed Nov 11 2026. No macro, syntax, notation, axiom, sorry.
-/
import Derived.Test.YtkmofhpipcodbaaChecked
import GoSem.Claim
import GoSem.ClaimJoined
import GoSem.ClaimMapViews
import Derived.JoinedTies
import Derived.KernelRfl
namespace Go.Proofs.Ytkmofhpipcodbaa
/- THE CELL 'sum', in the pinned program and in every row, IS THE sha256 OF THE DUMP (.gsa) THAT YtkmofhpipcodbaaProg.lean LOADS. Nothing in Lean hashes anything: it is a label: what it is worth is what the hold of that sum in a sandbox is worth. -/
noncomputable def Try.pinned : Pinned := { name := "ytkmofhpipcodbaa", sum := "1887ede9000b853babfd386edd8fd0e0fe8ccf2a56fce7804fbfed925c5c800e", checked := Try.checked }
namespace Rows
def none {H : Type} : Left H := { results := [], args := [] }

/-- 'laws.FnExactSharedInterfaces': WHATEVER THE INPUT: true; the input reads as it did. -/
def fnExactSharedInterfacesSpec : ChangeSpec := { name := "fnExactSharedInterfaces", fn := fun _ => fun
  | [d1, d2] => { results := [.lit (.bool true)], args := [d1, d2] }
  | _ => none }
def fnExactSharedInterfacesRow : OpenClaim := { program := "ytkmofhpipcodbaa", sum := "1887ede9000b853babfd386edd8fd0e0fe8ccf2a56fce7804fbfed925c5c800e", func := "loop.example/g00505/laws.FnExactSharedInterfaces", spec := "fnExactSharedInterfaces", apart := false }
def FnExactSharedInterfacesSaid : Prop := fnExactSharedInterfacesRow.holds Try.pinned (OpenSpec.ofChange fnExactSharedInterfacesSpec)

/-- ITS FALSE NEIGHBOUR: 'it returns false'. Refute it at one input. -/
def fnExactSharedInterfacesWrong : ChangeSpec := { name := "fnExactSharedInterfaces", fn := fun _ => fun
  | [d1, d2] => { results := [.lit (.bool false)], args := [d1, d2] }
  | _ => none }
def FnExactSharedInterfacesWrongFalsely : Prop := fnExactSharedInterfacesRow.holds Try.pinned (OpenSpec.ofChange fnExactSharedInterfacesWrong)

/-- 'laws.FnExactFailedInterfaces': WHATEVER THE INPUT: true; the input reads as it did. -/
def fnExactFailedInterfacesSpec : ChangeSpec := { name := "fnExactFailedInterfaces", fn := fun _ => fun
  | [d1, d2, d3] => { results := [.lit (.bool true)], args := [d1, d2, d3] }
  | _ => none }
def fnExactFailedInterfacesRow : OpenClaim := { program := "ytkmofhpipcodbaa", sum := "1887ede9000b853babfd386edd8fd0e0fe8ccf2a56fce7804fbfed925c5c800e", func := "loop.example/g00505/laws.FnExactFailedInterfaces", spec := "fnExactFailedInterfaces", recurses := true, apart := false }
def FnExactFailedInterfacesSaid : Prop := fnExactFailedInterfacesRow.holds Try.pinned (OpenSpec.ofChange fnExactFailedInterfacesSpec)

/-- ITS FALSE NEIGHBOUR: 'it returns false'. Refute it at one input. -/
def fnExactFailedInterfacesWrong : ChangeSpec := { name := "fnExactFailedInterfaces", fn := fun _ => fun
  | [d1, d2, d3] => { results := [.lit (.bool false)], args := [d1, d2, d3] }
  | _ => none }
def FnExactFailedInterfacesWrongFalsely : Prop := fnExactFailedInterfacesRow.holds Try.pinned (OpenSpec.ofChange fnExactFailedInterfacesWrong)

/-- 'laws.FnExactTraceInterfaces': WHATEVER THE INPUT: true; the input reads as it did. -/
def fnExactTraceInterfacesSpec : ChangeSpec := { name := "fnExactTraceInterfaces", fn := fun _ => fun
  | [d] => { results := [.lit (.bool true)], args := [d] }
  | _ => none }
def fnExactTraceInterfacesRow : OpenClaim := { program := "ytkmofhpipcodbaa", sum := "1887ede9000b853babfd386edd8fd0e0fe8ccf2a56fce7804fbfed925c5c800e", func := "loop.example/g00505/laws.FnExactTraceInterfaces", spec := "fnExactTraceInterfaces", apart := false }
def FnExactTraceInterfacesSaid : Prop := fnExactTraceInterfacesRow.holds Try.pinned (OpenSpec.ofChange fnExactTraceInterfacesSpec)

/-- ITS FALSE NEIGHBOUR: 'it returns false'. Refute it at one input. -/
def fnExactTraceInterfacesWrong : ChangeSpec := { name := "fnExactTraceInterfaces", fn := fun _ => fun
  | [d] => { results := [.lit (.bool false)], args := [d] }
  | _ => none }
def FnExactTraceInterfacesWrongFalsely : Prop := fnExactTraceInterfacesRow.holds Try.pinned (OpenSpec.ofChange fnExactTraceInterfacesWrong)

/-- 'laws.FnExactRevoked': WHATEVER THE INPUT: true; the input reads as it did. -/
def fnExactRevokedSpec : ChangeSpec := { name := "fnExactRevoked", fn := fun _ => fun
  | [d1, d2, d3] => { results := [.lit (.bool true)], args := [d1, d2, d3] }
  | _ => none }
def fnExactRevokedRow : OpenClaim := { program := "ytkmofhpipcodbaa", sum := "1887ede9000b853babfd386edd8fd0e0fe8ccf2a56fce7804fbfed925c5c800e", func := "loop.example/g00505/laws.FnExactRevoked", spec := "fnExactRevoked", unfollowed := true, recurses := true, apart := false }
def FnExactRevokedSaid : Prop := fnExactRevokedRow.holds Try.pinned (OpenSpec.ofChange fnExactRevokedSpec)

/-- ITS FALSE NEIGHBOUR: 'it returns false'. Refute it at one input. -/
def fnExactRevokedWrong : ChangeSpec := { name := "fnExactRevoked", fn := fun _ => fun
  | [d1, d2, d3] => { results := [.lit (.bool false)], args := [d1, d2, d3] }
  | _ => none }
def FnExactRevokedWrongFalsely : Prop := fnExactRevokedRow.holds Try.pinned (OpenSpec.ofChange fnExactRevokedWrong)

/-- 'laws.FnExactValidFlow': WHATEVER THE INPUT: true; the input reads as it did. -/
def fnExactValidFlowSpec : ChangeSpec := { name := "fnExactValidFlow", fn := fun _ => fun
  | [d] => { results := [.lit (.bool true)], args := [d] }
  | _ => none }
def fnExactValidFlowRow : OpenClaim := { program := "ytkmofhpipcodbaa", sum := "1887ede9000b853babfd386edd8fd0e0fe8ccf2a56fce7804fbfed925c5c800e", func := "loop.example/g00505/laws.FnExactValidFlow", spec := "fnExactValidFlow", unfollowed := true, recurses := true, apart := false }
def FnExactValidFlowSaid : Prop := fnExactValidFlowRow.holds Try.pinned (OpenSpec.ofChange fnExactValidFlowSpec)

/-- ITS FALSE NEIGHBOUR: 'it returns false'. Refute it at one input. -/
def fnExactValidFlowWrong : ChangeSpec := { name := "fnExactValidFlow", fn := fun _ => fun
  | [d] => { results := [.lit (.bool false)], args := [d] }
  | _ => none }
def FnExactValidFlowWrongFalsely : Prop := fnExactValidFlowRow.holds Try.pinned (OpenSpec.ofChange fnExactValidFlowWrong)

/-- 'laws.FnExactConsistentWith': WHATEVER THE INPUT: true; the input reads as it did. -/
def fnExactConsistentWithSpec : ChangeSpec := { name := "fnExactConsistentWith", fn := fun _ => fun
  | [d1, d2] => { results := [.lit (.bool true)], args := [d1, d2] }
  | _ => none }
def fnExactConsistentWithRow : OpenClaim := { program := "ytkmofhpipcodbaa", sum := "1887ede9000b853babfd386edd8fd0e0fe8ccf2a56fce7804fbfed925c5c800e", func := "loop.example/g00505/laws.FnExactConsistentWith", spec := "fnExactConsistentWith", unfollowed := true, recurses := true, apart := false }
def FnExactConsistentWithSaid : Prop := fnExactConsistentWithRow.holds Try.pinned (OpenSpec.ofChange fnExactConsistentWithSpec)

/-- ITS FALSE NEIGHBOUR: 'it returns false'. Refute it at one input. -/
def fnExactConsistentWithWrong : ChangeSpec := { name := "fnExactConsistentWith", fn := fun _ => fun
  | [d1, d2] => { results := [.lit (.bool false)], args := [d1, d2] }
  | _ => none }
def FnExactConsistentWithWrongFalsely : Prop := fnExactConsistentWithRow.holds Try.pinned (OpenSpec.ofChange fnExactConsistentWithWrong)

/- THE SECOND FORM. 'bulk': how many values and letters a reading holds, each counted each time it is reached (what is shared counts as often as it is met; a slice's spare places count too). A statement '..UptoSaid' is the law's where the arguments, and the package variables that the reading takes, are together of bulk at most 1048576: NARROWER than '..Said'. Prove '..Said' where nothing that the law and all that it calls make is longer than what came in: it says more and counts as full. Else prove '..UptoSaid'. A law counts once. -/
mutual
def uptoBulk {H : Type} : DataW H → Nat
  | .lit (.string bytes) => bytes.length + 1
  | .lit _ => 1
  | .nil => 1
  | .ptr d => uptoBulk d + 1
  | .slice elems spare => uptoBulkAll elems + uptoBulkAll spare + 1
  | .agg parts => uptoBulkAll parts + 1
  | .iface _ d => uptoBulk d + 1
  | .map entries => uptoBulkEntries entries + 1
  | .held _ => 1
def uptoBulkAll {H : Type} : List (DataW H) → Nat
  | [] => 0
  | d :: r => uptoBulk d + uptoBulkAll r
def uptoBulkEntries {H : Type} : List (Lit × DataW H) → Nat
  | [] => 0
  | x :: r => uptoBulkEntry x + uptoBulkEntries r
def uptoBulkEntry {H : Type} : Lit × DataW H → Nat
  | (.string bytes, d) => bytes.length + uptoBulk d + 1
  | (_, d) => uptoBulk d + 1
 end
def uptoSmall : (H : Type) → List (DataW H) → Bool := fun _ ds => decide (uptoBulkAll ds ≤ 1048576)
def OpenSpec.upto (s : _root_.Go.ChangeSpec) : _root_.Go.OpenSpec := { _root_.Go.OpenSpec.ofChange s with cond := some uptoSmall }

/-- 'laws.FnExactSharedInterfaces', WHERE WHAT IT READS IS OF BULK AT MOST 1048576: true; the input reads as it did. -/
def fnExactSharedInterfacesUptoRow : OpenClaim := { program := "ytkmofhpipcodbaa", sum := "1887ede9000b853babfd386edd8fd0e0fe8ccf2a56fce7804fbfed925c5c800e", func := "loop.example/g00505/laws.FnExactSharedInterfaces", spec := "fnExactSharedInterfaces", apart := false, narrowed := true }
def FnExactSharedInterfacesUptoSaid : Prop := fnExactSharedInterfacesUptoRow.holds Try.pinned (OpenSpec.upto fnExactSharedInterfacesSpec)

/-- 'laws.FnExactFailedInterfaces', WHERE WHAT IT READS IS OF BULK AT MOST 1048576: true; the input reads as it did. -/
def fnExactFailedInterfacesUptoRow : OpenClaim := { program := "ytkmofhpipcodbaa", sum := "1887ede9000b853babfd386edd8fd0e0fe8ccf2a56fce7804fbfed925c5c800e", func := "loop.example/g00505/laws.FnExactFailedInterfaces", spec := "fnExactFailedInterfaces", recurses := true, apart := false, narrowed := true }
def FnExactFailedInterfacesUptoSaid : Prop := fnExactFailedInterfacesUptoRow.holds Try.pinned (OpenSpec.upto fnExactFailedInterfacesSpec)

/-- 'laws.FnExactTraceInterfaces', WHERE WHAT IT READS IS OF BULK AT MOST 1048576: true; the input reads as it did. -/
def fnExactTraceInterfacesUptoRow : OpenClaim := { program := "ytkmofhpipcodbaa", sum := "1887ede9000b853babfd386edd8fd0e0fe8ccf2a56fce7804fbfed925c5c800e", func := "loop.example/g00505/laws.FnExactTraceInterfaces", spec := "fnExactTraceInterfaces", apart := false, narrowed := true }
def FnExactTraceInterfacesUptoSaid : Prop := fnExactTraceInterfacesUptoRow.holds Try.pinned (OpenSpec.upto fnExactTraceInterfacesSpec)

/-- 'laws.FnExactRevoked', WHERE WHAT IT READS IS OF BULK AT MOST 1048576: true; the input reads as it did. -/
def fnExactRevokedUptoRow : OpenClaim := { program := "ytkmofhpipcodbaa", sum := "1887ede9000b853babfd386edd8fd0e0fe8ccf2a56fce7804fbfed925c5c800e", func := "loop.example/g00505/laws.FnExactRevoked", spec := "fnExactRevoked", unfollowed := true, recurses := true, apart := false, narrowed := true }
def FnExactRevokedUptoSaid : Prop := fnExactRevokedUptoRow.holds Try.pinned (OpenSpec.upto fnExactRevokedSpec)

/-- 'laws.FnExactValidFlow', WHERE WHAT IT READS IS OF BULK AT MOST 1048576: true; the input reads as it did. -/
def fnExactValidFlowUptoRow : OpenClaim := { program := "ytkmofhpipcodbaa", sum := "1887ede9000b853babfd386edd8fd0e0fe8ccf2a56fce7804fbfed925c5c800e", func := "loop.example/g00505/laws.FnExactValidFlow", spec := "fnExactValidFlow", unfollowed := true, recurses := true, apart := false, narrowed := true }
def FnExactValidFlowUptoSaid : Prop := fnExactValidFlowUptoRow.holds Try.pinned (OpenSpec.upto fnExactValidFlowSpec)

/-- 'laws.FnExactConsistentWith', WHERE WHAT IT READS IS OF BULK AT MOST 1048576: true; the input reads as it did. -/
def fnExactConsistentWithUptoRow : OpenClaim := { program := "ytkmofhpipcodbaa", sum := "1887ede9000b853babfd386edd8fd0e0fe8ccf2a56fce7804fbfed925c5c800e", func := "loop.example/g00505/laws.FnExactConsistentWith", spec := "fnExactConsistentWith", unfollowed := true, recurses := true, apart := false, narrowed := true }
def FnExactConsistentWithUptoSaid : Prop := fnExactConsistentWithUptoRow.holds Try.pinned (OpenSpec.upto fnExactConsistentWithSpec)

end Rows
end Go.Proofs.Ytkmofhpipcodbaa
