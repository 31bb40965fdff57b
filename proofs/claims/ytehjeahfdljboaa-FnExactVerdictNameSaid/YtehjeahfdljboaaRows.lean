/-
  No cell of these rows narrows 'for every input' (looked for: loops, veiled, ifaces, maps, wideKeys, modest, calm, conditions, laid).
  DERIVED. THE GIVEN ROWS OF THIS SEAT. 3 by the template 'for every input the law returns true; each argument reads behind the call as it read before'; 0 by the template 'total and deterministic' (their statements: YtehjeahfdljboaaTotals.lean).
  GIVEN WITH THE SEED: the statements are not yours to turn. If you find one false, say at which input.
  Laid BY PROGRAM, IN A SANDBOX (cutbox-rows.mjs): the forced cells as the released guide's own fill.sh prints them over the translation ca590b49733b4364… (all of the seat's roots in one cut). By AI agents, Wed Nov 11 2026. No macro, syntax, notation, axiom, sorry.
-/
import Derived.Test.YtehjeahfdljboaaChecked
import GoSem.Claim
import GoSem.ClaimJoined
import GoSem.ClaimMapViews
import Derived.JoinedTies
import Derived.KernelRfl
namespace Go.Proofs.Ytehjeahfdljboaa
/- THE CELL 'sum', in the pinned program and in every row, IS THE sha256 OF THE DUMP (.gsa) THAT YtehjeahfdljboaaProg.lean LOADS. Nothing in Lean hashes anything: it is a label: what it is worth is what the hold of that sum in a sandbox is worth. -/
noncomputable def Try.pinned : Pinned := { name := "ytehjeahfdljboaa", sum := "ca590b49733b4364b98b74516032ebea79f701773351a857afe91a0f197f2d14", checked := Try.checked }
namespace Rows
def none {H : Type} : Left H := { results := [], args := [] }

/-- 'laws.FnExactTransitAllowed': WHATEVER THE INPUT: true; the input reads as it did. -/
def fnExactTransitAllowedSpec : ChangeSpec := { name := "fnExactTransitAllowed", fn := fun _ => fun
  | [d1, d2] => { results := [.lit (.bool true)], args := [d1, d2] }
  | _ => none }
def fnExactTransitAllowedRow : OpenClaim := { program := "ytehjeahfdljboaa", sum := "ca590b49733b4364b98b74516032ebea79f701773351a857afe91a0f197f2d14", func := "loop.example/g00505/laws.FnExactTransitAllowed", spec := "fnExactTransitAllowed", apart := false }
def FnExactTransitAllowedSaid : Prop := fnExactTransitAllowedRow.holds Try.pinned (OpenSpec.ofChange fnExactTransitAllowedSpec)

/-- ITS FALSE NEIGHBOUR: 'it returns false'. Refute it at one input. -/
def fnExactTransitAllowedWrong : ChangeSpec := { name := "fnExactTransitAllowed", fn := fun _ => fun
  | [d1, d2] => { results := [.lit (.bool false)], args := [d1, d2] }
  | _ => none }
def FnExactTransitAllowedWrongFalsely : Prop := fnExactTransitAllowedRow.holds Try.pinned (OpenSpec.ofChange fnExactTransitAllowedWrong)

/-- 'laws.FnExactStepAllowed': WHATEVER THE INPUT: true; the input reads as it did. -/
def fnExactStepAllowedSpec : ChangeSpec := { name := "fnExactStepAllowed", fn := fun _ => fun
  | [d1, d2] => { results := [.lit (.bool true)], args := [d1, d2] }
  | _ => none }
def fnExactStepAllowedRow : OpenClaim := { program := "ytehjeahfdljboaa", sum := "ca590b49733b4364b98b74516032ebea79f701773351a857afe91a0f197f2d14", func := "loop.example/g00505/laws.FnExactStepAllowed", spec := "fnExactStepAllowed", apart := false }
def FnExactStepAllowedSaid : Prop := fnExactStepAllowedRow.holds Try.pinned (OpenSpec.ofChange fnExactStepAllowedSpec)

/-- ITS FALSE NEIGHBOUR: 'it returns false'. Refute it at one input. -/
def fnExactStepAllowedWrong : ChangeSpec := { name := "fnExactStepAllowed", fn := fun _ => fun
  | [d1, d2] => { results := [.lit (.bool false)], args := [d1, d2] }
  | _ => none }
def FnExactStepAllowedWrongFalsely : Prop := fnExactStepAllowedRow.holds Try.pinned (OpenSpec.ofChange fnExactStepAllowedWrong)

/-- 'laws.FnExactVerdictName': WHATEVER THE INPUT: true; the input reads as it did. -/
def fnExactVerdictNameSpec : ChangeSpec := { name := "fnExactVerdictName", fn := fun _ => fun
  | [d] => { results := [.lit (.bool true)], args := [d] }
  | _ => none }
def fnExactVerdictNameRow : OpenClaim := { program := "ytehjeahfdljboaa", sum := "ca590b49733b4364b98b74516032ebea79f701773351a857afe91a0f197f2d14", func := "loop.example/g00505/laws.FnExactVerdictName", spec := "fnExactVerdictName", apart := false }
def FnExactVerdictNameSaid : Prop := fnExactVerdictNameRow.holds Try.pinned (OpenSpec.ofChange fnExactVerdictNameSpec)

/-- ITS FALSE NEIGHBOUR: 'it returns false'. Refute it at one input. -/
def fnExactVerdictNameWrong : ChangeSpec := { name := "fnExactVerdictName", fn := fun _ => fun
  | [d] => { results := [.lit (.bool false)], args := [d] }
  | _ => none }
def FnExactVerdictNameWrongFalsely : Prop := fnExactVerdictNameRow.holds Try.pinned (OpenSpec.ofChange fnExactVerdictNameWrong)

/- THE SECOND FORM. 'bulk': how many values and letters a reading holds, each counted each time it is reached (what is shared counts as often as it is met; a slice's spare places count too). A statement '..UptoSaid' is the law's where the arguments, and the package variables that the reading takes, are together of bulk at most 1048576: NARROWER than '..Said'. Prove '..Said' where nothing that the law and all that it calls make is longer than what came in: it says more and counts as full. Else prove '..UptoSaid'. A law counts once. -/
mutual
def uptoBulk {H : Type} : DataW H → Nat
  | .lit (.string bytes) => bytes.length + 1
  | .lit _ => 1
  | .nil => 1
  | .ptr d => uptoBulk d + 1
  | .slice elems spare => uptoBulkAll elems + uptoBulkAll spare + 1
  | .agg parts => uptoBulkAll parts + 1
  | .iface _ d => uptoBulk d + 1
  | .map entries => uptoBulkEntries entries + 1
  | .held _ => 1
def uptoBulkAll {H : Type} : List (DataW H) → Nat
  | [] => 0
  | d :: r => uptoBulk d + uptoBulkAll r
def uptoBulkEntries {H : Type} : List (Lit × DataW H) → Nat
  | [] => 0
  | x :: r => uptoBulkEntry x + uptoBulkEntries r
def uptoBulkEntry {H : Type} : Lit × DataW H → Nat
  | (.string bytes, d) => bytes.length + uptoBulk d + 1
  | (_, d) => uptoBulk d + 1
 end
def uptoSmall : (H : Type) → List (DataW H) → Bool := fun _ ds => decide (uptoBulkAll ds ≤ 1048576)
def OpenSpec.upto (s : _root_.Go.ChangeSpec) : _root_.Go.OpenSpec := { _root_.Go.OpenSpec.ofChange s with cond := some uptoSmall }

/-- 'laws.FnExactTransitAllowed', WHERE WHAT IT READS IS OF BULK AT MOST 1048576: true; the input reads as it did. -/
def fnExactTransitAllowedUptoRow : OpenClaim := { program := "ytehjeahfdljboaa", sum := "ca590b49733b4364b98b74516032ebea79f701773351a857afe91a0f197f2d14", func := "loop.example/g00505/laws.FnExactTransitAllowed", spec := "fnExactTransitAllowed", apart := false, narrowed := true }
def FnExactTransitAllowedUptoSaid : Prop := fnExactTransitAllowedUptoRow.holds Try.pinned (OpenSpec.upto fnExactTransitAllowedSpec)

/-- 'laws.FnExactStepAllowed', WHERE WHAT IT READS IS OF BULK AT MOST 1048576: true; the input reads as it did. -/
def fnExactStepAllowedUptoRow : OpenClaim := { program := "ytehjeahfdljboaa", sum := "ca590b49733b4364b98b74516032ebea79f701773351a857afe91a0f197f2d14", func := "loop.example/g00505/laws.FnExactStepAllowed", spec := "fnExactStepAllowed", apart := false, narrowed := true }
def FnExactStepAllowedUptoSaid : Prop := fnExactStepAllowedUptoRow.holds Try.pinned (OpenSpec.upto fnExactStepAllowedSpec)

/-- 'laws.FnExactVerdictName', WHERE WHAT IT READS IS OF BULK AT MOST 1048576: true; the input reads as it did. -/
def fnExactVerdictNameUptoRow : OpenClaim := { program := "ytehjeahfdljboaa", sum := "ca590b49733b4364b98b74516032ebea79f701773351a857afe91a0f197f2d14", func := "loop.example/g00505/laws.FnExactVerdictName", spec := "fnExactVerdictName", apart := false, narrowed := true }
def FnExactVerdictNameUptoSaid : Prop := fnExactVerdictNameUptoRow.holds Try.pinned (OpenSpec.upto fnExactVerdictNameSpec)

end Rows
end Go.Proofs.Ytehjeahfdljboaa
