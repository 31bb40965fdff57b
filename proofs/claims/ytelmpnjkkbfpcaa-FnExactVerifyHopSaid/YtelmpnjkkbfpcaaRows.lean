/-
  No cell of these rows narrows 'for every input' (looked for: loops, veiled, ifaces, maps, wideKeys, modest, calm, conditions, laid).
  DERIVED. THE GIVEN ROWS OF THIS SEAT. 6 by the template 'for every input the law returns true; each argument reads behind the call as it read before'; 0 by the template 'total and deterministic' (their statements: YtelmpnjkkbfpcaaTotals.lean).
  GIVEN WITH THE SEED: the statements are not yours to turn. If you find one false, say at which input.
  Laid BY PROGRAM, IN A SANDBOX (cutbox-rows.mjs): the forced cells as the released guide's own fill.sh prints them over the translation c3ec8ae90433e961… (all of the seat's roots in one cut). By AI agents, Wed Nov 11 2026. No macro, syntax, notation, axiom, sorry.
-/
import Derived.Test.YtelmpnjkkbfpcaaChecked
import GoSem.Claim
import GoSem.ClaimJoined
import GoSem.ClaimMapViews
import Derived.JoinedTies
import Derived.KernelRfl
namespace Go.Proofs.Ytelmpnjkkbfpcaa
/- THE CELL 'sum', in the pinned program and in every row, IS THE sha256 OF THE DUMP (.gsa) THAT YtelmpnjkkbfpcaaProg.lean LOADS. Nothing in Lean hashes anything: it is a label: what it is worth is what the hold of that sum in a sandbox is worth. -/
noncomputable def Try.pinned : Pinned := { name := "ytelmpnjkkbfpcaa", sum := "c3ec8ae90433e9619574f11f721fc268e25ecbe76f439b596d9f47521aa2e5db", checked := Try.checked }
namespace Rows
def none {H : Type} : Left H := { results := [], args := [] }

/-- 'laws.FnExactValidHop': WHATEVER THE INPUT: true; the input reads as it did. -/
def fnExactValidHopSpec : ChangeSpec := { name := "fnExactValidHop", fn := fun _ => fun
  | [d] => { results := [.lit (.bool true)], args := [d] }
  | _ => none }
def fnExactValidHopRow : OpenClaim := { program := "ytelmpnjkkbfpcaa", sum := "c3ec8ae90433e9619574f11f721fc268e25ecbe76f439b596d9f47521aa2e5db", func := "loop.example/g00505/laws.FnExactValidHop", spec := "fnExactValidHop", apart := false }
def FnExactValidHopSaid : Prop := fnExactValidHopRow.holds Try.pinned (OpenSpec.ofChange fnExactValidHopSpec)

/-- ITS FALSE NEIGHBOUR: 'it returns false'. Refute it at one input. -/
def fnExactValidHopWrong : ChangeSpec := { name := "fnExactValidHop", fn := fun _ => fun
  | [d] => { results := [.lit (.bool false)], args := [d] }
  | _ => none }
def FnExactValidHopWrongFalsely : Prop := fnExactValidHopRow.holds Try.pinned (OpenSpec.ofChange fnExactValidHopWrong)

/-- 'laws.FnExactHopMAC': WHATEVER THE INPUT: true; the input reads as it did. -/
def fnExactHopMACSpec : ChangeSpec := { name := "fnExactHopMAC", fn := fun _ => fun
  | [d1, d2, d3, d4] => { results := [.lit (.bool true)], args := [d1, d2, d3, d4] }
  | _ => none }
def fnExactHopMACRow : OpenClaim := { program := "ytelmpnjkkbfpcaa", sum := "c3ec8ae90433e9619574f11f721fc268e25ecbe76f439b596d9f47521aa2e5db", func := "loop.example/g00505/laws.FnExactHopMAC", spec := "fnExactHopMAC", unfollowed := true, recurses := true, apart := false }
def FnExactHopMACSaid : Prop := fnExactHopMACRow.holds Try.pinned (OpenSpec.ofChange fnExactHopMACSpec)

/-- ITS FALSE NEIGHBOUR: 'it returns false'. Refute it at one input. -/
def fnExactHopMACWrong : ChangeSpec := { name := "fnExactHopMAC", fn := fun _ => fun
  | [d1, d2, d3, d4] => { results := [.lit (.bool false)], args := [d1, d2, d3, d4] }
  | _ => none }
def FnExactHopMACWrongFalsely : Prop := fnExactHopMACRow.holds Try.pinned (OpenSpec.ofChange fnExactHopMACWrong)

/-- 'laws.FnExactAuthenticateHop': WHATEVER THE INPUT: true; the input reads as it did. -/
def fnExactAuthenticateHopSpec : ChangeSpec := { name := "fnExactAuthenticateHop", fn := fun _ => fun
  | [d1, d2, d3, d4] => { results := [.lit (.bool true)], args := [d1, d2, d3, d4] }
  | _ => none }
def fnExactAuthenticateHopRow : OpenClaim := { program := "ytelmpnjkkbfpcaa", sum := "c3ec8ae90433e9619574f11f721fc268e25ecbe76f439b596d9f47521aa2e5db", func := "loop.example/g00505/laws.FnExactAuthenticateHop", spec := "fnExactAuthenticateHop", unfollowed := true, recurses := true, apart := false }
def FnExactAuthenticateHopSaid : Prop := fnExactAuthenticateHopRow.holds Try.pinned (OpenSpec.ofChange fnExactAuthenticateHopSpec)

/-- ITS FALSE NEIGHBOUR: 'it returns false'. Refute it at one input. -/
def fnExactAuthenticateHopWrong : ChangeSpec := { name := "fnExactAuthenticateHop", fn := fun _ => fun
  | [d1, d2, d3, d4] => { results := [.lit (.bool false)], args := [d1, d2, d3, d4] }
  | _ => none }
def FnExactAuthenticateHopWrongFalsely : Prop := fnExactAuthenticateHopRow.holds Try.pinned (OpenSpec.ofChange fnExactAuthenticateHopWrong)

/-- 'laws.FnExactVerifyHop': WHATEVER THE INPUT: true; the input reads as it did. -/
def fnExactVerifyHopSpec : ChangeSpec := { name := "fnExactVerifyHop", fn := fun _ => fun
  | [d1, d2, d3, d4] => { results := [.lit (.bool true)], args := [d1, d2, d3, d4] }
  | _ => none }
def fnExactVerifyHopRow : OpenClaim := { program := "ytelmpnjkkbfpcaa", sum := "c3ec8ae90433e9619574f11f721fc268e25ecbe76f439b596d9f47521aa2e5db", func := "loop.example/g00505/laws.FnExactVerifyHop", spec := "fnExactVerifyHop", unfollowed := true, recurses := true, apart := false }
def FnExactVerifyHopSaid : Prop := fnExactVerifyHopRow.holds Try.pinned (OpenSpec.ofChange fnExactVerifyHopSpec)

/-- ITS FALSE NEIGHBOUR: 'it returns false'. Refute it at one input. -/
def fnExactVerifyHopWrong : ChangeSpec := { name := "fnExactVerifyHop", fn := fun _ => fun
  | [d1, d2, d3, d4] => { results := [.lit (.bool false)], args := [d1, d2, d3, d4] }
  | _ => none }
def FnExactVerifyHopWrongFalsely : Prop := fnExactVerifyHopRow.holds Try.pinned (OpenSpec.ofChange fnExactVerifyHopWrong)

/-- 'laws.FnExactHopValidAt': WHATEVER THE INPUT: true; the input reads as it did. -/
def fnExactHopValidAtSpec : ChangeSpec := { name := "fnExactHopValidAt", fn := fun _ => fun
  | [d1, d2] => { results := [.lit (.bool true)], args := [d1, d2] }
  | _ => none }
def fnExactHopValidAtRow : OpenClaim := { program := "ytelmpnjkkbfpcaa", sum := "c3ec8ae90433e9619574f11f721fc268e25ecbe76f439b596d9f47521aa2e5db", func := "loop.example/g00505/laws.FnExactHopValidAt", spec := "fnExactHopValidAt", apart := false }
def FnExactHopValidAtSaid : Prop := fnExactHopValidAtRow.holds Try.pinned (OpenSpec.ofChange fnExactHopValidAtSpec)

/-- ITS FALSE NEIGHBOUR: 'it returns false'. Refute it at one input. -/
def fnExactHopValidAtWrong : ChangeSpec := { name := "fnExactHopValidAt", fn := fun _ => fun
  | [d1, d2] => { results := [.lit (.bool false)], args := [d1, d2] }
  | _ => none }
def FnExactHopValidAtWrongFalsely : Prop := fnExactHopValidAtRow.holds Try.pinned (OpenSpec.ofChange fnExactHopValidAtWrong)

/-- 'laws.FnExactEqualHops': WHATEVER THE INPUT: true; the input reads as it did. -/
def fnExactEqualHopsSpec : ChangeSpec := { name := "fnExactEqualHops", fn := fun _ => fun
  | [d1, d2] => { results := [.lit (.bool true)], args := [d1, d2] }
  | _ => none }
def fnExactEqualHopsRow : OpenClaim := { program := "ytelmpnjkkbfpcaa", sum := "c3ec8ae90433e9619574f11f721fc268e25ecbe76f439b596d9f47521aa2e5db", func := "loop.example/g00505/laws.FnExactEqualHops", spec := "fnExactEqualHops", apart := false }
def FnExactEqualHopsSaid : Prop := fnExactEqualHopsRow.holds Try.pinned (OpenSpec.ofChange fnExactEqualHopsSpec)

/-- ITS FALSE NEIGHBOUR: 'it returns false'. Refute it at one input. -/
def fnExactEqualHopsWrong : ChangeSpec := { name := "fnExactEqualHops", fn := fun _ => fun
  | [d1, d2] => { results := [.lit (.bool false)], args := [d1, d2] }
  | _ => none }
def FnExactEqualHopsWrongFalsely : Prop := fnExactEqualHopsRow.holds Try.pinned (OpenSpec.ofChange fnExactEqualHopsWrong)

/- THE SECOND FORM. 'bulk': how many values and letters a reading holds, each counted each time it is reached (what is shared counts as often as it is met; a slice's spare places count too). A statement '..UptoSaid' is the law's where the arguments, and the package variables that the reading takes, are together of bulk at most 1048576: NARROWER than '..Said'. Prove '..Said' where nothing that the law and all that it calls make is longer than what came in: it says more and counts as full. Else prove '..UptoSaid'. A law counts once. -/
mutual
def uptoBulk {H : Type} : DataW H → Nat
  | .lit (.string bytes) => bytes.length + 1
  | .lit _ => 1
  | .nil => 1
  | .ptr d => uptoBulk d + 1
  | .slice elems spare => uptoBulkAll elems + uptoBulkAll spare + 1
  | .agg parts => uptoBulkAll parts + 1
  | .iface _ d => uptoBulk d + 1
  | .map entries => uptoBulkEntries entries + 1
  | .held _ => 1
def uptoBulkAll {H : Type} : List (DataW H) → Nat
  | [] => 0
  | d :: r => uptoBulk d + uptoBulkAll r
def uptoBulkEntries {H : Type} : List (Lit × DataW H) → Nat
  | [] => 0
  | x :: r => uptoBulkEntry x + uptoBulkEntries r
def uptoBulkEntry {H : Type} : Lit × DataW H → Nat
  | (.string bytes, d) => bytes.length + uptoBulk d + 1
  | (_, d) => uptoBulk d + 1
 end
def uptoSmall : (H : Type) → List (DataW H) → Bool := fun _ ds => decide (uptoBulkAll ds ≤ 1048576)
def OpenSpec.upto (s : _root_.Go.ChangeSpec) : _root_.Go.OpenSpec := { _root_.Go.OpenSpec.ofChange s with cond := some uptoSmall }

/-- 'laws.FnExactValidHop', WHERE WHAT IT READS IS OF BULK AT MOST 1048576: true; the input reads as it did. -/
def fnExactValidHopUptoRow : OpenClaim := { program := "ytelmpnjkkbfpcaa", sum := "c3ec8ae90433e9619574f11f721fc268e25ecbe76f439b596d9f47521aa2e5db", func := "loop.example/g00505/laws.FnExactValidHop", spec := "fnExactValidHop", apart := false, narrowed := true }
def FnExactValidHopUptoSaid : Prop := fnExactValidHopUptoRow.holds Try.pinned (OpenSpec.upto fnExactValidHopSpec)

/-- 'laws.FnExactHopMAC', WHERE WHAT IT READS IS OF BULK AT MOST 1048576: true; the input reads as it did. -/
def fnExactHopMACUptoRow : OpenClaim := { program := "ytelmpnjkkbfpcaa", sum := "c3ec8ae90433e9619574f11f721fc268e25ecbe76f439b596d9f47521aa2e5db", func := "loop.example/g00505/laws.FnExactHopMAC", spec := "fnExactHopMAC", unfollowed := true, recurses := true, apart := false, narrowed := true }
def FnExactHopMACUptoSaid : Prop := fnExactHopMACUptoRow.holds Try.pinned (OpenSpec.upto fnExactHopMACSpec)

/-- 'laws.FnExactAuthenticateHop', WHERE WHAT IT READS IS OF BULK AT MOST 1048576: true; the input reads as it did. -/
def fnExactAuthenticateHopUptoRow : OpenClaim := { program := "ytelmpnjkkbfpcaa", sum := "c3ec8ae90433e9619574f11f721fc268e25ecbe76f439b596d9f47521aa2e5db", func := "loop.example/g00505/laws.FnExactAuthenticateHop", spec := "fnExactAuthenticateHop", unfollowed := true, recurses := true, apart := false, narrowed := true }
def FnExactAuthenticateHopUptoSaid : Prop := fnExactAuthenticateHopUptoRow.holds Try.pinned (OpenSpec.upto fnExactAuthenticateHopSpec)

/-- 'laws.FnExactVerifyHop', WHERE WHAT IT READS IS OF BULK AT MOST 1048576: true; the input reads as it did. -/
def fnExactVerifyHopUptoRow : OpenClaim := { program := "ytelmpnjkkbfpcaa", sum := "c3ec8ae90433e9619574f11f721fc268e25ecbe76f439b596d9f47521aa2e5db", func := "loop.example/g00505/laws.FnExactVerifyHop", spec := "fnExactVerifyHop", unfollowed := true, recurses := true, apart := false, narrowed := true }
def FnExactVerifyHopUptoSaid : Prop := fnExactVerifyHopUptoRow.holds Try.pinned (OpenSpec.upto fnExactVerifyHopSpec)

/-- 'laws.FnExactHopValidAt', WHERE WHAT IT READS IS OF BULK AT MOST 1048576: true; the input reads as it did. -/
def fnExactHopValidAtUptoRow : OpenClaim := { program := "ytelmpnjkkbfpcaa", sum := "c3ec8ae90433e9619574f11f721fc268e25ecbe76f439b596d9f47521aa2e5db", func := "loop.example/g00505/laws.FnExactHopValidAt", spec := "fnExactHopValidAt", apart := false, narrowed := true }
def FnExactHopValidAtUptoSaid : Prop := fnExactHopValidAtUptoRow.holds Try.pinned (OpenSpec.upto fnExactHopValidAtSpec)

/-- 'laws.FnExactEqualHops', WHERE WHAT IT READS IS OF BULK AT MOST 1048576: true; the input reads as it did. -/
def fnExactEqualHopsUptoRow : OpenClaim := { program := "ytelmpnjkkbfpcaa", sum := "c3ec8ae90433e9619574f11f721fc268e25ecbe76f439b596d9f47521aa2e5db", func := "loop.example/g00505/laws.FnExactEqualHops", spec := "fnExactEqualHops", apart := false, narrowed := true }
def FnExactEqualHopsUptoSaid : Prop := fnExactEqualHopsUptoRow.holds Try.pinned (OpenSpec.upto fnExactEqualHopsSpec)

end Rows
end Go.Proofs.Ytelmpnjkkbfpcaa
