/-
  NARROWER THAN 'FOR EVERY INPUT', by the rows' own cells (each row's printed sentence says how): FnExactOriginate: laid · FnExactExtend: laid · FnExactTerminate: laid · FnExactEgressCandidates: laid · FnExactOriginInterfaces: laid.
  DERIVED. THE GIVEN ROWS OF THIS SEAT. 5 by the template 'for every input the law returns true; each argument reads behind the call as it read before'; 0 by the template 'total and deterministic' (their statements: YtbbcpdgdihdmiaaGreatDoorTotals.lean).
  GIVEN WITH THE SEED: the statements are not yours to turn. If you find one false, say at which input.
  Laid BY PROGRAM, IN A SANDBOX (cutbox-rows.mjs): the forced cells as the released guide's own fill.sh prints them over the translation d22fd8a7b583a32d… (all of the seat's roots in one cut). By AI agents, Wed Nov 11 2026. No macro, syntax, notation, axiom, sorry.
-/
import Derived.Test.YtbbcpdgdihdmiaaGreatDoorChecked
import GoSem.Claim
import GoSem.ClaimJoined
import GoSem.ClaimMapViews
import Derived.JoinedTies
import Derived.KernelRfl
namespace Go.Proofs.YtbbcpdgdihdmiaaGreatDoor
/- THE CELL 'sum', in the pinned program and in every row, IS THE sha256 OF THE DUMP (.gsa) THAT YtbbcpdgdihdmiaaGreatDoorProg.lean LOADS. Nothing in Lean hashes anything: it is a label: what it is worth is what the hold of that sum in a sandbox is worth. -/
noncomputable def Tryz.pinned : Pinned := { name := "ytbbcpdgdihdmiaagreatdoor", sum := "d22fd8a7b583a32d04adca41e9719682934abc0b3688257d99e81c823ff610a8", checked := Tryz.checked }
namespace Rows
def none {H : Type} : Left H := { results := [], args := [] }

/- WHAT THE LISTED PACKAGE-LEVEL VARIABLES READ AS WHEN THE CALL BEGINS. Each datum BY PROGRAM (the guide's laid-datum.mjs) off the statement by which the dump's own 'gosem.cut.vars' lays the variable. In a bare row this is a premise. The card (YtbbcpdgdihdmiaaGreatDoorCards.lean) ties it to the program's text. -/
def laid_errors_errorType {H : Type} : DataW H := .iface "internal/reflectlite.rtype" (.agg [.ptr (.lit (.string [101, 114, 114, 111, 114]))])

/-- 'laws.FnExactOriginate': WHATEVER THE INPUT: true; the input reads as it did. -/
def fnExactOriginateSpec : ChangeSpec := { name := "fnExactOriginate", fn := fun _ => fun
  | [d1, d2, d3, d4, d5, d6] => { results := [.lit (.bool true)], args := [d1, d2, d3, d4, d5, d6] }
  | _ => none }
def fnExactOriginateRow : OpenClaim := { program := "ytbbcpdgdihdmiaagreatdoor", sum := "d22fd8a7b583a32d04adca41e9719682934abc0b3688257d99e81c823ff610a8", func := "loop.example/g00505/laws.FnExactOriginate", spec := "fnExactOriginate", inPlace := ["internal/reflectlite.ValueOf", "(internal/reflectlite.Value).Type", "(internal/reflectlite.Value).IsNil", "internal/reflectlite.TypeOf", "(internal/reflectlite.Value).Elem", "(internal/reflectlite.Value).Set"], unfollowed := true, recurses := true, named := ["errors.errorType"], apart := false, laid := [("errors.errorType", laid_errors_errorType)] }
def FnExactOriginateSaid : Prop := fnExactOriginateRow.holds Tryz.pinned (OpenSpec.ofChange fnExactOriginateSpec)

/-- ITS FALSE NEIGHBOUR: 'it returns false'. Refute it at one input. -/
def fnExactOriginateWrong : ChangeSpec := { name := "fnExactOriginate", fn := fun _ => fun
  | [d1, d2, d3, d4, d5, d6] => { results := [.lit (.bool false)], args := [d1, d2, d3, d4, d5, d6] }
  | _ => none }
def FnExactOriginateWrongFalsely : Prop := fnExactOriginateRow.holds Tryz.pinned (OpenSpec.ofChange fnExactOriginateWrong)

/-- 'laws.FnExactExtend': WHATEVER THE INPUT: true; the input reads as it did. -/
def fnExactExtendSpec : ChangeSpec := { name := "fnExactExtend", fn := fun _ => fun
  | [d1, d2, d3, d4, d5, d6] => { results := [.lit (.bool true)], args := [d1, d2, d3, d4, d5, d6] }
  | _ => none }
def fnExactExtendRow : OpenClaim := { program := "ytbbcpdgdihdmiaagreatdoor", sum := "d22fd8a7b583a32d04adca41e9719682934abc0b3688257d99e81c823ff610a8", func := "loop.example/g00505/laws.FnExactExtend", spec := "fnExactExtend", inPlace := ["internal/reflectlite.ValueOf", "(internal/reflectlite.Value).Type", "(internal/reflectlite.Value).IsNil", "internal/reflectlite.TypeOf", "(internal/reflectlite.Value).Elem", "(internal/reflectlite.Value).Set"], unfollowed := true, recurses := true, named := ["errors.errorType"], apart := false, laid := [("errors.errorType", laid_errors_errorType)] }
def FnExactExtendSaid : Prop := fnExactExtendRow.holds Tryz.pinned (OpenSpec.ofChange fnExactExtendSpec)

/-- ITS FALSE NEIGHBOUR: 'it returns false'. Refute it at one input. -/
def fnExactExtendWrong : ChangeSpec := { name := "fnExactExtend", fn := fun _ => fun
  | [d1, d2, d3, d4, d5, d6] => { results := [.lit (.bool false)], args := [d1, d2, d3, d4, d5, d6] }
  | _ => none }
def FnExactExtendWrongFalsely : Prop := fnExactExtendRow.holds Tryz.pinned (OpenSpec.ofChange fnExactExtendWrong)

/-- 'laws.FnExactTerminate': WHATEVER THE INPUT: true; the input reads as it did. -/
def fnExactTerminateSpec : ChangeSpec := { name := "fnExactTerminate", fn := fun _ => fun
  | [d1, d2, d3, d4, d5] => { results := [.lit (.bool true)], args := [d1, d2, d3, d4, d5] }
  | _ => none }
def fnExactTerminateRow : OpenClaim := { program := "ytbbcpdgdihdmiaagreatdoor", sum := "d22fd8a7b583a32d04adca41e9719682934abc0b3688257d99e81c823ff610a8", func := "loop.example/g00505/laws.FnExactTerminate", spec := "fnExactTerminate", inPlace := ["internal/reflectlite.ValueOf", "(internal/reflectlite.Value).Type", "(internal/reflectlite.Value).IsNil", "internal/reflectlite.TypeOf", "(internal/reflectlite.Value).Elem", "(internal/reflectlite.Value).Set"], unfollowed := true, recurses := true, named := ["errors.errorType"], apart := false, laid := [("errors.errorType", laid_errors_errorType)] }
def FnExactTerminateSaid : Prop := fnExactTerminateRow.holds Tryz.pinned (OpenSpec.ofChange fnExactTerminateSpec)

/-- ITS FALSE NEIGHBOUR: 'it returns false'. Refute it at one input. -/
def fnExactTerminateWrong : ChangeSpec := { name := "fnExactTerminate", fn := fun _ => fun
  | [d1, d2, d3, d4, d5] => { results := [.lit (.bool false)], args := [d1, d2, d3, d4, d5] }
  | _ => none }
def FnExactTerminateWrongFalsely : Prop := fnExactTerminateRow.holds Tryz.pinned (OpenSpec.ofChange fnExactTerminateWrong)

/-- 'laws.FnExactEgressCandidates': WHATEVER THE INPUT: true; the input reads as it did. -/
def fnExactEgressCandidatesSpec : ChangeSpec := { name := "fnExactEgressCandidates", fn := fun _ => fun
  | [d1, d2, d3, d4, d5] => { results := [.lit (.bool true)], args := [d1, d2, d3, d4, d5] }
  | _ => none }
def fnExactEgressCandidatesRow : OpenClaim := { program := "ytbbcpdgdihdmiaagreatdoor", sum := "d22fd8a7b583a32d04adca41e9719682934abc0b3688257d99e81c823ff610a8", func := "loop.example/g00505/laws.FnExactEgressCandidates", spec := "fnExactEgressCandidates", inPlace := ["internal/reflectlite.ValueOf", "(internal/reflectlite.Value).Type", "(internal/reflectlite.Value).IsNil", "internal/reflectlite.TypeOf", "(internal/reflectlite.Value).Elem", "(internal/reflectlite.Value).Set"], unfollowed := true, recurses := true, named := ["errors.errorType"], apart := false, laid := [("errors.errorType", laid_errors_errorType)] }
def FnExactEgressCandidatesSaid : Prop := fnExactEgressCandidatesRow.holds Tryz.pinned (OpenSpec.ofChange fnExactEgressCandidatesSpec)

/-- ITS FALSE NEIGHBOUR: 'it returns false'. Refute it at one input. -/
def fnExactEgressCandidatesWrong : ChangeSpec := { name := "fnExactEgressCandidates", fn := fun _ => fun
  | [d1, d2, d3, d4, d5] => { results := [.lit (.bool false)], args := [d1, d2, d3, d4, d5] }
  | _ => none }
def FnExactEgressCandidatesWrongFalsely : Prop := fnExactEgressCandidatesRow.holds Tryz.pinned (OpenSpec.ofChange fnExactEgressCandidatesWrong)

/-- 'laws.FnExactOriginInterfaces': WHATEVER THE INPUT: true; the input reads as it did. -/
def fnExactOriginInterfacesSpec : ChangeSpec := { name := "fnExactOriginInterfaces", fn := fun _ => fun
  | [d1, d2, d3] => { results := [.lit (.bool true)], args := [d1, d2, d3] }
  | _ => none }
def fnExactOriginInterfacesRow : OpenClaim := { program := "ytbbcpdgdihdmiaagreatdoor", sum := "d22fd8a7b583a32d04adca41e9719682934abc0b3688257d99e81c823ff610a8", func := "loop.example/g00505/laws.FnExactOriginInterfaces", spec := "fnExactOriginInterfaces", inPlace := ["internal/reflectlite.ValueOf", "(internal/reflectlite.Value).Type", "(internal/reflectlite.Value).IsNil", "internal/reflectlite.TypeOf", "(internal/reflectlite.Value).Elem", "(internal/reflectlite.Value).Set"], unfollowed := true, recurses := true, named := ["errors.errorType"], apart := false, laid := [("errors.errorType", laid_errors_errorType)] }
def FnExactOriginInterfacesSaid : Prop := fnExactOriginInterfacesRow.holds Tryz.pinned (OpenSpec.ofChange fnExactOriginInterfacesSpec)

/-- ITS FALSE NEIGHBOUR: 'it returns false'. Refute it at one input. -/
def fnExactOriginInterfacesWrong : ChangeSpec := { name := "fnExactOriginInterfaces", fn := fun _ => fun
  | [d1, d2, d3] => { results := [.lit (.bool false)], args := [d1, d2, d3] }
  | _ => none }
def FnExactOriginInterfacesWrongFalsely : Prop := fnExactOriginInterfacesRow.holds Tryz.pinned (OpenSpec.ofChange fnExactOriginInterfacesWrong)

/- THE SECOND FORM. 'bulk': how many values and letters a reading holds, each counted each time it is reached (what is shared counts as often as it is met; a slice's spare places count too). A statement '..UptoSaid' is the law's where the arguments, and the package variables that the reading takes, are together of bulk at most 1048576: NARROWER than '..Said'. Prove '..Said' where nothing that the law and all that it calls make is longer than what came in: it says more and counts as full. Else prove '..UptoSaid'. A law counts once. -/
mutual
def uptoBulk {H : Type} : DataW H → Nat
  | .lit (.string bytes) => bytes.length + 1
  | .lit _ => 1
  | .nil => 1
  | .ptr d => uptoBulk d + 1
  | .slice elems spare => uptoBulkAll elems + uptoBulkAll spare + 1
  | .agg parts => uptoBulkAll parts + 1
  | .iface _ d => uptoBulk d + 1
  | .map entries => uptoBulkEntries entries + 1
  | .held _ => 1
def uptoBulkAll {H : Type} : List (DataW H) → Nat
  | [] => 0
  | d :: r => uptoBulk d + uptoBulkAll r
def uptoBulkEntries {H : Type} : List (Lit × DataW H) → Nat
  | [] => 0
  | x :: r => uptoBulkEntry x + uptoBulkEntries r
def uptoBulkEntry {H : Type} : Lit × DataW H → Nat
  | (.string bytes, d) => bytes.length + uptoBulk d + 1
  | (_, d) => uptoBulk d + 1
 end
def uptoSmall : (H : Type) → List (DataW H) → Bool := fun _ ds => decide (uptoBulkAll ds ≤ 1048576)
def OpenSpec.upto (s : _root_.Go.ChangeSpec) : _root_.Go.OpenSpec := { _root_.Go.OpenSpec.ofChange s with cond := some uptoSmall }

/-- 'laws.FnExactOriginate', WHERE WHAT IT READS IS OF BULK AT MOST 1048576: true; the input reads as it did. -/
def fnExactOriginateUptoRow : OpenClaim := { program := "ytbbcpdgdihdmiaagreatdoor", sum := "d22fd8a7b583a32d04adca41e9719682934abc0b3688257d99e81c823ff610a8", func := "loop.example/g00505/laws.FnExactOriginate", spec := "fnExactOriginate", inPlace := ["internal/reflectlite.ValueOf", "(internal/reflectlite.Value).Type", "(internal/reflectlite.Value).IsNil", "internal/reflectlite.TypeOf", "(internal/reflectlite.Value).Elem", "(internal/reflectlite.Value).Set"], unfollowed := true, recurses := true, named := ["errors.errorType"], apart := false, laid := [("errors.errorType", laid_errors_errorType)], narrowed := true }
def FnExactOriginateUptoSaid : Prop := fnExactOriginateUptoRow.holds Tryz.pinned (OpenSpec.upto fnExactOriginateSpec)

/-- 'laws.FnExactExtend', WHERE WHAT IT READS IS OF BULK AT MOST 1048576: true; the input reads as it did. -/
def fnExactExtendUptoRow : OpenClaim := { program := "ytbbcpdgdihdmiaagreatdoor", sum := "d22fd8a7b583a32d04adca41e9719682934abc0b3688257d99e81c823ff610a8", func := "loop.example/g00505/laws.FnExactExtend", spec := "fnExactExtend", inPlace := ["internal/reflectlite.ValueOf", "(internal/reflectlite.Value).Type", "(internal/reflectlite.Value).IsNil", "internal/reflectlite.TypeOf", "(internal/reflectlite.Value).Elem", "(internal/reflectlite.Value).Set"], unfollowed := true, recurses := true, named := ["errors.errorType"], apart := false, laid := [("errors.errorType", laid_errors_errorType)], narrowed := true }
def FnExactExtendUptoSaid : Prop := fnExactExtendUptoRow.holds Tryz.pinned (OpenSpec.upto fnExactExtendSpec)

/-- 'laws.FnExactTerminate', WHERE WHAT IT READS IS OF BULK AT MOST 1048576: true; the input reads as it did. -/
def fnExactTerminateUptoRow : OpenClaim := { program := "ytbbcpdgdihdmiaagreatdoor", sum := "d22fd8a7b583a32d04adca41e9719682934abc0b3688257d99e81c823ff610a8", func := "loop.example/g00505/laws.FnExactTerminate", spec := "fnExactTerminate", inPlace := ["internal/reflectlite.ValueOf", "(internal/reflectlite.Value).Type", "(internal/reflectlite.Value).IsNil", "internal/reflectlite.TypeOf", "(internal/reflectlite.Value).Elem", "(internal/reflectlite.Value).Set"], unfollowed := true, recurses := true, named := ["errors.errorType"], apart := false, laid := [("errors.errorType", laid_errors_errorType)], narrowed := true }
def FnExactTerminateUptoSaid : Prop := fnExactTerminateUptoRow.holds Tryz.pinned (OpenSpec.upto fnExactTerminateSpec)

/-- 'laws.FnExactEgressCandidates', WHERE WHAT IT READS IS OF BULK AT MOST 1048576: true; the input reads as it did. -/
def fnExactEgressCandidatesUptoRow : OpenClaim := { program := "ytbbcpdgdihdmiaagreatdoor", sum := "d22fd8a7b583a32d04adca41e9719682934abc0b3688257d99e81c823ff610a8", func := "loop.example/g00505/laws.FnExactEgressCandidates", spec := "fnExactEgressCandidates", inPlace := ["internal/reflectlite.ValueOf", "(internal/reflectlite.Value).Type", "(internal/reflectlite.Value).IsNil", "internal/reflectlite.TypeOf", "(internal/reflectlite.Value).Elem", "(internal/reflectlite.Value).Set"], unfollowed := true, recurses := true, named := ["errors.errorType"], apart := false, laid := [("errors.errorType", laid_errors_errorType)], narrowed := true }
def FnExactEgressCandidatesUptoSaid : Prop := fnExactEgressCandidatesUptoRow.holds Tryz.pinned (OpenSpec.upto fnExactEgressCandidatesSpec)

/-- 'laws.FnExactOriginInterfaces', WHERE WHAT IT READS IS OF BULK AT MOST 1048576: true; the input reads as it did. -/
def fnExactOriginInterfacesUptoRow : OpenClaim := { program := "ytbbcpdgdihdmiaagreatdoor", sum := "d22fd8a7b583a32d04adca41e9719682934abc0b3688257d99e81c823ff610a8", func := "loop.example/g00505/laws.FnExactOriginInterfaces", spec := "fnExactOriginInterfaces", inPlace := ["internal/reflectlite.ValueOf", "(internal/reflectlite.Value).Type", "(internal/reflectlite.Value).IsNil", "internal/reflectlite.TypeOf", "(internal/reflectlite.Value).Elem", "(internal/reflectlite.Value).Set"], unfollowed := true, recurses := true, named := ["errors.errorType"], apart := false, laid := [("errors.errorType", laid_errors_errorType)], narrowed := true }
def FnExactOriginInterfacesUptoSaid : Prop := fnExactOriginInterfacesUptoRow.holds Tryz.pinned (OpenSpec.upto fnExactOriginInterfacesSpec)

end Rows
end Go.Proofs.YtbbcpdgdihdmiaaGreatDoor
