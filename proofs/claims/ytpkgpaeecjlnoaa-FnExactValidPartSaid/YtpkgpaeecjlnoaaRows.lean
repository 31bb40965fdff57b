/-
  No cell of these rows narrows 'for every input' (looked for: loops, veiled, ifaces, maps, wideKeys, modest, calm, conditions, laid).
  DERIVED. THE GIVEN ROWS OF THIS SEAT. 12 by the template 'for every input the law returns true; each argument reads behind the call as it read before'; 0 by the template 'total and deterministic' (their statements: YtpkgpaeecjlnoaaTotals.lean).
  GIVEN WITH THE SEED: the statements are not yours to turn. If you find one false, say at which input.
  Laid BY PROGRAM, IN A SANDBOX (cutbox-rows.mjs): the forced cells as the released guide's own fill.sh prints them over the translation d91de5c48488f88f… (all of the seat's roots in one cut). By AI agents, Wed Nov 11 2026. No macro, syntax, notation, axiom, sorry.
-/
import Derived.Test.YtpkgpaeecjlnoaaChecked
import GoSem.Claim
import GoSem.ClaimJoined
import GoSem.ClaimMapViews
import Derived.JoinedTies
import Derived.KernelRfl
namespace Go.Proofs.Ytpkgpaeecjlnoaa
/- THE CELL 'sum', in the pinned program and in every row, IS THE sha256 OF THE DUMP (.gsa) THAT YtpkgpaeecjlnoaaProg.lean LOADS. Nothing in Lean hashes anything: it is a label: what it is worth is what the hold of that sum in a sandbox is worth. -/
noncomputable def Try.pinned : Pinned := { name := "ytpkgpaeecjlnoaa", sum := "d91de5c48488f88f882e9ab6a612da20a71c28f30f0ec3cc8951105d52e0ab29", checked := Try.checked }
namespace Rows
def none {H : Type} : Left H := { results := [], args := [] }

/-- 'laws.FnExactWellFormed': WHATEVER THE INPUT: true; the input reads as it did. -/
def fnExactWellFormedSpec : ChangeSpec := { name := "fnExactWellFormed", fn := fun _ => fun
  | [d1, d2] => { results := [.lit (.bool true)], args := [d1, d2] }
  | _ => none }
def fnExactWellFormedRow : OpenClaim := { program := "ytpkgpaeecjlnoaa", sum := "d91de5c48488f88f882e9ab6a612da20a71c28f30f0ec3cc8951105d52e0ab29", func := "loop.example/g00505/laws.FnExactWellFormed", spec := "fnExactWellFormed", apart := false }
def FnExactWellFormedSaid : Prop := fnExactWellFormedRow.holds Try.pinned (OpenSpec.ofChange fnExactWellFormedSpec)

/-- ITS FALSE NEIGHBOUR: 'it returns false'. Refute it at one input. -/
def fnExactWellFormedWrong : ChangeSpec := { name := "fnExactWellFormed", fn := fun _ => fun
  | [d1, d2] => { results := [.lit (.bool false)], args := [d1, d2] }
  | _ => none }
def FnExactWellFormedWrongFalsely : Prop := fnExactWellFormedRow.holds Try.pinned (OpenSpec.ofChange fnExactWellFormedWrong)

/-- 'laws.FnExactSplice': WHATEVER THE INPUT: true; the input reads as it did. -/
def fnExactSpliceSpec : ChangeSpec := { name := "fnExactSplice", fn := fun _ => fun
  | [d1, d2, d3, d4] => { results := [.lit (.bool true)], args := [d1, d2, d3, d4] }
  | _ => none }
def fnExactSpliceRow : OpenClaim := { program := "ytpkgpaeecjlnoaa", sum := "d91de5c48488f88f882e9ab6a612da20a71c28f30f0ec3cc8951105d52e0ab29", func := "loop.example/g00505/laws.FnExactSplice", spec := "fnExactSplice", apart := false }
def FnExactSpliceSaid : Prop := fnExactSpliceRow.holds Try.pinned (OpenSpec.ofChange fnExactSpliceSpec)

/-- ITS FALSE NEIGHBOUR: 'it returns false'. Refute it at one input. -/
def fnExactSpliceWrong : ChangeSpec := { name := "fnExactSplice", fn := fun _ => fun
  | [d1, d2, d3, d4] => { results := [.lit (.bool false)], args := [d1, d2, d3, d4] }
  | _ => none }
def FnExactSpliceWrongFalsely : Prop := fnExactSpliceRow.holds Try.pinned (OpenSpec.ofChange fnExactSpliceWrong)

/-- 'laws.FnExactStripMACs': WHATEVER THE INPUT: true; the input reads as it did. -/
def fnExactStripMACsSpec : ChangeSpec := { name := "fnExactStripMACs", fn := fun _ => fun
  | [d] => { results := [.lit (.bool true)], args := [d] }
  | _ => none }
def fnExactStripMACsRow : OpenClaim := { program := "ytpkgpaeecjlnoaa", sum := "d91de5c48488f88f882e9ab6a612da20a71c28f30f0ec3cc8951105d52e0ab29", func := "loop.example/g00505/laws.FnExactStripMACs", spec := "fnExactStripMACs", apart := false }
def FnExactStripMACsSaid : Prop := fnExactStripMACsRow.holds Try.pinned (OpenSpec.ofChange fnExactStripMACsSpec)

/-- ITS FALSE NEIGHBOUR: 'it returns false'. Refute it at one input. -/
def fnExactStripMACsWrong : ChangeSpec := { name := "fnExactStripMACs", fn := fun _ => fun
  | [d] => { results := [.lit (.bool false)], args := [d] }
  | _ => none }
def FnExactStripMACsWrongFalsely : Prop := fnExactStripMACsRow.holds Try.pinned (OpenSpec.ofChange fnExactStripMACsWrong)

/-- 'laws.FnExactSignAs': WHATEVER THE INPUT: true; the input reads as it did. -/
def fnExactSignAsSpec : ChangeSpec := { name := "fnExactSignAs", fn := fun _ => fun
  | [d1, d2, d3] => { results := [.lit (.bool true)], args := [d1, d2, d3] }
  | _ => none }
def fnExactSignAsRow : OpenClaim := { program := "ytpkgpaeecjlnoaa", sum := "d91de5c48488f88f882e9ab6a612da20a71c28f30f0ec3cc8951105d52e0ab29", func := "loop.example/g00505/laws.FnExactSignAs", spec := "fnExactSignAs", unfollowed := true, recurses := true, apart := false }
def FnExactSignAsSaid : Prop := fnExactSignAsRow.holds Try.pinned (OpenSpec.ofChange fnExactSignAsSpec)

/-- ITS FALSE NEIGHBOUR: 'it returns false'. Refute it at one input. -/
def fnExactSignAsWrong : ChangeSpec := { name := "fnExactSignAs", fn := fun _ => fun
  | [d1, d2, d3] => { results := [.lit (.bool false)], args := [d1, d2, d3] }
  | _ => none }
def FnExactSignAsWrongFalsely : Prop := fnExactSignAsRow.holds Try.pinned (OpenSpec.ofChange fnExactSignAsWrong)

/-- 'laws.FnExactAddSignature': WHATEVER THE INPUT: true; the input reads as it did. -/
def fnExactAddSignatureSpec : ChangeSpec := { name := "fnExactAddSignature", fn := fun _ => fun
  | [d1, d2] => { results := [.lit (.bool true)], args := [d1, d2] }
  | _ => none }
def fnExactAddSignatureRow : OpenClaim := { program := "ytpkgpaeecjlnoaa", sum := "d91de5c48488f88f882e9ab6a612da20a71c28f30f0ec3cc8951105d52e0ab29", func := "loop.example/g00505/laws.FnExactAddSignature", spec := "fnExactAddSignature", unfollowed := true, recurses := true, apart := false }
def FnExactAddSignatureSaid : Prop := fnExactAddSignatureRow.holds Try.pinned (OpenSpec.ofChange fnExactAddSignatureSpec)

/-- ITS FALSE NEIGHBOUR: 'it returns false'. Refute it at one input. -/
def fnExactAddSignatureWrong : ChangeSpec := { name := "fnExactAddSignature", fn := fun _ => fun
  | [d1, d2] => { results := [.lit (.bool false)], args := [d1, d2] }
  | _ => none }
def FnExactAddSignatureWrongFalsely : Prop := fnExactAddSignatureRow.holds Try.pinned (OpenSpec.ofChange fnExactAddSignatureWrong)

/-- 'laws.FnExactMakePart': WHATEVER THE INPUT: true; the input reads as it did. -/
def fnExactMakePartSpec : ChangeSpec := { name := "fnExactMakePart", fn := fun _ => fun
  | [d1, d2, d3] => { results := [.lit (.bool true)], args := [d1, d2, d3] }
  | _ => none }
def fnExactMakePartRow : OpenClaim := { program := "ytpkgpaeecjlnoaa", sum := "d91de5c48488f88f882e9ab6a612da20a71c28f30f0ec3cc8951105d52e0ab29", func := "loop.example/g00505/laws.FnExactMakePart", spec := "fnExactMakePart", apart := false }
def FnExactMakePartSaid : Prop := fnExactMakePartRow.holds Try.pinned (OpenSpec.ofChange fnExactMakePartSpec)

/-- ITS FALSE NEIGHBOUR: 'it returns false'. Refute it at one input. -/
def fnExactMakePartWrong : ChangeSpec := { name := "fnExactMakePart", fn := fun _ => fun
  | [d1, d2, d3] => { results := [.lit (.bool false)], args := [d1, d2, d3] }
  | _ => none }
def FnExactMakePartWrongFalsely : Prop := fnExactMakePartRow.holds Try.pinned (OpenSpec.ofChange fnExactMakePartWrong)

/-- 'laws.FnExactValidPart': WHATEVER THE INPUT: true; the input reads as it did. -/
def fnExactValidPartSpec : ChangeSpec := { name := "fnExactValidPart", fn := fun _ => fun
  | [d1, d2] => { results := [.lit (.bool true)], args := [d1, d2] }
  | _ => none }
def fnExactValidPartRow : OpenClaim := { program := "ytpkgpaeecjlnoaa", sum := "d91de5c48488f88f882e9ab6a612da20a71c28f30f0ec3cc8951105d52e0ab29", func := "loop.example/g00505/laws.FnExactValidPart", spec := "fnExactValidPart", apart := false }
def FnExactValidPartSaid : Prop := fnExactValidPartRow.holds Try.pinned (OpenSpec.ofChange fnExactValidPartSpec)

/-- ITS FALSE NEIGHBOUR: 'it returns false'. Refute it at one input. -/
def fnExactValidPartWrong : ChangeSpec := { name := "fnExactValidPart", fn := fun _ => fun
  | [d1, d2] => { results := [.lit (.bool false)], args := [d1, d2] }
  | _ => none }
def FnExactValidPartWrongFalsely : Prop := fnExactValidPartRow.holds Try.pinned (OpenSpec.ofChange fnExactValidPartWrong)

/-- 'laws.FnExactStepAllowed': WHATEVER THE INPUT: true; the input reads as it did. -/
def fnExactStepAllowedSpec : ChangeSpec := { name := "fnExactStepAllowed", fn := fun _ => fun
  | [d1, d2] => { results := [.lit (.bool true)], args := [d1, d2] }
  | _ => none }
def fnExactStepAllowedRow : OpenClaim := { program := "ytpkgpaeecjlnoaa", sum := "d91de5c48488f88f882e9ab6a612da20a71c28f30f0ec3cc8951105d52e0ab29", func := "loop.example/g00505/laws.FnExactStepAllowed", spec := "fnExactStepAllowed", apart := false }
def FnExactStepAllowedSaid : Prop := fnExactStepAllowedRow.holds Try.pinned (OpenSpec.ofChange fnExactStepAllowedSpec)

/-- ITS FALSE NEIGHBOUR: 'it returns false'. Refute it at one input. -/
def fnExactStepAllowedWrong : ChangeSpec := { name := "fnExactStepAllowed", fn := fun _ => fun
  | [d1, d2] => { results := [.lit (.bool false)], args := [d1, d2] }
  | _ => none }
def FnExactStepAllowedWrongFalsely : Prop := fnExactStepAllowedRow.holds Try.pinned (OpenSpec.ofChange fnExactStepAllowedWrong)

/-- 'laws.FnExactTraceInterfaces': WHATEVER THE INPUT: true; the input reads as it did. -/
def fnExactTraceInterfacesSpec : ChangeSpec := { name := "fnExactTraceInterfaces", fn := fun _ => fun
  | [d] => { results := [.lit (.bool true)], args := [d] }
  | _ => none }
def fnExactTraceInterfacesRow : OpenClaim := { program := "ytpkgpaeecjlnoaa", sum := "d91de5c48488f88f882e9ab6a612da20a71c28f30f0ec3cc8951105d52e0ab29", func := "loop.example/g00505/laws.FnExactTraceInterfaces", spec := "fnExactTraceInterfaces", apart := false }
def FnExactTraceInterfacesSaid : Prop := fnExactTraceInterfacesRow.holds Try.pinned (OpenSpec.ofChange fnExactTraceInterfacesSpec)

/-- ITS FALSE NEIGHBOUR: 'it returns false'. Refute it at one input. -/
def fnExactTraceInterfacesWrong : ChangeSpec := { name := "fnExactTraceInterfaces", fn := fun _ => fun
  | [d] => { results := [.lit (.bool false)], args := [d] }
  | _ => none }
def FnExactTraceInterfacesWrongFalsely : Prop := fnExactTraceInterfacesRow.holds Try.pinned (OpenSpec.ofChange fnExactTraceInterfacesWrong)

/-- 'laws.FnExactReversePart': WHATEVER THE INPUT: true; the input reads as it did. -/
def fnExactReversePartSpec : ChangeSpec := { name := "fnExactReversePart", fn := fun _ => fun
  | [d] => { results := [.lit (.bool true)], args := [d] }
  | _ => none }
def fnExactReversePartRow : OpenClaim := { program := "ytpkgpaeecjlnoaa", sum := "d91de5c48488f88f882e9ab6a612da20a71c28f30f0ec3cc8951105d52e0ab29", func := "loop.example/g00505/laws.FnExactReversePart", spec := "fnExactReversePart", unfollowed := true, recurses := true, apart := false }
def FnExactReversePartSaid : Prop := fnExactReversePartRow.holds Try.pinned (OpenSpec.ofChange fnExactReversePartSpec)

/-- ITS FALSE NEIGHBOUR: 'it returns false'. Refute it at one input. -/
def fnExactReversePartWrong : ChangeSpec := { name := "fnExactReversePart", fn := fun _ => fun
  | [d] => { results := [.lit (.bool false)], args := [d] }
  | _ => none }
def FnExactReversePartWrongFalsely : Prop := fnExactReversePartRow.holds Try.pinned (OpenSpec.ofChange fnExactReversePartWrong)

/-- 'laws.FnExactReversePath': WHATEVER THE INPUT: true; the input reads as it did. -/
def fnExactReversePathSpec : ChangeSpec := { name := "fnExactReversePath", fn := fun _ => fun
  | [d] => { results := [.lit (.bool true)], args := [d] }
  | _ => none }
def fnExactReversePathRow : OpenClaim := { program := "ytpkgpaeecjlnoaa", sum := "d91de5c48488f88f882e9ab6a612da20a71c28f30f0ec3cc8951105d52e0ab29", func := "loop.example/g00505/laws.FnExactReversePath", spec := "fnExactReversePath", unfollowed := true, recurses := true, apart := false }
def FnExactReversePathSaid : Prop := fnExactReversePathRow.holds Try.pinned (OpenSpec.ofChange fnExactReversePathSpec)

/-- ITS FALSE NEIGHBOUR: 'it returns false'. Refute it at one input. -/
def fnExactReversePathWrong : ChangeSpec := { name := "fnExactReversePath", fn := fun _ => fun
  | [d] => { results := [.lit (.bool false)], args := [d] }
  | _ => none }
def FnExactReversePathWrongFalsely : Prop := fnExactReversePathRow.holds Try.pinned (OpenSpec.ofChange fnExactReversePathWrong)

/-- 'laws.FnExactPathReserved': WHATEVER THE INPUT: true; the input reads as it did. -/
def fnExactPathReservedSpec : ChangeSpec := { name := "fnExactPathReserved", fn := fun _ => fun
  | [d1, d2, d3, d4] => { results := [.lit (.bool true)], args := [d1, d2, d3, d4] }
  | _ => none }
def fnExactPathReservedRow : OpenClaim := { program := "ytpkgpaeecjlnoaa", sum := "d91de5c48488f88f882e9ab6a612da20a71c28f30f0ec3cc8951105d52e0ab29", func := "loop.example/g00505/laws.FnExactPathReserved", spec := "fnExactPathReserved", unfollowed := true, recurses := true, apart := false }
def FnExactPathReservedSaid : Prop := fnExactPathReservedRow.holds Try.pinned (OpenSpec.ofChange fnExactPathReservedSpec)

/-- ITS FALSE NEIGHBOUR: 'it returns false'. Refute it at one input. -/
def fnExactPathReservedWrong : ChangeSpec := { name := "fnExactPathReserved", fn := fun _ => fun
  | [d1, d2, d3, d4] => { results := [.lit (.bool false)], args := [d1, d2, d3, d4] }
  | _ => none }
def FnExactPathReservedWrongFalsely : Prop := fnExactPathReservedRow.holds Try.pinned (OpenSpec.ofChange fnExactPathReservedWrong)

/- THE SECOND FORM. 'bulk': how many values and letters a reading holds, each counted each time it is reached (what is shared counts as often as it is met; a slice's spare places count too). A statement '..UptoSaid' is the law's where the arguments, and the package variables that the reading takes, are together of bulk at most 1048576: NARROWER than '..Said'. Prove '..Said' where nothing that the law and all that it calls make is longer than what came in: it says more and counts as full. Else prove '..UptoSaid'. A law counts once. -/
mutual
def uptoBulk {H : Type} : DataW H → Nat
  | .lit (.string bytes) => bytes.length + 1
  | .lit _ => 1
  | .nil => 1
  | .ptr d => uptoBulk d + 1
  | .slice elems spare => uptoBulkAll elems + uptoBulkAll spare + 1
  | .agg parts => uptoBulkAll parts + 1
  | .iface _ d => uptoBulk d + 1
  | .map entries => uptoBulkEntries entries + 1
  | .held _ => 1
def uptoBulkAll {H : Type} : List (DataW H) → Nat
  | [] => 0
  | d :: r => uptoBulk d + uptoBulkAll r
def uptoBulkEntries {H : Type} : List (Lit × DataW H) → Nat
  | [] => 0
  | x :: r => uptoBulkEntry x + uptoBulkEntries r
def uptoBulkEntry {H : Type} : Lit × DataW H → Nat
  | (.string bytes, d) => bytes.length + uptoBulk d + 1
  | (_, d) => uptoBulk d + 1
 end
def uptoSmall : (H : Type) → List (DataW H) → Bool := fun _ ds => decide (uptoBulkAll ds ≤ 1048576)
def OpenSpec.upto (s : _root_.Go.ChangeSpec) : _root_.Go.OpenSpec := { _root_.Go.OpenSpec.ofChange s with cond := some uptoSmall }

/-- 'laws.FnExactWellFormed', WHERE WHAT IT READS IS OF BULK AT MOST 1048576: true; the input reads as it did. -/
def fnExactWellFormedUptoRow : OpenClaim := { program := "ytpkgpaeecjlnoaa", sum := "d91de5c48488f88f882e9ab6a612da20a71c28f30f0ec3cc8951105d52e0ab29", func := "loop.example/g00505/laws.FnExactWellFormed", spec := "fnExactWellFormed", apart := false, narrowed := true }
def FnExactWellFormedUptoSaid : Prop := fnExactWellFormedUptoRow.holds Try.pinned (OpenSpec.upto fnExactWellFormedSpec)

/-- 'laws.FnExactSplice', WHERE WHAT IT READS IS OF BULK AT MOST 1048576: true; the input reads as it did. -/
def fnExactSpliceUptoRow : OpenClaim := { program := "ytpkgpaeecjlnoaa", sum := "d91de5c48488f88f882e9ab6a612da20a71c28f30f0ec3cc8951105d52e0ab29", func := "loop.example/g00505/laws.FnExactSplice", spec := "fnExactSplice", apart := false, narrowed := true }
def FnExactSpliceUptoSaid : Prop := fnExactSpliceUptoRow.holds Try.pinned (OpenSpec.upto fnExactSpliceSpec)

/-- 'laws.FnExactStripMACs', WHERE WHAT IT READS IS OF BULK AT MOST 1048576: true; the input reads as it did. -/
def fnExactStripMACsUptoRow : OpenClaim := { program := "ytpkgpaeecjlnoaa", sum := "d91de5c48488f88f882e9ab6a612da20a71c28f30f0ec3cc8951105d52e0ab29", func := "loop.example/g00505/laws.FnExactStripMACs", spec := "fnExactStripMACs", apart := false, narrowed := true }
def FnExactStripMACsUptoSaid : Prop := fnExactStripMACsUptoRow.holds Try.pinned (OpenSpec.upto fnExactStripMACsSpec)

/-- 'laws.FnExactSignAs', WHERE WHAT IT READS IS OF BULK AT MOST 1048576: true; the input reads as it did. -/
def fnExactSignAsUptoRow : OpenClaim := { program := "ytpkgpaeecjlnoaa", sum := "d91de5c48488f88f882e9ab6a612da20a71c28f30f0ec3cc8951105d52e0ab29", func := "loop.example/g00505/laws.FnExactSignAs", spec := "fnExactSignAs", unfollowed := true, recurses := true, apart := false, narrowed := true }
def FnExactSignAsUptoSaid : Prop := fnExactSignAsUptoRow.holds Try.pinned (OpenSpec.upto fnExactSignAsSpec)

/-- 'laws.FnExactAddSignature', WHERE WHAT IT READS IS OF BULK AT MOST 1048576: true; the input reads as it did. -/
def fnExactAddSignatureUptoRow : OpenClaim := { program := "ytpkgpaeecjlnoaa", sum := "d91de5c48488f88f882e9ab6a612da20a71c28f30f0ec3cc8951105d52e0ab29", func := "loop.example/g00505/laws.FnExactAddSignature", spec := "fnExactAddSignature", unfollowed := true, recurses := true, apart := false, narrowed := true }
def FnExactAddSignatureUptoSaid : Prop := fnExactAddSignatureUptoRow.holds Try.pinned (OpenSpec.upto fnExactAddSignatureSpec)

/-- 'laws.FnExactMakePart', WHERE WHAT IT READS IS OF BULK AT MOST 1048576: true; the input reads as it did. -/
def fnExactMakePartUptoRow : OpenClaim := { program := "ytpkgpaeecjlnoaa", sum := "d91de5c48488f88f882e9ab6a612da20a71c28f30f0ec3cc8951105d52e0ab29", func := "loop.example/g00505/laws.FnExactMakePart", spec := "fnExactMakePart", apart := false, narrowed := true }
def FnExactMakePartUptoSaid : Prop := fnExactMakePartUptoRow.holds Try.pinned (OpenSpec.upto fnExactMakePartSpec)

/-- 'laws.FnExactValidPart', WHERE WHAT IT READS IS OF BULK AT MOST 1048576: true; the input reads as it did. -/
def fnExactValidPartUptoRow : OpenClaim := { program := "ytpkgpaeecjlnoaa", sum := "d91de5c48488f88f882e9ab6a612da20a71c28f30f0ec3cc8951105d52e0ab29", func := "loop.example/g00505/laws.FnExactValidPart", spec := "fnExactValidPart", apart := false, narrowed := true }
def FnExactValidPartUptoSaid : Prop := fnExactValidPartUptoRow.holds Try.pinned (OpenSpec.upto fnExactValidPartSpec)

/-- 'laws.FnExactStepAllowed', WHERE WHAT IT READS IS OF BULK AT MOST 1048576: true; the input reads as it did. -/
def fnExactStepAllowedUptoRow : OpenClaim := { program := "ytpkgpaeecjlnoaa", sum := "d91de5c48488f88f882e9ab6a612da20a71c28f30f0ec3cc8951105d52e0ab29", func := "loop.example/g00505/laws.FnExactStepAllowed", spec := "fnExactStepAllowed", apart := false, narrowed := true }
def FnExactStepAllowedUptoSaid : Prop := fnExactStepAllowedUptoRow.holds Try.pinned (OpenSpec.upto fnExactStepAllowedSpec)

/-- 'laws.FnExactTraceInterfaces', WHERE WHAT IT READS IS OF BULK AT MOST 1048576: true; the input reads as it did. -/
def fnExactTraceInterfacesUptoRow : OpenClaim := { program := "ytpkgpaeecjlnoaa", sum := "d91de5c48488f88f882e9ab6a612da20a71c28f30f0ec3cc8951105d52e0ab29", func := "loop.example/g00505/laws.FnExactTraceInterfaces", spec := "fnExactTraceInterfaces", apart := false, narrowed := true }
def FnExactTraceInterfacesUptoSaid : Prop := fnExactTraceInterfacesUptoRow.holds Try.pinned (OpenSpec.upto fnExactTraceInterfacesSpec)

/-- 'laws.FnExactReversePart', WHERE WHAT IT READS IS OF BULK AT MOST 1048576: true; the input reads as it did. -/
def fnExactReversePartUptoRow : OpenClaim := { program := "ytpkgpaeecjlnoaa", sum := "d91de5c48488f88f882e9ab6a612da20a71c28f30f0ec3cc8951105d52e0ab29", func := "loop.example/g00505/laws.FnExactReversePart", spec := "fnExactReversePart", unfollowed := true, recurses := true, apart := false, narrowed := true }
def FnExactReversePartUptoSaid : Prop := fnExactReversePartUptoRow.holds Try.pinned (OpenSpec.upto fnExactReversePartSpec)

/-- 'laws.FnExactReversePath', WHERE WHAT IT READS IS OF BULK AT MOST 1048576: true; the input reads as it did. -/
def fnExactReversePathUptoRow : OpenClaim := { program := "ytpkgpaeecjlnoaa", sum := "d91de5c48488f88f882e9ab6a612da20a71c28f30f0ec3cc8951105d52e0ab29", func := "loop.example/g00505/laws.FnExactReversePath", spec := "fnExactReversePath", unfollowed := true, recurses := true, apart := false, narrowed := true }
def FnExactReversePathUptoSaid : Prop := fnExactReversePathUptoRow.holds Try.pinned (OpenSpec.upto fnExactReversePathSpec)

/-- 'laws.FnExactPathReserved', WHERE WHAT IT READS IS OF BULK AT MOST 1048576: true; the input reads as it did. -/
def fnExactPathReservedUptoRow : OpenClaim := { program := "ytpkgpaeecjlnoaa", sum := "d91de5c48488f88f882e9ab6a612da20a71c28f30f0ec3cc8951105d52e0ab29", func := "loop.example/g00505/laws.FnExactPathReserved", spec := "fnExactPathReserved", unfollowed := true, recurses := true, apart := false, narrowed := true }
def FnExactPathReservedUptoSaid : Prop := fnExactPathReservedUptoRow.holds Try.pinned (OpenSpec.upto fnExactPathReservedSpec)

end Rows
end Go.Proofs.Ytpkgpaeecjlnoaa
