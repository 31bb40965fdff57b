/-
  No cell of these rows narrows 'for every input' (looked for: loops, veiled, ifaces, maps, wideKeys, modest, calm, conditions, laid).
  DERIVED. THE GIVEN ROWS OF THIS SEAT. 8 by the template 'for every input the law returns true; each argument reads behind the call as it read before'; 0 by the template 'total and deterministic' (their statements: YteecmjjphngbmaaTotals.lean).
  GIVEN WITH THE SEED: the statements are not yours to turn. If you find one false, say at which input.
  Laid BY PROGRAM, IN A SANDBOX (cutbox-rows.mjs): the forced cells as the released guide's own fill.sh prints them over the translation 870454178eb65f60… (all of the seat's roots in one cut). By AI agents, Wed Nov 11 2026. No macro, syntax, notation, axiom, sorry.
-/
import Derived.Test.YteecmjjphngbmaaChecked
import GoSem.Claim
import GoSem.ClaimJoined
import GoSem.ClaimMapViews
import Derived.JoinedTies
import Derived.KernelRfl
namespace Go.Proofs.Yteecmjjphngbmaa
/- THE CELL 'sum', in the pinned program and in every row, IS THE sha256 OF THE DUMP (.gsa) THAT YteecmjjphngbmaaProg.lean LOADS. Nothing in Lean hashes anything: it is a label: what it is worth is what the hold of that sum in a sandbox is worth. -/
noncomputable def Try.pinned : Pinned := { name := "yteecmjjphngbmaa", sum := "870454178eb65f60bf850398cf20a6d2c712c2cb4b09ebafcc1abc23bdfd3bbb", checked := Try.checked }
namespace Rows
def none {H : Type} : Left H := { results := [], args := [] }

/-- 'laws.FnExactMakePart': WHATEVER THE INPUT: true; the input reads as it did. -/
def fnExactMakePartSpec : ChangeSpec := { name := "fnExactMakePart", fn := fun _ => fun
  | [d1, d2, d3] => { results := [.lit (.bool true)], args := [d1, d2, d3] }
  | _ => none }
def fnExactMakePartRow : OpenClaim := { program := "yteecmjjphngbmaa", sum := "870454178eb65f60bf850398cf20a6d2c712c2cb4b09ebafcc1abc23bdfd3bbb", func := "loop.example/g00505/laws.FnExactMakePart", spec := "fnExactMakePart", apart := false }
def FnExactMakePartSaid : Prop := fnExactMakePartRow.holds Try.pinned (OpenSpec.ofChange fnExactMakePartSpec)

/-- ITS FALSE NEIGHBOUR: 'it returns false'. Refute it at one input. -/
def fnExactMakePartWrong : ChangeSpec := { name := "fnExactMakePart", fn := fun _ => fun
  | [d1, d2, d3] => { results := [.lit (.bool false)], args := [d1, d2, d3] }
  | _ => none }
def FnExactMakePartWrongFalsely : Prop := fnExactMakePartRow.holds Try.pinned (OpenSpec.ofChange fnExactMakePartWrong)

/-- 'laws.FnExactIsReversed': WHATEVER THE INPUT: true; the input reads as it did. -/
def fnExactIsReversedSpec : ChangeSpec := { name := "fnExactIsReversed", fn := fun _ => fun
  | [d] => { results := [.lit (.bool true)], args := [d] }
  | _ => none }
def fnExactIsReversedRow : OpenClaim := { program := "yteecmjjphngbmaa", sum := "870454178eb65f60bf850398cf20a6d2c712c2cb4b09ebafcc1abc23bdfd3bbb", func := "loop.example/g00505/laws.FnExactIsReversed", spec := "fnExactIsReversed", apart := false }
def FnExactIsReversedSaid : Prop := fnExactIsReversedRow.holds Try.pinned (OpenSpec.ofChange fnExactIsReversedSpec)

/-- ITS FALSE NEIGHBOUR: 'it returns false'. Refute it at one input. -/
def fnExactIsReversedWrong : ChangeSpec := { name := "fnExactIsReversed", fn := fun _ => fun
  | [d] => { results := [.lit (.bool false)], args := [d] }
  | _ => none }
def FnExactIsReversedWrongFalsely : Prop := fnExactIsReversedRow.holds Try.pinned (OpenSpec.ofChange fnExactIsReversedWrong)

/-- 'laws.FnExactPartIngress': WHATEVER THE INPUT: true; the input reads as it did. -/
def fnExactPartIngressSpec : ChangeSpec := { name := "fnExactPartIngress", fn := fun _ => fun
  | [d1, d2] => { results := [.lit (.bool true)], args := [d1, d2] }
  | _ => none }
def fnExactPartIngressRow : OpenClaim := { program := "yteecmjjphngbmaa", sum := "870454178eb65f60bf850398cf20a6d2c712c2cb4b09ebafcc1abc23bdfd3bbb", func := "loop.example/g00505/laws.FnExactPartIngress", spec := "fnExactPartIngress", apart := false }
def FnExactPartIngressSaid : Prop := fnExactPartIngressRow.holds Try.pinned (OpenSpec.ofChange fnExactPartIngressSpec)

/-- ITS FALSE NEIGHBOUR: 'it returns false'. Refute it at one input. -/
def fnExactPartIngressWrong : ChangeSpec := { name := "fnExactPartIngress", fn := fun _ => fun
  | [d1, d2] => { results := [.lit (.bool false)], args := [d1, d2] }
  | _ => none }
def FnExactPartIngressWrongFalsely : Prop := fnExactPartIngressRow.holds Try.pinned (OpenSpec.ofChange fnExactPartIngressWrong)

/-- 'laws.FnExactPartEgress': WHATEVER THE INPUT: true; the input reads as it did. -/
def fnExactPartEgressSpec : ChangeSpec := { name := "fnExactPartEgress", fn := fun _ => fun
  | [d1, d2] => { results := [.lit (.bool true)], args := [d1, d2] }
  | _ => none }
def fnExactPartEgressRow : OpenClaim := { program := "yteecmjjphngbmaa", sum := "870454178eb65f60bf850398cf20a6d2c712c2cb4b09ebafcc1abc23bdfd3bbb", func := "loop.example/g00505/laws.FnExactPartEgress", spec := "fnExactPartEgress", apart := false }
def FnExactPartEgressSaid : Prop := fnExactPartEgressRow.holds Try.pinned (OpenSpec.ofChange fnExactPartEgressSpec)

/-- ITS FALSE NEIGHBOUR: 'it returns false'. Refute it at one input. -/
def fnExactPartEgressWrong : ChangeSpec := { name := "fnExactPartEgress", fn := fun _ => fun
  | [d1, d2] => { results := [.lit (.bool false)], args := [d1, d2] }
  | _ => none }
def FnExactPartEgressWrongFalsely : Prop := fnExactPartEgressRow.holds Try.pinned (OpenSpec.ofChange fnExactPartEgressWrong)

/-- 'laws.FnExactValidPart': WHATEVER THE INPUT: true; the input reads as it did. -/
def fnExactValidPartSpec : ChangeSpec := { name := "fnExactValidPart", fn := fun _ => fun
  | [d1, d2] => { results := [.lit (.bool true)], args := [d1, d2] }
  | _ => none }
def fnExactValidPartRow : OpenClaim := { program := "yteecmjjphngbmaa", sum := "870454178eb65f60bf850398cf20a6d2c712c2cb4b09ebafcc1abc23bdfd3bbb", func := "loop.example/g00505/laws.FnExactValidPart", spec := "fnExactValidPart", apart := false }
def FnExactValidPartSaid : Prop := fnExactValidPartRow.holds Try.pinned (OpenSpec.ofChange fnExactValidPartSpec)

/-- ITS FALSE NEIGHBOUR: 'it returns false'. Refute it at one input. -/
def fnExactValidPartWrong : ChangeSpec := { name := "fnExactValidPart", fn := fun _ => fun
  | [d1, d2] => { results := [.lit (.bool false)], args := [d1, d2] }
  | _ => none }
def FnExactValidPartWrongFalsely : Prop := fnExactValidPartRow.holds Try.pinned (OpenSpec.ofChange fnExactValidPartWrong)

/-- 'laws.FnExactVerifyPart': WHATEVER THE INPUT: true; the input reads as it did. -/
def fnExactVerifyPartSpec : ChangeSpec := { name := "fnExactVerifyPart", fn := fun _ => fun
  | [d1, d2] => { results := [.lit (.bool true)], args := [d1, d2] }
  | _ => none }
def fnExactVerifyPartRow : OpenClaim := { program := "yteecmjjphngbmaa", sum := "870454178eb65f60bf850398cf20a6d2c712c2cb4b09ebafcc1abc23bdfd3bbb", func := "loop.example/g00505/laws.FnExactVerifyPart", spec := "fnExactVerifyPart", unfollowed := true, recurses := true, apart := false }
def FnExactVerifyPartSaid : Prop := fnExactVerifyPartRow.holds Try.pinned (OpenSpec.ofChange fnExactVerifyPartSpec)

/-- ITS FALSE NEIGHBOUR: 'it returns false'. Refute it at one input. -/
def fnExactVerifyPartWrong : ChangeSpec := { name := "fnExactVerifyPart", fn := fun _ => fun
  | [d1, d2] => { results := [.lit (.bool false)], args := [d1, d2] }
  | _ => none }
def FnExactVerifyPartWrongFalsely : Prop := fnExactVerifyPartRow.holds Try.pinned (OpenSpec.ofChange fnExactVerifyPartWrong)

/-- 'laws.FnExactBetaAfter': WHATEVER THE INPUT: true; the input reads as it did. -/
def fnExactBetaAfterSpec : ChangeSpec := { name := "fnExactBetaAfter", fn := fun _ => fun
  | [d1, d2] => { results := [.lit (.bool true)], args := [d1, d2] }
  | _ => none }
def fnExactBetaAfterRow : OpenClaim := { program := "yteecmjjphngbmaa", sum := "870454178eb65f60bf850398cf20a6d2c712c2cb4b09ebafcc1abc23bdfd3bbb", func := "loop.example/g00505/laws.FnExactBetaAfter", spec := "fnExactBetaAfter", apart := false }
def FnExactBetaAfterSaid : Prop := fnExactBetaAfterRow.holds Try.pinned (OpenSpec.ofChange fnExactBetaAfterSpec)

/-- ITS FALSE NEIGHBOUR: 'it returns false'. Refute it at one input. -/
def fnExactBetaAfterWrong : ChangeSpec := { name := "fnExactBetaAfter", fn := fun _ => fun
  | [d1, d2] => { results := [.lit (.bool false)], args := [d1, d2] }
  | _ => none }
def FnExactBetaAfterWrongFalsely : Prop := fnExactBetaAfterRow.holds Try.pinned (OpenSpec.ofChange fnExactBetaAfterWrong)

/-- 'laws.FnExactEqualParts': WHATEVER THE INPUT: true; the input reads as it did. -/
def fnExactEqualPartsSpec : ChangeSpec := { name := "fnExactEqualParts", fn := fun _ => fun
  | [d1, d2] => { results := [.lit (.bool true)], args := [d1, d2] }
  | _ => none }
def fnExactEqualPartsRow : OpenClaim := { program := "yteecmjjphngbmaa", sum := "870454178eb65f60bf850398cf20a6d2c712c2cb4b09ebafcc1abc23bdfd3bbb", func := "loop.example/g00505/laws.FnExactEqualParts", spec := "fnExactEqualParts", apart := false }
def FnExactEqualPartsSaid : Prop := fnExactEqualPartsRow.holds Try.pinned (OpenSpec.ofChange fnExactEqualPartsSpec)

/-- ITS FALSE NEIGHBOUR: 'it returns false'. Refute it at one input. -/
def fnExactEqualPartsWrong : ChangeSpec := { name := "fnExactEqualParts", fn := fun _ => fun
  | [d1, d2] => { results := [.lit (.bool false)], args := [d1, d2] }
  | _ => none }
def FnExactEqualPartsWrongFalsely : Prop := fnExactEqualPartsRow.holds Try.pinned (OpenSpec.ofChange fnExactEqualPartsWrong)

/- THE SECOND FORM. 'bulk': how many values and letters a reading holds, each counted each time it is reached (what is shared counts as often as it is met; a slice's spare places count too). A statement '..UptoSaid' is the law's where the arguments, and the package variables that the reading takes, are together of bulk at most 1048576: NARROWER than '..Said'. Prove '..Said' where nothing that the law and all that it calls make is longer than what came in: it says more and counts as full. Else prove '..UptoSaid'. A law counts once. -/
mutual
def uptoBulk {H : Type} : DataW H → Nat
  | .lit (.string bytes) => bytes.length + 1
  | .lit _ => 1
  | .nil => 1
  | .ptr d => uptoBulk d + 1
  | .slice elems spare => uptoBulkAll elems + uptoBulkAll spare + 1
  | .agg parts => uptoBulkAll parts + 1
  | .iface _ d => uptoBulk d + 1
  | .map entries => uptoBulkEntries entries + 1
  | .held _ => 1
def uptoBulkAll {H : Type} : List (DataW H) → Nat
  | [] => 0
  | d :: r => uptoBulk d + uptoBulkAll r
def uptoBulkEntries {H : Type} : List (Lit × DataW H) → Nat
  | [] => 0
  | x :: r => uptoBulkEntry x + uptoBulkEntries r
def uptoBulkEntry {H : Type} : Lit × DataW H → Nat
  | (.string bytes, d) => bytes.length + uptoBulk d + 1
  | (_, d) => uptoBulk d + 1
 end
def uptoSmall : (H : Type) → List (DataW H) → Bool := fun _ ds => decide (uptoBulkAll ds ≤ 1048576)
def OpenSpec.upto (s : _root_.Go.ChangeSpec) : _root_.Go.OpenSpec := { _root_.Go.OpenSpec.ofChange s with cond := some uptoSmall }

/-- 'laws.FnExactMakePart', WHERE WHAT IT READS IS OF BULK AT MOST 1048576: true; the input reads as it did. -/
def fnExactMakePartUptoRow : OpenClaim := { program := "yteecmjjphngbmaa", sum := "870454178eb65f60bf850398cf20a6d2c712c2cb4b09ebafcc1abc23bdfd3bbb", func := "loop.example/g00505/laws.FnExactMakePart", spec := "fnExactMakePart", apart := false, narrowed := true }
def FnExactMakePartUptoSaid : Prop := fnExactMakePartUptoRow.holds Try.pinned (OpenSpec.upto fnExactMakePartSpec)

/-- 'laws.FnExactIsReversed', WHERE WHAT IT READS IS OF BULK AT MOST 1048576: true; the input reads as it did. -/
def fnExactIsReversedUptoRow : OpenClaim := { program := "yteecmjjphngbmaa", sum := "870454178eb65f60bf850398cf20a6d2c712c2cb4b09ebafcc1abc23bdfd3bbb", func := "loop.example/g00505/laws.FnExactIsReversed", spec := "fnExactIsReversed", apart := false, narrowed := true }
def FnExactIsReversedUptoSaid : Prop := fnExactIsReversedUptoRow.holds Try.pinned (OpenSpec.upto fnExactIsReversedSpec)

/-- 'laws.FnExactPartIngress', WHERE WHAT IT READS IS OF BULK AT MOST 1048576: true; the input reads as it did. -/
def fnExactPartIngressUptoRow : OpenClaim := { program := "yteecmjjphngbmaa", sum := "870454178eb65f60bf850398cf20a6d2c712c2cb4b09ebafcc1abc23bdfd3bbb", func := "loop.example/g00505/laws.FnExactPartIngress", spec := "fnExactPartIngress", apart := false, narrowed := true }
def FnExactPartIngressUptoSaid : Prop := fnExactPartIngressUptoRow.holds Try.pinned (OpenSpec.upto fnExactPartIngressSpec)

/-- 'laws.FnExactPartEgress', WHERE WHAT IT READS IS OF BULK AT MOST 1048576: true; the input reads as it did. -/
def fnExactPartEgressUptoRow : OpenClaim := { program := "yteecmjjphngbmaa", sum := "870454178eb65f60bf850398cf20a6d2c712c2cb4b09ebafcc1abc23bdfd3bbb", func := "loop.example/g00505/laws.FnExactPartEgress", spec := "fnExactPartEgress", apart := false, narrowed := true }
def FnExactPartEgressUptoSaid : Prop := fnExactPartEgressUptoRow.holds Try.pinned (OpenSpec.upto fnExactPartEgressSpec)

/-- 'laws.FnExactValidPart', WHERE WHAT IT READS IS OF BULK AT MOST 1048576: true; the input reads as it did. -/
def fnExactValidPartUptoRow : OpenClaim := { program := "yteecmjjphngbmaa", sum := "870454178eb65f60bf850398cf20a6d2c712c2cb4b09ebafcc1abc23bdfd3bbb", func := "loop.example/g00505/laws.FnExactValidPart", spec := "fnExactValidPart", apart := false, narrowed := true }
def FnExactValidPartUptoSaid : Prop := fnExactValidPartUptoRow.holds Try.pinned (OpenSpec.upto fnExactValidPartSpec)

/-- 'laws.FnExactVerifyPart', WHERE WHAT IT READS IS OF BULK AT MOST 1048576: true; the input reads as it did. -/
def fnExactVerifyPartUptoRow : OpenClaim := { program := "yteecmjjphngbmaa", sum := "870454178eb65f60bf850398cf20a6d2c712c2cb4b09ebafcc1abc23bdfd3bbb", func := "loop.example/g00505/laws.FnExactVerifyPart", spec := "fnExactVerifyPart", unfollowed := true, recurses := true, apart := false, narrowed := true }
def FnExactVerifyPartUptoSaid : Prop := fnExactVerifyPartUptoRow.holds Try.pinned (OpenSpec.upto fnExactVerifyPartSpec)

/-- 'laws.FnExactBetaAfter', WHERE WHAT IT READS IS OF BULK AT MOST 1048576: true; the input reads as it did. -/
def fnExactBetaAfterUptoRow : OpenClaim := { program := "yteecmjjphngbmaa", sum := "870454178eb65f60bf850398cf20a6d2c712c2cb4b09ebafcc1abc23bdfd3bbb", func := "loop.example/g00505/laws.FnExactBetaAfter", spec := "fnExactBetaAfter", apart := false, narrowed := true }
def FnExactBetaAfterUptoSaid : Prop := fnExactBetaAfterUptoRow.holds Try.pinned (OpenSpec.upto fnExactBetaAfterSpec)

/-- 'laws.FnExactEqualParts', WHERE WHAT IT READS IS OF BULK AT MOST 1048576: true; the input reads as it did. -/
def fnExactEqualPartsUptoRow : OpenClaim := { program := "yteecmjjphngbmaa", sum := "870454178eb65f60bf850398cf20a6d2c712c2cb4b09ebafcc1abc23bdfd3bbb", func := "loop.example/g00505/laws.FnExactEqualParts", spec := "fnExactEqualParts", apart := false, narrowed := true }
def FnExactEqualPartsUptoSaid : Prop := fnExactEqualPartsUptoRow.holds Try.pinned (OpenSpec.upto fnExactEqualPartsSpec)

end Rows
end Go.Proofs.Yteecmjjphngbmaa
