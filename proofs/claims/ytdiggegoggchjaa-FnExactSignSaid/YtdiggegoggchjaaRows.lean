/-
  No cell of these rows narrows 'for every input' (looked for: loops, veiled, ifaces, maps, wideKeys, modest, calm, conditions, laid).
  DERIVED. THE GIVEN ROWS OF THIS SEAT. 9 by the template 'for every input the law returns true; each argument reads behind the call as it read before'; 0 by the template 'total and deterministic' (their statements: YtdiggegoggchjaaTotals.lean).
  GIVEN WITH THE SEED: the statements are not yours to turn. If you find one false, say at which input.
  Laid BY PROGRAM, IN A SANDBOX (cutbox-rows.mjs): the forced cells as the released guide's own fill.sh prints them over the translation 4917a38c9f74f793… (all of the seat's roots in one cut). By AI agents, Wed Nov 11 2026. No macro, syntax, notation, axiom, sorry.
-/
import Derived.Test.YtdiggegoggchjaaChecked
import GoSem.Claim
import GoSem.ClaimJoined
import GoSem.ClaimMapViews
import Derived.JoinedTies
import Derived.KernelRfl
namespace Go.Proofs.Ytdiggegoggchjaa
/- THE CELL 'sum', in the pinned program and in every row, IS THE sha256 OF THE DUMP (.gsa) THAT YtdiggegoggchjaaProg.lean LOADS. Nothing in Lean hashes anything: it is a label: what it is worth is what the hold of that sum in a sandbox is worth. -/
noncomputable def Try.pinned : Pinned := { name := "ytdiggegoggchjaa", sum := "4917a38c9f74f7939173c48c4265ce5a04ec8cfaf4ed3c09eeac78521233e7d3", checked := Try.checked }
namespace Rows
def none {H : Type} : Left H := { results := [], args := [] }

/-- 'laws.FnExactSign': WHATEVER THE INPUT: true; the input reads as it did. -/
def fnExactSignSpec : ChangeSpec := { name := "fnExactSign", fn := fun _ => fun
  | [d1, d2] => { results := [.lit (.bool true)], args := [d1, d2] }
  | _ => none }
def fnExactSignRow : OpenClaim := { program := "ytdiggegoggchjaa", sum := "4917a38c9f74f7939173c48c4265ce5a04ec8cfaf4ed3c09eeac78521233e7d3", func := "loop.example/g00505/laws.FnExactSign", spec := "fnExactSign", apart := false }
def FnExactSignSaid : Prop := fnExactSignRow.holds Try.pinned (OpenSpec.ofChange fnExactSignSpec)

/-- ITS FALSE NEIGHBOUR: 'it returns false'. Refute it at one input. -/
def fnExactSignWrong : ChangeSpec := { name := "fnExactSign", fn := fun _ => fun
  | [d1, d2] => { results := [.lit (.bool false)], args := [d1, d2] }
  | _ => none }
def FnExactSignWrongFalsely : Prop := fnExactSignRow.holds Try.pinned (OpenSpec.ofChange fnExactSignWrong)

/-- 'laws.FnExactVerifySignature': WHATEVER THE INPUT: true; the input reads as it did. -/
def fnExactVerifySignatureSpec : ChangeSpec := { name := "fnExactVerifySignature", fn := fun _ => fun
  | [d1, d2, d3] => { results := [.lit (.bool true)], args := [d1, d2, d3] }
  | _ => none }
def fnExactVerifySignatureRow : OpenClaim := { program := "ytdiggegoggchjaa", sum := "4917a38c9f74f7939173c48c4265ce5a04ec8cfaf4ed3c09eeac78521233e7d3", func := "loop.example/g00505/laws.FnExactVerifySignature", spec := "fnExactVerifySignature", unfollowed := true, recurses := true, apart := false }
def FnExactVerifySignatureSaid : Prop := fnExactVerifySignatureRow.holds Try.pinned (OpenSpec.ofChange fnExactVerifySignatureSpec)

/-- ITS FALSE NEIGHBOUR: 'it returns false'. Refute it at one input. -/
def fnExactVerifySignatureWrong : ChangeSpec := { name := "fnExactVerifySignature", fn := fun _ => fun
  | [d1, d2, d3] => { results := [.lit (.bool false)], args := [d1, d2, d3] }
  | _ => none }
def FnExactVerifySignatureWrongFalsely : Prop := fnExactVerifySignatureRow.holds Try.pinned (OpenSpec.ofChange fnExactVerifySignatureWrong)

/-- 'laws.FnExactSigners': WHATEVER THE INPUT: true; the input reads as it did. -/
def fnExactSignersSpec : ChangeSpec := { name := "fnExactSigners", fn := fun _ => fun
  | [d1, d2, d3, d4] => { results := [.lit (.bool true)], args := [d1, d2, d3, d4] }
  | _ => none }
def fnExactSignersRow : OpenClaim := { program := "ytdiggegoggchjaa", sum := "4917a38c9f74f7939173c48c4265ce5a04ec8cfaf4ed3c09eeac78521233e7d3", func := "loop.example/g00505/laws.FnExactSigners", spec := "fnExactSigners", unfollowed := true, recurses := true, apart := false }
def FnExactSignersSaid : Prop := fnExactSignersRow.holds Try.pinned (OpenSpec.ofChange fnExactSignersSpec)

/-- ITS FALSE NEIGHBOUR: 'it returns false'. Refute it at one input. -/
def fnExactSignersWrong : ChangeSpec := { name := "fnExactSigners", fn := fun _ => fun
  | [d1, d2, d3, d4] => { results := [.lit (.bool false)], args := [d1, d2, d3, d4] }
  | _ => none }
def FnExactSignersWrongFalsely : Prop := fnExactSignersRow.holds Try.pinned (OpenSpec.ofChange fnExactSignersWrong)

/-- 'laws.FnExactSignAs': WHATEVER THE INPUT: true; the input reads as it did. -/
def fnExactSignAsSpec : ChangeSpec := { name := "fnExactSignAs", fn := fun _ => fun
  | [d1, d2, d3] => { results := [.lit (.bool true)], args := [d1, d2, d3] }
  | _ => none }
def fnExactSignAsRow : OpenClaim := { program := "ytdiggegoggchjaa", sum := "4917a38c9f74f7939173c48c4265ce5a04ec8cfaf4ed3c09eeac78521233e7d3", func := "loop.example/g00505/laws.FnExactSignAs", spec := "fnExactSignAs", unfollowed := true, recurses := true, apart := false }
def FnExactSignAsSaid : Prop := fnExactSignAsRow.holds Try.pinned (OpenSpec.ofChange fnExactSignAsSpec)

/-- ITS FALSE NEIGHBOUR: 'it returns false'. Refute it at one input. -/
def fnExactSignAsWrong : ChangeSpec := { name := "fnExactSignAs", fn := fun _ => fun
  | [d1, d2, d3] => { results := [.lit (.bool false)], args := [d1, d2, d3] }
  | _ => none }
def FnExactSignAsWrongFalsely : Prop := fnExactSignAsRow.holds Try.pinned (OpenSpec.ofChange fnExactSignAsWrong)

/-- 'laws.FnExactAddSignature': WHATEVER THE INPUT: true; the input reads as it did. -/
def fnExactAddSignatureSpec : ChangeSpec := { name := "fnExactAddSignature", fn := fun _ => fun
  | [d1, d2] => { results := [.lit (.bool true)], args := [d1, d2] }
  | _ => none }
def fnExactAddSignatureRow : OpenClaim := { program := "ytdiggegoggchjaa", sum := "4917a38c9f74f7939173c48c4265ce5a04ec8cfaf4ed3c09eeac78521233e7d3", func := "loop.example/g00505/laws.FnExactAddSignature", spec := "fnExactAddSignature", unfollowed := true, recurses := true, apart := false }
def FnExactAddSignatureSaid : Prop := fnExactAddSignatureRow.holds Try.pinned (OpenSpec.ofChange fnExactAddSignatureSpec)

/-- ITS FALSE NEIGHBOUR: 'it returns false'. Refute it at one input. -/
def fnExactAddSignatureWrong : ChangeSpec := { name := "fnExactAddSignature", fn := fun _ => fun
  | [d1, d2] => { results := [.lit (.bool false)], args := [d1, d2] }
  | _ => none }
def FnExactAddSignatureWrongFalsely : Prop := fnExactAddSignatureRow.holds Try.pinned (OpenSpec.ofChange fnExactAddSignatureWrong)

/-- 'laws.FnExactEqualSignatures': WHATEVER THE INPUT: true; the input reads as it did. -/
def fnExactEqualSignaturesSpec : ChangeSpec := { name := "fnExactEqualSignatures", fn := fun _ => fun
  | [d1, d2] => { results := [.lit (.bool true)], args := [d1, d2] }
  | _ => none }
def fnExactEqualSignaturesRow : OpenClaim := { program := "ytdiggegoggchjaa", sum := "4917a38c9f74f7939173c48c4265ce5a04ec8cfaf4ed3c09eeac78521233e7d3", func := "loop.example/g00505/laws.FnExactEqualSignatures", spec := "fnExactEqualSignatures", apart := false }
def FnExactEqualSignaturesSaid : Prop := fnExactEqualSignaturesRow.holds Try.pinned (OpenSpec.ofChange fnExactEqualSignaturesSpec)

/-- ITS FALSE NEIGHBOUR: 'it returns false'. Refute it at one input. -/
def fnExactEqualSignaturesWrong : ChangeSpec := { name := "fnExactEqualSignatures", fn := fun _ => fun
  | [d1, d2] => { results := [.lit (.bool false)], args := [d1, d2] }
  | _ => none }
def FnExactEqualSignaturesWrongFalsely : Prop := fnExactEqualSignaturesRow.holds Try.pinned (OpenSpec.ofChange fnExactEqualSignaturesWrong)

/-- 'laws.FnExactSignedData': WHATEVER THE INPUT: true; the input reads as it did. -/
def fnExactSignedDataSpec : ChangeSpec := { name := "fnExactSignedData", fn := fun _ => fun
  | [d1, d2] => { results := [.lit (.bool true)], args := [d1, d2] }
  | _ => none }
def fnExactSignedDataRow : OpenClaim := { program := "ytdiggegoggchjaa", sum := "4917a38c9f74f7939173c48c4265ce5a04ec8cfaf4ed3c09eeac78521233e7d3", func := "loop.example/g00505/laws.FnExactSignedData", spec := "fnExactSignedData", apart := false }
def FnExactSignedDataSaid : Prop := fnExactSignedDataRow.holds Try.pinned (OpenSpec.ofChange fnExactSignedDataSpec)

/-- ITS FALSE NEIGHBOUR: 'it returns false'. Refute it at one input. -/
def fnExactSignedDataWrong : ChangeSpec := { name := "fnExactSignedData", fn := fun _ => fun
  | [d1, d2] => { results := [.lit (.bool false)], args := [d1, d2] }
  | _ => none }
def FnExactSignedDataWrongFalsely : Prop := fnExactSignedDataRow.holds Try.pinned (OpenSpec.ofChange fnExactSignedDataWrong)

/-- 'laws.FnExactRootData': WHATEVER THE INPUT: true; the input reads as it did. -/
def fnExactRootDataSpec : ChangeSpec := { name := "fnExactRootData", fn := fun _ => fun
  | [d] => { results := [.lit (.bool true)], args := [d] }
  | _ => none }
def fnExactRootDataRow : OpenClaim := { program := "ytdiggegoggchjaa", sum := "4917a38c9f74f7939173c48c4265ce5a04ec8cfaf4ed3c09eeac78521233e7d3", func := "loop.example/g00505/laws.FnExactRootData", spec := "fnExactRootData", apart := false }
def FnExactRootDataSaid : Prop := fnExactRootDataRow.holds Try.pinned (OpenSpec.ofChange fnExactRootDataSpec)

/-- ITS FALSE NEIGHBOUR: 'it returns false'. Refute it at one input. -/
def fnExactRootDataWrong : ChangeSpec := { name := "fnExactRootData", fn := fun _ => fun
  | [d] => { results := [.lit (.bool false)], args := [d] }
  | _ => none }
def FnExactRootDataWrongFalsely : Prop := fnExactRootDataRow.holds Try.pinned (OpenSpec.ofChange fnExactRootDataWrong)

/-- 'laws.FnExactCertificateData': WHATEVER THE INPUT: true; the input reads as it did. -/
def fnExactCertificateDataSpec : ChangeSpec := { name := "fnExactCertificateData", fn := fun _ => fun
  | [d] => { results := [.lit (.bool true)], args := [d] }
  | _ => none }
def fnExactCertificateDataRow : OpenClaim := { program := "ytdiggegoggchjaa", sum := "4917a38c9f74f7939173c48c4265ce5a04ec8cfaf4ed3c09eeac78521233e7d3", func := "loop.example/g00505/laws.FnExactCertificateData", spec := "fnExactCertificateData", apart := false }
def FnExactCertificateDataSaid : Prop := fnExactCertificateDataRow.holds Try.pinned (OpenSpec.ofChange fnExactCertificateDataSpec)

/-- ITS FALSE NEIGHBOUR: 'it returns false'. Refute it at one input. -/
def fnExactCertificateDataWrong : ChangeSpec := { name := "fnExactCertificateData", fn := fun _ => fun
  | [d] => { results := [.lit (.bool false)], args := [d] }
  | _ => none }
def FnExactCertificateDataWrongFalsely : Prop := fnExactCertificateDataRow.holds Try.pinned (OpenSpec.ofChange fnExactCertificateDataWrong)

/- THE SECOND FORM. 'bulk': how many values and letters a reading holds, each counted each time it is reached (what is shared counts as often as it is met; a slice's spare places count too). A statement '..UptoSaid' is the law's where the arguments, and the package variables that the reading takes, are together of bulk at most 1048576: NARROWER than '..Said'. Prove '..Said' where nothing that the law and all that it calls make is longer than what came in: it says more and counts as full. Else prove '..UptoSaid'. A law counts once. -/
mutual
def uptoBulk {H : Type} : DataW H → Nat
  | .lit (.string bytes) => bytes.length + 1
  | .lit _ => 1
  | .nil => 1
  | .ptr d => uptoBulk d + 1
  | .slice elems spare => uptoBulkAll elems + uptoBulkAll spare + 1
  | .agg parts => uptoBulkAll parts + 1
  | .iface _ d => uptoBulk d + 1
  | .map entries => uptoBulkEntries entries + 1
  | .held _ => 1
def uptoBulkAll {H : Type} : List (DataW H) → Nat
  | [] => 0
  | d :: r => uptoBulk d + uptoBulkAll r
def uptoBulkEntries {H : Type} : List (Lit × DataW H) → Nat
  | [] => 0
  | x :: r => uptoBulkEntry x + uptoBulkEntries r
def uptoBulkEntry {H : Type} : Lit × DataW H → Nat
  | (.string bytes, d) => bytes.length + uptoBulk d + 1
  | (_, d) => uptoBulk d + 1
 end
def uptoSmall : (H : Type) → List (DataW H) → Bool := fun _ ds => decide (uptoBulkAll ds ≤ 1048576)
def OpenSpec.upto (s : _root_.Go.ChangeSpec) : _root_.Go.OpenSpec := { _root_.Go.OpenSpec.ofChange s with cond := some uptoSmall }

/-- 'laws.FnExactSign', WHERE WHAT IT READS IS OF BULK AT MOST 1048576: true; the input reads as it did. -/
def fnExactSignUptoRow : OpenClaim := { program := "ytdiggegoggchjaa", sum := "4917a38c9f74f7939173c48c4265ce5a04ec8cfaf4ed3c09eeac78521233e7d3", func := "loop.example/g00505/laws.FnExactSign", spec := "fnExactSign", apart := false, narrowed := true }
def FnExactSignUptoSaid : Prop := fnExactSignUptoRow.holds Try.pinned (OpenSpec.upto fnExactSignSpec)

/-- 'laws.FnExactVerifySignature', WHERE WHAT IT READS IS OF BULK AT MOST 1048576: true; the input reads as it did. -/
def fnExactVerifySignatureUptoRow : OpenClaim := { program := "ytdiggegoggchjaa", sum := "4917a38c9f74f7939173c48c4265ce5a04ec8cfaf4ed3c09eeac78521233e7d3", func := "loop.example/g00505/laws.FnExactVerifySignature", spec := "fnExactVerifySignature", unfollowed := true, recurses := true, apart := false, narrowed := true }
def FnExactVerifySignatureUptoSaid : Prop := fnExactVerifySignatureUptoRow.holds Try.pinned (OpenSpec.upto fnExactVerifySignatureSpec)

/-- 'laws.FnExactSigners', WHERE WHAT IT READS IS OF BULK AT MOST 1048576: true; the input reads as it did. -/
def fnExactSignersUptoRow : OpenClaim := { program := "ytdiggegoggchjaa", sum := "4917a38c9f74f7939173c48c4265ce5a04ec8cfaf4ed3c09eeac78521233e7d3", func := "loop.example/g00505/laws.FnExactSigners", spec := "fnExactSigners", unfollowed := true, recurses := true, apart := false, narrowed := true }
def FnExactSignersUptoSaid : Prop := fnExactSignersUptoRow.holds Try.pinned (OpenSpec.upto fnExactSignersSpec)

/-- 'laws.FnExactSignAs', WHERE WHAT IT READS IS OF BULK AT MOST 1048576: true; the input reads as it did. -/
def fnExactSignAsUptoRow : OpenClaim := { program := "ytdiggegoggchjaa", sum := "4917a38c9f74f7939173c48c4265ce5a04ec8cfaf4ed3c09eeac78521233e7d3", func := "loop.example/g00505/laws.FnExactSignAs", spec := "fnExactSignAs", unfollowed := true, recurses := true, apart := false, narrowed := true }
def FnExactSignAsUptoSaid : Prop := fnExactSignAsUptoRow.holds Try.pinned (OpenSpec.upto fnExactSignAsSpec)

/-- 'laws.FnExactAddSignature', WHERE WHAT IT READS IS OF BULK AT MOST 1048576: true; the input reads as it did. -/
def fnExactAddSignatureUptoRow : OpenClaim := { program := "ytdiggegoggchjaa", sum := "4917a38c9f74f7939173c48c4265ce5a04ec8cfaf4ed3c09eeac78521233e7d3", func := "loop.example/g00505/laws.FnExactAddSignature", spec := "fnExactAddSignature", unfollowed := true, recurses := true, apart := false, narrowed := true }
def FnExactAddSignatureUptoSaid : Prop := fnExactAddSignatureUptoRow.holds Try.pinned (OpenSpec.upto fnExactAddSignatureSpec)

/-- 'laws.FnExactEqualSignatures', WHERE WHAT IT READS IS OF BULK AT MOST 1048576: true; the input reads as it did. -/
def fnExactEqualSignaturesUptoRow : OpenClaim := { program := "ytdiggegoggchjaa", sum := "4917a38c9f74f7939173c48c4265ce5a04ec8cfaf4ed3c09eeac78521233e7d3", func := "loop.example/g00505/laws.FnExactEqualSignatures", spec := "fnExactEqualSignatures", apart := false, narrowed := true }
def FnExactEqualSignaturesUptoSaid : Prop := fnExactEqualSignaturesUptoRow.holds Try.pinned (OpenSpec.upto fnExactEqualSignaturesSpec)

/-- 'laws.FnExactSignedData', WHERE WHAT IT READS IS OF BULK AT MOST 1048576: true; the input reads as it did. -/
def fnExactSignedDataUptoRow : OpenClaim := { program := "ytdiggegoggchjaa", sum := "4917a38c9f74f7939173c48c4265ce5a04ec8cfaf4ed3c09eeac78521233e7d3", func := "loop.example/g00505/laws.FnExactSignedData", spec := "fnExactSignedData", apart := false, narrowed := true }
def FnExactSignedDataUptoSaid : Prop := fnExactSignedDataUptoRow.holds Try.pinned (OpenSpec.upto fnExactSignedDataSpec)

/-- 'laws.FnExactRootData', WHERE WHAT IT READS IS OF BULK AT MOST 1048576: true; the input reads as it did. -/
def fnExactRootDataUptoRow : OpenClaim := { program := "ytdiggegoggchjaa", sum := "4917a38c9f74f7939173c48c4265ce5a04ec8cfaf4ed3c09eeac78521233e7d3", func := "loop.example/g00505/laws.FnExactRootData", spec := "fnExactRootData", apart := false, narrowed := true }
def FnExactRootDataUptoSaid : Prop := fnExactRootDataUptoRow.holds Try.pinned (OpenSpec.upto fnExactRootDataSpec)

/-- 'laws.FnExactCertificateData', WHERE WHAT IT READS IS OF BULK AT MOST 1048576: true; the input reads as it did. -/
def fnExactCertificateDataUptoRow : OpenClaim := { program := "ytdiggegoggchjaa", sum := "4917a38c9f74f7939173c48c4265ce5a04ec8cfaf4ed3c09eeac78521233e7d3", func := "loop.example/g00505/laws.FnExactCertificateData", spec := "fnExactCertificateData", apart := false, narrowed := true }
def FnExactCertificateDataUptoSaid : Prop := fnExactCertificateDataUptoRow.holds Try.pinned (OpenSpec.upto fnExactCertificateDataSpec)

end Rows
end Go.Proofs.Ytdiggegoggchjaa
