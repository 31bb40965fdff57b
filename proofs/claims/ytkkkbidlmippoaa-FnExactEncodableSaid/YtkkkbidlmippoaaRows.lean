/-
  No cell of these rows narrows 'for every input' (looked for: loops, veiled, ifaces, maps, wideKeys, modest, calm, conditions, laid).
  DERIVED. THE GIVEN ROWS OF THIS SEAT. 9 by the template 'for every input the law returns true; each argument reads behind the call as it read before'; 0 by the template 'total and deterministic' (their statements: YtkkkbidlmippoaaTotals.lean).
  GIVEN WITH THE SEED: the statements are not yours to turn. If you find one false, say at which input.
  Laid BY PROGRAM, IN A SANDBOX (cutbox-rows.mjs): the forced cells as the released guide's own fill.sh prints them over the translation df343dae04ba0fd6… (all of the seat's roots in one cut). By AI agents, Wed Nov 11 2026. No macro, syntax, notation, axiom, sorry.
-/
import Derived.Test.YtkkkbidlmippoaaChecked
import GoSem.Claim
import GoSem.ClaimJoined
import GoSem.ClaimMapViews
import Derived.JoinedTies
import Derived.KernelRfl
namespace Go.Proofs.Ytkkkbidlmippoaa
/- THE CELL 'sum', in the pinned program and in every row, IS THE sha256 OF THE DUMP (.gsa) THAT YtkkkbidlmippoaaProg.lean LOADS. Nothing in Lean hashes anything: it is a label: what it is worth is what the hold of that sum in a sandbox is worth. -/
noncomputable def Try.pinned : Pinned := { name := "ytkkkbidlmippoaa", sum := "df343dae04ba0fd6aa68a911f3132beed1dc0e3b65e412bf526d38c92d922c8b", checked := Try.checked }
namespace Rows
def none {H : Type} : Left H := { results := [], args := [] }

/-- 'laws.FnWires': WHATEVER THE INPUT: true; the input reads as it did. -/
def fnWiresSpec : ChangeSpec := { name := "fnWires", fn := fun _ => fun
  | [d] => { results := [.lit (.bool true)], args := [d] }
  | _ => none }
def fnWiresRow : OpenClaim := { program := "ytkkkbidlmippoaa", sum := "df343dae04ba0fd6aa68a911f3132beed1dc0e3b65e412bf526d38c92d922c8b", func := "loop.example/g00505/laws.FnWires", spec := "fnWires", apart := false }
def FnWiresSaid : Prop := fnWiresRow.holds Try.pinned (OpenSpec.ofChange fnWiresSpec)

/-- ITS FALSE NEIGHBOUR: 'it returns false'. Refute it at one input. -/
def fnWiresWrong : ChangeSpec := { name := "fnWires", fn := fun _ => fun
  | [d] => { results := [.lit (.bool false)], args := [d] }
  | _ => none }
def FnWiresWrongFalsely : Prop := fnWiresRow.holds Try.pinned (OpenSpec.ofChange fnWiresWrong)

/-- 'laws.FnWiresBent': WHATEVER THE INPUT: true; the input reads as it did. -/
def fnWiresBentSpec : ChangeSpec := { name := "fnWiresBent", fn := fun _ => fun
  | [d] => { results := [.lit (.bool true)], args := [d] }
  | _ => none }
def fnWiresBentRow : OpenClaim := { program := "ytkkkbidlmippoaa", sum := "df343dae04ba0fd6aa68a911f3132beed1dc0e3b65e412bf526d38c92d922c8b", func := "loop.example/g00505/laws.FnWiresBent", spec := "fnWiresBent", apart := false }
def FnWiresBentSaid : Prop := fnWiresBentRow.holds Try.pinned (OpenSpec.ofChange fnWiresBentSpec)

/-- ITS FALSE NEIGHBOUR: 'it returns false'. Refute it at one input. -/
def fnWiresBentWrong : ChangeSpec := { name := "fnWiresBent", fn := fun _ => fun
  | [d] => { results := [.lit (.bool false)], args := [d] }
  | _ => none }
def FnWiresBentWrongFalsely : Prop := fnWiresBentRow.holds Try.pinned (OpenSpec.ofChange fnWiresBentWrong)

/-- 'laws.FnExactAppendHop': WHATEVER THE INPUT: true; the input reads as it did. -/
def fnExactAppendHopSpec : ChangeSpec := { name := "fnExactAppendHop", fn := fun _ => fun
  | [d1, d2] => { results := [.lit (.bool true)], args := [d1, d2] }
  | _ => none }
def fnExactAppendHopRow : OpenClaim := { program := "ytkkkbidlmippoaa", sum := "df343dae04ba0fd6aa68a911f3132beed1dc0e3b65e412bf526d38c92d922c8b", func := "loop.example/g00505/laws.FnExactAppendHop", spec := "fnExactAppendHop", apart := false }
def FnExactAppendHopSaid : Prop := fnExactAppendHopRow.holds Try.pinned (OpenSpec.ofChange fnExactAppendHopSpec)

/-- ITS FALSE NEIGHBOUR: 'it returns false'. Refute it at one input. -/
def fnExactAppendHopWrong : ChangeSpec := { name := "fnExactAppendHop", fn := fun _ => fun
  | [d1, d2] => { results := [.lit (.bool false)], args := [d1, d2] }
  | _ => none }
def FnExactAppendHopWrongFalsely : Prop := fnExactAppendHopRow.holds Try.pinned (OpenSpec.ofChange fnExactAppendHopWrong)

/-- 'laws.FnExactReadHop': WHATEVER THE INPUT: true; the input reads as it did. -/
def fnExactReadHopSpec : ChangeSpec := { name := "fnExactReadHop", fn := fun _ => fun
  | [d1, d2] => { results := [.lit (.bool true)], args := [d1, d2] }
  | _ => none }
def fnExactReadHopRow : OpenClaim := { program := "ytkkkbidlmippoaa", sum := "df343dae04ba0fd6aa68a911f3132beed1dc0e3b65e412bf526d38c92d922c8b", func := "loop.example/g00505/laws.FnExactReadHop", spec := "fnExactReadHop", apart := false }
def FnExactReadHopSaid : Prop := fnExactReadHopRow.holds Try.pinned (OpenSpec.ofChange fnExactReadHopSpec)

/-- ITS FALSE NEIGHBOUR: 'it returns false'. Refute it at one input. -/
def fnExactReadHopWrong : ChangeSpec := { name := "fnExactReadHop", fn := fun _ => fun
  | [d1, d2] => { results := [.lit (.bool false)], args := [d1, d2] }
  | _ => none }
def FnExactReadHopWrongFalsely : Prop := fnExactReadHopRow.holds Try.pinned (OpenSpec.ofChange fnExactReadHopWrong)

/-- 'laws.FnExactAppendSegment': WHATEVER THE INPUT: true; the input reads as it did. -/
def fnExactAppendSegmentSpec : ChangeSpec := { name := "fnExactAppendSegment", fn := fun _ => fun
  | [d1, d2] => { results := [.lit (.bool true)], args := [d1, d2] }
  | _ => none }
def fnExactAppendSegmentRow : OpenClaim := { program := "ytkkkbidlmippoaa", sum := "df343dae04ba0fd6aa68a911f3132beed1dc0e3b65e412bf526d38c92d922c8b", func := "loop.example/g00505/laws.FnExactAppendSegment", spec := "fnExactAppendSegment", apart := false }
def FnExactAppendSegmentSaid : Prop := fnExactAppendSegmentRow.holds Try.pinned (OpenSpec.ofChange fnExactAppendSegmentSpec)

/-- ITS FALSE NEIGHBOUR: 'it returns false'. Refute it at one input. -/
def fnExactAppendSegmentWrong : ChangeSpec := { name := "fnExactAppendSegment", fn := fun _ => fun
  | [d1, d2] => { results := [.lit (.bool false)], args := [d1, d2] }
  | _ => none }
def FnExactAppendSegmentWrongFalsely : Prop := fnExactAppendSegmentRow.holds Try.pinned (OpenSpec.ofChange fnExactAppendSegmentWrong)

/-- 'laws.FnExactReadSegment': WHATEVER THE INPUT: true; the input reads as it did. -/
def fnExactReadSegmentSpec : ChangeSpec := { name := "fnExactReadSegment", fn := fun _ => fun
  | [d1, d2] => { results := [.lit (.bool true)], args := [d1, d2] }
  | _ => none }
def fnExactReadSegmentRow : OpenClaim := { program := "ytkkkbidlmippoaa", sum := "df343dae04ba0fd6aa68a911f3132beed1dc0e3b65e412bf526d38c92d922c8b", func := "loop.example/g00505/laws.FnExactReadSegment", spec := "fnExactReadSegment", apart := false }
def FnExactReadSegmentSaid : Prop := fnExactReadSegmentRow.holds Try.pinned (OpenSpec.ofChange fnExactReadSegmentSpec)

/-- ITS FALSE NEIGHBOUR: 'it returns false'. Refute it at one input. -/
def fnExactReadSegmentWrong : ChangeSpec := { name := "fnExactReadSegment", fn := fun _ => fun
  | [d1, d2] => { results := [.lit (.bool false)], args := [d1, d2] }
  | _ => none }
def FnExactReadSegmentWrongFalsely : Prop := fnExactReadSegmentRow.holds Try.pinned (OpenSpec.ofChange fnExactReadSegmentWrong)

/-- 'laws.FnExactSegmentID': WHATEVER THE INPUT: true; the input reads as it did. -/
def fnExactSegmentIDSpec : ChangeSpec := { name := "fnExactSegmentID", fn := fun _ => fun
  | [d] => { results := [.lit (.bool true)], args := [d] }
  | _ => none }
def fnExactSegmentIDRow : OpenClaim := { program := "ytkkkbidlmippoaa", sum := "df343dae04ba0fd6aa68a911f3132beed1dc0e3b65e412bf526d38c92d922c8b", func := "loop.example/g00505/laws.FnExactSegmentID", spec := "fnExactSegmentID", apart := false }
def FnExactSegmentIDSaid : Prop := fnExactSegmentIDRow.holds Try.pinned (OpenSpec.ofChange fnExactSegmentIDSpec)

/-- ITS FALSE NEIGHBOUR: 'it returns false'. Refute it at one input. -/
def fnExactSegmentIDWrong : ChangeSpec := { name := "fnExactSegmentID", fn := fun _ => fun
  | [d] => { results := [.lit (.bool false)], args := [d] }
  | _ => none }
def FnExactSegmentIDWrongFalsely : Prop := fnExactSegmentIDRow.holds Try.pinned (OpenSpec.ofChange fnExactSegmentIDWrong)

/-- 'laws.FnExactSegmentSize': WHATEVER THE INPUT: true; the input reads as it did. -/
def fnExactSegmentSizeSpec : ChangeSpec := { name := "fnExactSegmentSize", fn := fun _ => fun
  | [d] => { results := [.lit (.bool true)], args := [d] }
  | _ => none }
def fnExactSegmentSizeRow : OpenClaim := { program := "ytkkkbidlmippoaa", sum := "df343dae04ba0fd6aa68a911f3132beed1dc0e3b65e412bf526d38c92d922c8b", func := "loop.example/g00505/laws.FnExactSegmentSize", spec := "fnExactSegmentSize", apart := false }
def FnExactSegmentSizeSaid : Prop := fnExactSegmentSizeRow.holds Try.pinned (OpenSpec.ofChange fnExactSegmentSizeSpec)

/-- ITS FALSE NEIGHBOUR: 'it returns false'. Refute it at one input. -/
def fnExactSegmentSizeWrong : ChangeSpec := { name := "fnExactSegmentSize", fn := fun _ => fun
  | [d] => { results := [.lit (.bool false)], args := [d] }
  | _ => none }
def FnExactSegmentSizeWrongFalsely : Prop := fnExactSegmentSizeRow.holds Try.pinned (OpenSpec.ofChange fnExactSegmentSizeWrong)

/-- 'laws.FnExactEncodable': WHATEVER THE INPUT: true; the input reads as it did. -/
def fnExactEncodableSpec : ChangeSpec := { name := "fnExactEncodable", fn := fun _ => fun
  | [d] => { results := [.lit (.bool true)], args := [d] }
  | _ => none }
def fnExactEncodableRow : OpenClaim := { program := "ytkkkbidlmippoaa", sum := "df343dae04ba0fd6aa68a911f3132beed1dc0e3b65e412bf526d38c92d922c8b", func := "loop.example/g00505/laws.FnExactEncodable", spec := "fnExactEncodable", apart := false }
def FnExactEncodableSaid : Prop := fnExactEncodableRow.holds Try.pinned (OpenSpec.ofChange fnExactEncodableSpec)

/-- ITS FALSE NEIGHBOUR: 'it returns false'. Refute it at one input. -/
def fnExactEncodableWrong : ChangeSpec := { name := "fnExactEncodable", fn := fun _ => fun
  | [d] => { results := [.lit (.bool false)], args := [d] }
  | _ => none }
def FnExactEncodableWrongFalsely : Prop := fnExactEncodableRow.holds Try.pinned (OpenSpec.ofChange fnExactEncodableWrong)

/- THE SECOND FORM. 'bulk': how many values and letters a reading holds, each counted each time it is reached (what is shared counts as often as it is met; a slice's spare places count too). A statement '..UptoSaid' is the law's where the arguments, and the package variables that the reading takes, are together of bulk at most 1048576: NARROWER than '..Said'. Prove '..Said' where nothing that the law and all that it calls make is longer than what came in: it says more and counts as full. Else prove '..UptoSaid'. A law counts once. -/
mutual
def uptoBulk {H : Type} : DataW H → Nat
  | .lit (.string bytes) => bytes.length + 1
  | .lit _ => 1
  | .nil => 1
  | .ptr d => uptoBulk d + 1
  | .slice elems spare => uptoBulkAll elems + uptoBulkAll spare + 1
  | .agg parts => uptoBulkAll parts + 1
  | .iface _ d => uptoBulk d + 1
  | .map entries => uptoBulkEntries entries + 1
  | .held _ => 1
def uptoBulkAll {H : Type} : List (DataW H) → Nat
  | [] => 0
  | d :: r => uptoBulk d + uptoBulkAll r
def uptoBulkEntries {H : Type} : List (Lit × DataW H) → Nat
  | [] => 0
  | x :: r => uptoBulkEntry x + uptoBulkEntries r
def uptoBulkEntry {H : Type} : Lit × DataW H → Nat
  | (.string bytes, d) => bytes.length + uptoBulk d + 1
  | (_, d) => uptoBulk d + 1
 end
def uptoSmall : (H : Type) → List (DataW H) → Bool := fun _ ds => decide (uptoBulkAll ds ≤ 1048576)
def OpenSpec.upto (s : _root_.Go.ChangeSpec) : _root_.Go.OpenSpec := { _root_.Go.OpenSpec.ofChange s with cond := some uptoSmall }

/-- 'laws.FnWires', WHERE WHAT IT READS IS OF BULK AT MOST 1048576: true; the input reads as it did. -/
def fnWiresUptoRow : OpenClaim := { program := "ytkkkbidlmippoaa", sum := "df343dae04ba0fd6aa68a911f3132beed1dc0e3b65e412bf526d38c92d922c8b", func := "loop.example/g00505/laws.FnWires", spec := "fnWires", apart := false, narrowed := true }
def FnWiresUptoSaid : Prop := fnWiresUptoRow.holds Try.pinned (OpenSpec.upto fnWiresSpec)

/-- 'laws.FnWiresBent', WHERE WHAT IT READS IS OF BULK AT MOST 1048576: true; the input reads as it did. -/
def fnWiresBentUptoRow : OpenClaim := { program := "ytkkkbidlmippoaa", sum := "df343dae04ba0fd6aa68a911f3132beed1dc0e3b65e412bf526d38c92d922c8b", func := "loop.example/g00505/laws.FnWiresBent", spec := "fnWiresBent", apart := false, narrowed := true }
def FnWiresBentUptoSaid : Prop := fnWiresBentUptoRow.holds Try.pinned (OpenSpec.upto fnWiresBentSpec)

/-- 'laws.FnExactAppendHop', WHERE WHAT IT READS IS OF BULK AT MOST 1048576: true; the input reads as it did. -/
def fnExactAppendHopUptoRow : OpenClaim := { program := "ytkkkbidlmippoaa", sum := "df343dae04ba0fd6aa68a911f3132beed1dc0e3b65e412bf526d38c92d922c8b", func := "loop.example/g00505/laws.FnExactAppendHop", spec := "fnExactAppendHop", apart := false, narrowed := true }
def FnExactAppendHopUptoSaid : Prop := fnExactAppendHopUptoRow.holds Try.pinned (OpenSpec.upto fnExactAppendHopSpec)

/-- 'laws.FnExactReadHop', WHERE WHAT IT READS IS OF BULK AT MOST 1048576: true; the input reads as it did. -/
def fnExactReadHopUptoRow : OpenClaim := { program := "ytkkkbidlmippoaa", sum := "df343dae04ba0fd6aa68a911f3132beed1dc0e3b65e412bf526d38c92d922c8b", func := "loop.example/g00505/laws.FnExactReadHop", spec := "fnExactReadHop", apart := false, narrowed := true }
def FnExactReadHopUptoSaid : Prop := fnExactReadHopUptoRow.holds Try.pinned (OpenSpec.upto fnExactReadHopSpec)

/-- 'laws.FnExactAppendSegment', WHERE WHAT IT READS IS OF BULK AT MOST 1048576: true; the input reads as it did. -/
def fnExactAppendSegmentUptoRow : OpenClaim := { program := "ytkkkbidlmippoaa", sum := "df343dae04ba0fd6aa68a911f3132beed1dc0e3b65e412bf526d38c92d922c8b", func := "loop.example/g00505/laws.FnExactAppendSegment", spec := "fnExactAppendSegment", apart := false, narrowed := true }
def FnExactAppendSegmentUptoSaid : Prop := fnExactAppendSegmentUptoRow.holds Try.pinned (OpenSpec.upto fnExactAppendSegmentSpec)

/-- 'laws.FnExactReadSegment', WHERE WHAT IT READS IS OF BULK AT MOST 1048576: true; the input reads as it did. -/
def fnExactReadSegmentUptoRow : OpenClaim := { program := "ytkkkbidlmippoaa", sum := "df343dae04ba0fd6aa68a911f3132beed1dc0e3b65e412bf526d38c92d922c8b", func := "loop.example/g00505/laws.FnExactReadSegment", spec := "fnExactReadSegment", apart := false, narrowed := true }
def FnExactReadSegmentUptoSaid : Prop := fnExactReadSegmentUptoRow.holds Try.pinned (OpenSpec.upto fnExactReadSegmentSpec)

/-- 'laws.FnExactSegmentID', WHERE WHAT IT READS IS OF BULK AT MOST 1048576: true; the input reads as it did. -/
def fnExactSegmentIDUptoRow : OpenClaim := { program := "ytkkkbidlmippoaa", sum := "df343dae04ba0fd6aa68a911f3132beed1dc0e3b65e412bf526d38c92d922c8b", func := "loop.example/g00505/laws.FnExactSegmentID", spec := "fnExactSegmentID", apart := false, narrowed := true }
def FnExactSegmentIDUptoSaid : Prop := fnExactSegmentIDUptoRow.holds Try.pinned (OpenSpec.upto fnExactSegmentIDSpec)

/-- 'laws.FnExactSegmentSize', WHERE WHAT IT READS IS OF BULK AT MOST 1048576: true; the input reads as it did. -/
def fnExactSegmentSizeUptoRow : OpenClaim := { program := "ytkkkbidlmippoaa", sum := "df343dae04ba0fd6aa68a911f3132beed1dc0e3b65e412bf526d38c92d922c8b", func := "loop.example/g00505/laws.FnExactSegmentSize", spec := "fnExactSegmentSize", apart := false, narrowed := true }
def FnExactSegmentSizeUptoSaid : Prop := fnExactSegmentSizeUptoRow.holds Try.pinned (OpenSpec.upto fnExactSegmentSizeSpec)

/-- 'laws.FnExactEncodable', WHERE WHAT IT READS IS OF BULK AT MOST 1048576: true; the input reads as it did. -/
def fnExactEncodableUptoRow : OpenClaim := { program := "ytkkkbidlmippoaa", sum := "df343dae04ba0fd6aa68a911f3132beed1dc0e3b65e412bf526d38c92d922c8b", func := "loop.example/g00505/laws.FnExactEncodable", spec := "fnExactEncodable", apart := false, narrowed := true }
def FnExactEncodableUptoSaid : Prop := fnExactEncodableUptoRow.holds Try.pinned (OpenSpec.upto fnExactEncodableSpec)

end Rows
end Go.Proofs.Ytkkkbidlmippoaa
