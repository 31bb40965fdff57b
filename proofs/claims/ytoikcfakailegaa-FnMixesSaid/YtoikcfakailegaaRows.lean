/-
  No cell of these rows narrows 'for every input' (looked for: loops, veiled, ifaces, maps, wideKeys, modest, calm, conditions, laid).
  DERIVED. THE GIVEN ROWS OF THIS SEAT. 11 by the template 'for every input the law returns true; each argument reads behind the call as it read before'; 0 by the template 'total and deterministic' (their statements: YtoikcfakailegaaTotals.lean).
  GIVEN WITH THE SEED: the statements are not yours to turn. If you find one false, say at which input.
  Laid BY PROGRAM, IN A SANDBOX (cutbox-rows.mjs): the forced cells as the released guide's own fill.sh prints them over the translation eb11c47f99e58d74… (all of the seat's roots in one cut). By AI agents, Wed Nov 11 2026. No macro, syntax, notation, axiom, sorry.
-/
import Derived.Test.YtoikcfakailegaaChecked
import GoSem.Claim
import GoSem.ClaimJoined
import GoSem.ClaimMapViews
import Derived.JoinedTies
import Derived.KernelRfl
namespace Go.Proofs.Ytoikcfakailegaa
/- THE CELL 'sum', in the pinned program and in every row, IS THE sha256 OF THE DUMP (.gsa) THAT YtoikcfakailegaaProg.lean LOADS. Nothing in Lean hashes anything: it is a label: what it is worth is what the hold of that sum in a sandbox is worth. -/
noncomputable def Try.pinned : Pinned := { name := "ytoikcfakailegaa", sum := "eb11c47f99e58d74fe6d4edaef018c52c253c8db49ba5094712633d514faa1e3", checked := Try.checked }
namespace Rows
def none {H : Type} : Left H := { results := [], args := [] }

/-- 'laws.FnMixes': WHATEVER THE INPUT: true; the input reads as it did. -/
def fnMixesSpec : ChangeSpec := { name := "fnMixes", fn := fun _ => fun
  | [d] => { results := [.lit (.bool true)], args := [d] }
  | _ => none }
def fnMixesRow : OpenClaim := { program := "ytoikcfakailegaa", sum := "eb11c47f99e58d74fe6d4edaef018c52c253c8db49ba5094712633d514faa1e3", func := "loop.example/g00505/laws.FnMixes", spec := "fnMixes", apart := false }
def FnMixesSaid : Prop := fnMixesRow.holds Try.pinned (OpenSpec.ofChange fnMixesSpec)

/-- ITS FALSE NEIGHBOUR: 'it returns false'. Refute it at one input. -/
def fnMixesWrong : ChangeSpec := { name := "fnMixes", fn := fun _ => fun
  | [d] => { results := [.lit (.bool false)], args := [d] }
  | _ => none }
def FnMixesWrongFalsely : Prop := fnMixesRow.holds Try.pinned (OpenSpec.ofChange fnMixesWrong)

/-- 'laws.FnMacs': WHATEVER THE INPUT: true; the input reads as it did. -/
def fnMacsSpec : ChangeSpec := { name := "fnMacs", fn := fun _ => fun
  | [d] => { results := [.lit (.bool true)], args := [d] }
  | _ => none }
def fnMacsRow : OpenClaim := { program := "ytoikcfakailegaa", sum := "eb11c47f99e58d74fe6d4edaef018c52c253c8db49ba5094712633d514faa1e3", func := "loop.example/g00505/laws.FnMacs", spec := "fnMacs", apart := false }
def FnMacsSaid : Prop := fnMacsRow.holds Try.pinned (OpenSpec.ofChange fnMacsSpec)

/-- ITS FALSE NEIGHBOUR: 'it returns false'. Refute it at one input. -/
def fnMacsWrong : ChangeSpec := { name := "fnMacs", fn := fun _ => fun
  | [d] => { results := [.lit (.bool false)], args := [d] }
  | _ => none }
def FnMacsWrongFalsely : Prop := fnMacsRow.holds Try.pinned (OpenSpec.ofChange fnMacsWrong)

/-- 'laws.FnChains': WHATEVER THE INPUT: true; the input reads as it did. -/
def fnChainsSpec : ChangeSpec := { name := "fnChains", fn := fun _ => fun
  | [d] => { results := [.lit (.bool true)], args := [d] }
  | _ => none }
def fnChainsRow : OpenClaim := { program := "ytoikcfakailegaa", sum := "eb11c47f99e58d74fe6d4edaef018c52c253c8db49ba5094712633d514faa1e3", func := "loop.example/g00505/laws.FnChains", spec := "fnChains", unfollowed := true, recurses := true, apart := false }
def FnChainsSaid : Prop := fnChainsRow.holds Try.pinned (OpenSpec.ofChange fnChainsSpec)

/-- ITS FALSE NEIGHBOUR: 'it returns false'. Refute it at one input. -/
def fnChainsWrong : ChangeSpec := { name := "fnChains", fn := fun _ => fun
  | [d] => { results := [.lit (.bool false)], args := [d] }
  | _ => none }
def FnChainsWrongFalsely : Prop := fnChainsRow.holds Try.pinned (OpenSpec.ofChange fnChainsWrong)

/-- 'laws.FnExactAddMod': WHATEVER THE INPUT: true; the input reads as it did. -/
def fnExactAddModSpec : ChangeSpec := { name := "fnExactAddMod", fn := fun _ => fun
  | [d1, d2] => { results := [.lit (.bool true)], args := [d1, d2] }
  | _ => none }
def fnExactAddModRow : OpenClaim := { program := "ytoikcfakailegaa", sum := "eb11c47f99e58d74fe6d4edaef018c52c253c8db49ba5094712633d514faa1e3", func := "loop.example/g00505/laws.FnExactAddMod", spec := "fnExactAddMod", apart := false }
def FnExactAddModSaid : Prop := fnExactAddModRow.holds Try.pinned (OpenSpec.ofChange fnExactAddModSpec)

/-- ITS FALSE NEIGHBOUR: 'it returns false'. Refute it at one input. -/
def fnExactAddModWrong : ChangeSpec := { name := "fnExactAddMod", fn := fun _ => fun
  | [d1, d2] => { results := [.lit (.bool false)], args := [d1, d2] }
  | _ => none }
def FnExactAddModWrongFalsely : Prop := fnExactAddModRow.holds Try.pinned (OpenSpec.ofChange fnExactAddModWrong)

/-- 'laws.FnExactSubMod': WHATEVER THE INPUT: true; the input reads as it did. -/
def fnExactSubModSpec : ChangeSpec := { name := "fnExactSubMod", fn := fun _ => fun
  | [d1, d2] => { results := [.lit (.bool true)], args := [d1, d2] }
  | _ => none }
def fnExactSubModRow : OpenClaim := { program := "ytoikcfakailegaa", sum := "eb11c47f99e58d74fe6d4edaef018c52c253c8db49ba5094712633d514faa1e3", func := "loop.example/g00505/laws.FnExactSubMod", spec := "fnExactSubMod", apart := false }
def FnExactSubModSaid : Prop := fnExactSubModRow.holds Try.pinned (OpenSpec.ofChange fnExactSubModSpec)

/-- ITS FALSE NEIGHBOUR: 'it returns false'. Refute it at one input. -/
def fnExactSubModWrong : ChangeSpec := { name := "fnExactSubMod", fn := fun _ => fun
  | [d1, d2] => { results := [.lit (.bool false)], args := [d1, d2] }
  | _ => none }
def FnExactSubModWrongFalsely : Prop := fnExactSubModRow.holds Try.pinned (OpenSpec.ofChange fnExactSubModWrong)

/-- 'laws.FnExactDigest': WHATEVER THE INPUT: true; the input reads as it did. -/
def fnExactDigestSpec : ChangeSpec := { name := "fnExactDigest", fn := fun _ => fun
  | [d] => { results := [.lit (.bool true)], args := [d] }
  | _ => none }
def fnExactDigestRow : OpenClaim := { program := "ytoikcfakailegaa", sum := "eb11c47f99e58d74fe6d4edaef018c52c253c8db49ba5094712633d514faa1e3", func := "loop.example/g00505/laws.FnExactDigest", spec := "fnExactDigest", apart := false }
def FnExactDigestSaid : Prop := fnExactDigestRow.holds Try.pinned (OpenSpec.ofChange fnExactDigestSpec)

/-- ITS FALSE NEIGHBOUR: 'it returns false'. Refute it at one input. -/
def fnExactDigestWrong : ChangeSpec := { name := "fnExactDigest", fn := fun _ => fun
  | [d] => { results := [.lit (.bool false)], args := [d] }
  | _ => none }
def FnExactDigestWrongFalsely : Prop := fnExactDigestRow.holds Try.pinned (OpenSpec.ofChange fnExactDigestWrong)

/-- 'laws.FnExactComputeMAC': WHATEVER THE INPUT: true; the input reads as it did. -/
def fnExactComputeMACSpec : ChangeSpec := { name := "fnExactComputeMAC", fn := fun _ => fun
  | [d1, d2] => { results := [.lit (.bool true)], args := [d1, d2] }
  | _ => none }
def fnExactComputeMACRow : OpenClaim := { program := "ytoikcfakailegaa", sum := "eb11c47f99e58d74fe6d4edaef018c52c253c8db49ba5094712633d514faa1e3", func := "loop.example/g00505/laws.FnExactComputeMAC", spec := "fnExactComputeMAC", apart := false }
def FnExactComputeMACSaid : Prop := fnExactComputeMACRow.holds Try.pinned (OpenSpec.ofChange fnExactComputeMACSpec)

/-- ITS FALSE NEIGHBOUR: 'it returns false'. Refute it at one input. -/
def fnExactComputeMACWrong : ChangeSpec := { name := "fnExactComputeMAC", fn := fun _ => fun
  | [d1, d2] => { results := [.lit (.bool false)], args := [d1, d2] }
  | _ => none }
def FnExactComputeMACWrongFalsely : Prop := fnExactComputeMACRow.holds Try.pinned (OpenSpec.ofChange fnExactComputeMACWrong)

/-- 'laws.FnExactValidKey': WHATEVER THE INPUT: true; the input reads as it did. -/
def fnExactValidKeySpec : ChangeSpec := { name := "fnExactValidKey", fn := fun _ => fun
  | [d] => { results := [.lit (.bool true)], args := [d] }
  | _ => none }
def fnExactValidKeyRow : OpenClaim := { program := "ytoikcfakailegaa", sum := "eb11c47f99e58d74fe6d4edaef018c52c253c8db49ba5094712633d514faa1e3", func := "loop.example/g00505/laws.FnExactValidKey", spec := "fnExactValidKey", apart := false }
def FnExactValidKeySaid : Prop := fnExactValidKeyRow.holds Try.pinned (OpenSpec.ofChange fnExactValidKeySpec)

/-- ITS FALSE NEIGHBOUR: 'it returns false'. Refute it at one input. -/
def fnExactValidKeyWrong : ChangeSpec := { name := "fnExactValidKey", fn := fun _ => fun
  | [d] => { results := [.lit (.bool false)], args := [d] }
  | _ => none }
def FnExactValidKeyWrongFalsely : Prop := fnExactValidKeyRow.holds Try.pinned (OpenSpec.ofChange fnExactValidKeyWrong)

/-- 'laws.FnExactChainAdd': WHATEVER THE INPUT: true; the input reads as it did. -/
def fnExactChainAddSpec : ChangeSpec := { name := "fnExactChainAdd", fn := fun _ => fun
  | [d1, d2] => { results := [.lit (.bool true)], args := [d1, d2] }
  | _ => none }
def fnExactChainAddRow : OpenClaim := { program := "ytoikcfakailegaa", sum := "eb11c47f99e58d74fe6d4edaef018c52c253c8db49ba5094712633d514faa1e3", func := "loop.example/g00505/laws.FnExactChainAdd", spec := "fnExactChainAdd", apart := false }
def FnExactChainAddSaid : Prop := fnExactChainAddRow.holds Try.pinned (OpenSpec.ofChange fnExactChainAddSpec)

/-- ITS FALSE NEIGHBOUR: 'it returns false'. Refute it at one input. -/
def fnExactChainAddWrong : ChangeSpec := { name := "fnExactChainAdd", fn := fun _ => fun
  | [d1, d2] => { results := [.lit (.bool false)], args := [d1, d2] }
  | _ => none }
def FnExactChainAddWrongFalsely : Prop := fnExactChainAddRow.holds Try.pinned (OpenSpec.ofChange fnExactChainAddWrong)

/-- 'laws.FnExactChainSub': WHATEVER THE INPUT: true; the input reads as it did. -/
def fnExactChainSubSpec : ChangeSpec := { name := "fnExactChainSub", fn := fun _ => fun
  | [d1, d2] => { results := [.lit (.bool true)], args := [d1, d2] }
  | _ => none }
def fnExactChainSubRow : OpenClaim := { program := "ytoikcfakailegaa", sum := "eb11c47f99e58d74fe6d4edaef018c52c253c8db49ba5094712633d514faa1e3", func := "loop.example/g00505/laws.FnExactChainSub", spec := "fnExactChainSub", unfollowed := true, recurses := true, apart := false }
def FnExactChainSubSaid : Prop := fnExactChainSubRow.holds Try.pinned (OpenSpec.ofChange fnExactChainSubSpec)

/-- ITS FALSE NEIGHBOUR: 'it returns false'. Refute it at one input. -/
def fnExactChainSubWrong : ChangeSpec := { name := "fnExactChainSub", fn := fun _ => fun
  | [d1, d2] => { results := [.lit (.bool false)], args := [d1, d2] }
  | _ => none }
def FnExactChainSubWrongFalsely : Prop := fnExactChainSubRow.holds Try.pinned (OpenSpec.ofChange fnExactChainSubWrong)

/-- 'laws.FnExactEqualInts': WHATEVER THE INPUT: true; the input reads as it did. -/
def fnExactEqualIntsSpec : ChangeSpec := { name := "fnExactEqualInts", fn := fun _ => fun
  | [d1, d2] => { results := [.lit (.bool true)], args := [d1, d2] }
  | _ => none }
def fnExactEqualIntsRow : OpenClaim := { program := "ytoikcfakailegaa", sum := "eb11c47f99e58d74fe6d4edaef018c52c253c8db49ba5094712633d514faa1e3", func := "loop.example/g00505/laws.FnExactEqualInts", spec := "fnExactEqualInts", apart := false }
def FnExactEqualIntsSaid : Prop := fnExactEqualIntsRow.holds Try.pinned (OpenSpec.ofChange fnExactEqualIntsSpec)

/-- ITS FALSE NEIGHBOUR: 'it returns false'. Refute it at one input. -/
def fnExactEqualIntsWrong : ChangeSpec := { name := "fnExactEqualInts", fn := fun _ => fun
  | [d1, d2] => { results := [.lit (.bool false)], args := [d1, d2] }
  | _ => none }
def FnExactEqualIntsWrongFalsely : Prop := fnExactEqualIntsRow.holds Try.pinned (OpenSpec.ofChange fnExactEqualIntsWrong)

/- THE SECOND FORM. 'bulk': how many values and letters a reading holds, each counted each time it is reached (what is shared counts as often as it is met; a slice's spare places count too). A statement '..UptoSaid' is the law's where the arguments, and the package variables that the reading takes, are together of bulk at most 1048576: NARROWER than '..Said'. Prove '..Said' where nothing that the law and all that it calls make is longer than what came in: it says more and counts as full. Else prove '..UptoSaid'. A law counts once. -/
mutual
def uptoBulk {H : Type} : DataW H → Nat
  | .lit (.string bytes) => bytes.length + 1
  | .lit _ => 1
  | .nil => 1
  | .ptr d => uptoBulk d + 1
  | .slice elems spare => uptoBulkAll elems + uptoBulkAll spare + 1
  | .agg parts => uptoBulkAll parts + 1
  | .iface _ d => uptoBulk d + 1
  | .map entries => uptoBulkEntries entries + 1
  | .held _ => 1
def uptoBulkAll {H : Type} : List (DataW H) → Nat
  | [] => 0
  | d :: r => uptoBulk d + uptoBulkAll r
def uptoBulkEntries {H : Type} : List (Lit × DataW H) → Nat
  | [] => 0
  | x :: r => uptoBulkEntry x + uptoBulkEntries r
def uptoBulkEntry {H : Type} : Lit × DataW H → Nat
  | (.string bytes, d) => bytes.length + uptoBulk d + 1
  | (_, d) => uptoBulk d + 1
 end
def uptoSmall : (H : Type) → List (DataW H) → Bool := fun _ ds => decide (uptoBulkAll ds ≤ 1048576)
def OpenSpec.upto (s : _root_.Go.ChangeSpec) : _root_.Go.OpenSpec := { _root_.Go.OpenSpec.ofChange s with cond := some uptoSmall }

/-- 'laws.FnMixes', WHERE WHAT IT READS IS OF BULK AT MOST 1048576: true; the input reads as it did. -/
def fnMixesUptoRow : OpenClaim := { program := "ytoikcfakailegaa", sum := "eb11c47f99e58d74fe6d4edaef018c52c253c8db49ba5094712633d514faa1e3", func := "loop.example/g00505/laws.FnMixes", spec := "fnMixes", apart := false, narrowed := true }
def FnMixesUptoSaid : Prop := fnMixesUptoRow.holds Try.pinned (OpenSpec.upto fnMixesSpec)

/-- 'laws.FnMacs', WHERE WHAT IT READS IS OF BULK AT MOST 1048576: true; the input reads as it did. -/
def fnMacsUptoRow : OpenClaim := { program := "ytoikcfakailegaa", sum := "eb11c47f99e58d74fe6d4edaef018c52c253c8db49ba5094712633d514faa1e3", func := "loop.example/g00505/laws.FnMacs", spec := "fnMacs", apart := false, narrowed := true }
def FnMacsUptoSaid : Prop := fnMacsUptoRow.holds Try.pinned (OpenSpec.upto fnMacsSpec)

/-- 'laws.FnChains', WHERE WHAT IT READS IS OF BULK AT MOST 1048576: true; the input reads as it did. -/
def fnChainsUptoRow : OpenClaim := { program := "ytoikcfakailegaa", sum := "eb11c47f99e58d74fe6d4edaef018c52c253c8db49ba5094712633d514faa1e3", func := "loop.example/g00505/laws.FnChains", spec := "fnChains", unfollowed := true, recurses := true, apart := false, narrowed := true }
def FnChainsUptoSaid : Prop := fnChainsUptoRow.holds Try.pinned (OpenSpec.upto fnChainsSpec)

/-- 'laws.FnExactAddMod', WHERE WHAT IT READS IS OF BULK AT MOST 1048576: true; the input reads as it did. -/
def fnExactAddModUptoRow : OpenClaim := { program := "ytoikcfakailegaa", sum := "eb11c47f99e58d74fe6d4edaef018c52c253c8db49ba5094712633d514faa1e3", func := "loop.example/g00505/laws.FnExactAddMod", spec := "fnExactAddMod", apart := false, narrowed := true }
def FnExactAddModUptoSaid : Prop := fnExactAddModUptoRow.holds Try.pinned (OpenSpec.upto fnExactAddModSpec)

/-- 'laws.FnExactSubMod', WHERE WHAT IT READS IS OF BULK AT MOST 1048576: true; the input reads as it did. -/
def fnExactSubModUptoRow : OpenClaim := { program := "ytoikcfakailegaa", sum := "eb11c47f99e58d74fe6d4edaef018c52c253c8db49ba5094712633d514faa1e3", func := "loop.example/g00505/laws.FnExactSubMod", spec := "fnExactSubMod", apart := false, narrowed := true }
def FnExactSubModUptoSaid : Prop := fnExactSubModUptoRow.holds Try.pinned (OpenSpec.upto fnExactSubModSpec)

/-- 'laws.FnExactDigest', WHERE WHAT IT READS IS OF BULK AT MOST 1048576: true; the input reads as it did. -/
def fnExactDigestUptoRow : OpenClaim := { program := "ytoikcfakailegaa", sum := "eb11c47f99e58d74fe6d4edaef018c52c253c8db49ba5094712633d514faa1e3", func := "loop.example/g00505/laws.FnExactDigest", spec := "fnExactDigest", apart := false, narrowed := true }
def FnExactDigestUptoSaid : Prop := fnExactDigestUptoRow.holds Try.pinned (OpenSpec.upto fnExactDigestSpec)

/-- 'laws.FnExactComputeMAC', WHERE WHAT IT READS IS OF BULK AT MOST 1048576: true; the input reads as it did. -/
def fnExactComputeMACUptoRow : OpenClaim := { program := "ytoikcfakailegaa", sum := "eb11c47f99e58d74fe6d4edaef018c52c253c8db49ba5094712633d514faa1e3", func := "loop.example/g00505/laws.FnExactComputeMAC", spec := "fnExactComputeMAC", apart := false, narrowed := true }
def FnExactComputeMACUptoSaid : Prop := fnExactComputeMACUptoRow.holds Try.pinned (OpenSpec.upto fnExactComputeMACSpec)

/-- 'laws.FnExactValidKey', WHERE WHAT IT READS IS OF BULK AT MOST 1048576: true; the input reads as it did. -/
def fnExactValidKeyUptoRow : OpenClaim := { program := "ytoikcfakailegaa", sum := "eb11c47f99e58d74fe6d4edaef018c52c253c8db49ba5094712633d514faa1e3", func := "loop.example/g00505/laws.FnExactValidKey", spec := "fnExactValidKey", apart := false, narrowed := true }
def FnExactValidKeyUptoSaid : Prop := fnExactValidKeyUptoRow.holds Try.pinned (OpenSpec.upto fnExactValidKeySpec)

/-- 'laws.FnExactChainAdd', WHERE WHAT IT READS IS OF BULK AT MOST 1048576: true; the input reads as it did. -/
def fnExactChainAddUptoRow : OpenClaim := { program := "ytoikcfakailegaa", sum := "eb11c47f99e58d74fe6d4edaef018c52c253c8db49ba5094712633d514faa1e3", func := "loop.example/g00505/laws.FnExactChainAdd", spec := "fnExactChainAdd", apart := false, narrowed := true }
def FnExactChainAddUptoSaid : Prop := fnExactChainAddUptoRow.holds Try.pinned (OpenSpec.upto fnExactChainAddSpec)

/-- 'laws.FnExactChainSub', WHERE WHAT IT READS IS OF BULK AT MOST 1048576: true; the input reads as it did. -/
def fnExactChainSubUptoRow : OpenClaim := { program := "ytoikcfakailegaa", sum := "eb11c47f99e58d74fe6d4edaef018c52c253c8db49ba5094712633d514faa1e3", func := "loop.example/g00505/laws.FnExactChainSub", spec := "fnExactChainSub", unfollowed := true, recurses := true, apart := false, narrowed := true }
def FnExactChainSubUptoSaid : Prop := fnExactChainSubUptoRow.holds Try.pinned (OpenSpec.upto fnExactChainSubSpec)

/-- 'laws.FnExactEqualInts', WHERE WHAT IT READS IS OF BULK AT MOST 1048576: true; the input reads as it did. -/
def fnExactEqualIntsUptoRow : OpenClaim := { program := "ytoikcfakailegaa", sum := "eb11c47f99e58d74fe6d4edaef018c52c253c8db49ba5094712633d514faa1e3", func := "loop.example/g00505/laws.FnExactEqualInts", spec := "fnExactEqualInts", apart := false, narrowed := true }
def FnExactEqualIntsUptoSaid : Prop := fnExactEqualIntsUptoRow.holds Try.pinned (OpenSpec.upto fnExactEqualIntsSpec)

end Rows
end Go.Proofs.Ytoikcfakailegaa
