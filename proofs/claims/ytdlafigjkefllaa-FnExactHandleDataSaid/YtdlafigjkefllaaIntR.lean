
/- Rows of integers in the notions of rows of structs: the laws' copy and equality. -/
import Derived.Test.YtdlafigjkefllaaBetaAt
import Derived.Test.YtdlafigjkefllaaRow
namespace Go.Proofs.Ytdlafigjkefllaa
open Go.ChangeShapes Go.WideShapes Go.ChangeAt Go.RowKit
set_option linter.unusedVariables false
abbrev HasInt (w : World) (B : Nat) (a : Option Addr) (n : Nat) (zs : List Int) : Prop := HasR 1 (icell .i64) w B a n zs
abbrev OwnInt (w : World) (lo hi : Nat) (a : Option Addr) (n : Nat) (zs : List Int) : Prop := OwnR 1 (icell .i64) w lo hi a n zs
theorem isrow_len {k : IntKind} {w : World} {a : Option Addr} {len cap : Nat} {zs : List Int} (h : IsRow k w a len cap zs) : len ≤ 9223372036854775807 := by
  rcases h with ⟨_, rfl, _, _⟩ | ⟨x, _, hl, hm, _⟩
  · omega
  · exact Nat.le_trans (Nat.le_trans hl hm) (by unfold maxLen; omega)
end Go.Proofs.Ytdlafigjkefllaa
