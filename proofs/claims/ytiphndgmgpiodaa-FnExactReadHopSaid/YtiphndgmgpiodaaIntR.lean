
/- Rows of integers in the notions of rows of structs: the laws' copy and equality. -/
import Derived.Test.YtiphndgmgpiodaaIntS
import Derived.Test.YtiphndgmgpiodaaRow
namespace Go.Proofs.Ytiphndgmgpiodaa
open Go.ChangeShapes Go.WideShapes Go.ChangeAt Go.RowKit
set_option linter.unusedVariables false
abbrev HasInt (w : World) (B : Nat) (a : Option Addr) (n : Nat) (zs : List Int) : Prop := HasR 1 (icell .i64) w B a n zs
abbrev OwnInt (w : World) (lo hi : Nat) (a : Option Addr) (n : Nat) (zs : List Int) : Prop := OwnR 1 (icell .i64) w lo hi a n zs
theorem isrow_len {k : IntKind} {w : World} {a : Option Addr} {len cap : Nat} {zs : List Int} (h : IsRow k w a len cap zs) : len ≤ 9223372036854775807 := by
  rcases h with ⟨_, rfl, _, _⟩ | ⟨x, _, hl, hm, _⟩
  · omega
  · exact Nat.le_trans (Nat.le_trans hl hm) (by unfold maxLen; omega)
theorem toIntS (a : Option Addr) (n c B : Nat) (zs : List Int) (w : World) (h : HasInt w B a n zs) (hB : B ≤ w.heap.size) (hn : n ≤ 1048576) :
    Calls Try.prog 46 #[.slice a n c] w fun e w' => ∃ b, e = .returned (.slice (some ⟨b, 0, none⟩) n n) ∧ OwnInt w' w.heap.size w'.heap.size (some ⟨b, 0, none⟩) n zs ∧ Mk0 w w' :=
  (toInt a n c zs w (hasR_int.1 (h.mono hB)) hn).mono fun e w' ⟨h1, h2, h3⟩ => ⟨_, h1, h2.toR (Nat.le_refl _), Mk.of_below h3⟩
theorem eqIntS (a a' : Option Addr) (n c c' B B' : Nat) (zs : List Int) (w : World) (h : HasInt w B a n zs) (h' : HasInt w B' a' n zs) (hB : B ≤ w.heap.size) (hB' : B' ≤ w.heap.size) (hn : n ≤ 1048576) :
    Calls Try.prog 48 #[.slice a n c, .slice a' n c'] w fun e w' => e = .returned (.bool true) ∧ Mk0 w w' :=
  (eqInt a a' n c c' B B' zs w (hasR_int.1 h) (hasR_int.1 h') (by omega)).mono fun e w' ⟨h1, m, h2⟩ => ⟨h1, h2 ▸ Mk.drewN _ _⟩
end Go.Proofs.Ytiphndgmgpiodaa
