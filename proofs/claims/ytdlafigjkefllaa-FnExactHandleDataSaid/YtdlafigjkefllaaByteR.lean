
/- Rows of bytes in the notions of rows of structs: the laws' copy, equality, marks and check; what a call hands back. -/
import Derived.Test.YtdlafigjkefllaaByteMark
import Derived.Test.YtdlafigjkefllaaIntR
import Derived.Test.YtdlafigjkefllaaAppR
import Derived.Test.YtdlafigjkefllaaBytesOps
namespace Go.Proofs.Ytdlafigjkefllaa
open Go.ChangeShapes Go.WideShapes Go.ChangeAt Go.RowKit
set_option linter.unusedVariables false
abbrev TByte := Int
def TByte.fits (x : TByte) : Prop := (Lit.int .u8 x).wf = true
abbrev HasByte (w : World) (B : Nat) (a : Option Addr) (n : Nat) (zs : List Int) : Prop := HasR 1 (icell .u8) w B a n zs
abbrev OwnByte (w : World) (lo hi : Nat) (a : Option Addr) (n : Nat) (zs : List Int) : Prop := OwnR 1 (icell .u8) w lo hi a n zs
theorem OwnR.intI {k : IntKind} {w : World} {lo hi n : Nat} {a : Option Addr} {zs : List Int} (h : OwnR 1 (icell k) w lo hi a n zs) : Own k w lo a n zs :=
  ⟨h.1, fun hn => by
    obtain ⟨b, off, e, hl, hb, hc⟩ := h.2 hn
    have hlt := World.block_lt_of_cell? w _ (hc 0 (by omega)).1
    refine ⟨b, off, e, hl, hlt, fun i hi => ?_⟩
    rw [← flat_int]
    exact hc i (by omega)⟩
theorem OutB.rows {w w' : World} {R : List Int} {e : Ending} (h : OutB w R e w') : OutRows 1 (icell .u8) w R e w' := by
  obtain ⟨v, rfl, ho, hb⟩ := h
  obtain ⟨A, c, rfl, hc, hn⟩ := ownsRow_sliceR2 ho
  exact ⟨A, _, c, rfl, ⟨hc, hn⟩, (ownsRow_own ho).toR (Nat.le_refl _), Mk.of_below hb⟩
theorem toByteS (a : Option Addr) (n c B : Nat) (zs : List Int) (w : World) (h : HasByte w B a n zs) (hB : B ≤ w.heap.size) (hn : n ≤ 1048576) :
    Calls Try.prog 62 #[.slice a n c] w fun e w' => ∃ b, e = .returned (.slice (some ⟨b, 0, none⟩) n n) ∧ OwnByte w' w.heap.size w'.heap.size (some ⟨b, 0, none⟩) n zs ∧ Mk0 w w' :=
  (toByte a n c zs w (hasR_int.1 (h.mono hB)) hn).mono fun e w' ⟨h1, h2, h3⟩ => ⟨_, h1, h2.toR (Nat.le_refl _), Mk.of_below h3⟩
theorem eqByteS (a a' : Option Addr) (n c c' B B' : Nat) (zs : List Int) (w : World) (h : HasByte w B a n zs) (h' : HasByte w B' a' n zs) (hB : B ≤ w.heap.size) (hB' : B' ≤ w.heap.size) (hn : n ≤ 1073741824) :
    Calls Try.prog 67 #[.slice a n c, .slice a' n c'] w fun e w' => e = .returned (.bool true) ∧ Mk0 w w' :=
  (eqByte a a' n c c' B B' zs w (hasR_int.1 h) (hasR_int.1 h') hn).mono fun e w' ⟨h1, m, h2⟩ => ⟨h1, h2 ▸ Mk.drewN _ _⟩
theorem markByteM (a : Option Addr) (n c lo hi : Nat) (k0 : Int) (zs : List Int) (w : World) (h : OwnByte w lo hi a n zs) (hn : n ≤ 2097152) (h0 : 0 ≤ k0) (h1 : k0 ≤ 1099511627776) :
    Calls Try.prog 70 #[.slice a n c, .int .i64 k0] w fun e w' => e = .returned (.int .i64 (k0 + n)) ∧ OwnByte w' lo hi a n (marks bwrap k0 n) ∧ Mk lo hi w w' :=
  (markByte a n c lo k0 zs w h.intI (by omega) h0 h1).mono fun e w' ⟨h1, h2, h3⟩ => ⟨h1, Own.toR_far h h2, Mk.of_grown h3 h.row⟩
theorem markByteS (a : Option Addr) (n c lo hi : Nat) (k0 : Int) (zs : List Int) (w : World) (h : OwnByte w lo hi a n zs) (hn : n ≤ 1048576) (h0 : 0 ≤ k0) (h1 : k0 ≤ 1099511627776) :
    Calls Try.prog 70 #[.slice a n c, .int .i64 k0] w fun e w' => e = .returned (.int .i64 (k0 + n)) ∧ Mk lo hi w w' :=
  (markByteM a n c lo hi k0 zs w h (by omega) h0 h1).mono fun e w' ⟨h1, h2, h3⟩ => ⟨h1, h3⟩
theorem heldByteM (a : Option Addr) (n c B : Nat) (k0 : Int) (w : World) (h : HasByte w B a n (marks bwrap k0 n)) (hn : n ≤ 2097152) (h0 : 0 ≤ k0) (h1 : k0 ≤ 1099511627776) :
    Calls Try.prog 97 #[.slice a n c, .int .i64 k0] w fun e w' => e = .returned (.int .i64 (k0 + n)) ∧ w = w' :=
  heldByte a n c B k0 w (hasR_int.1 h) (by omega) h0 h1
end Go.Proofs.Ytdlafigjkefllaa
