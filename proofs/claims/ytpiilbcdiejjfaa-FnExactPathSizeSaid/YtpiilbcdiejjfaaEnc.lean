
/- AppendBytes and EncodeInts, by the program and by the model. -/
import Derived.Test.YtpiilbcdiejjfaaBytesOps
namespace Go.Proofs.Ytpiilbcdiejjfaa
open Go.ChangeShapes Go.WideShapes Go.ChangeAt Go.RowKit
set_option linter.unusedVariables false
def abR (bs ss : List Int) : List Int := bs ++ vb ss.length ++ ss
def encN (zs : List Int) : Nat → List Int
  | 0 => []
  | k + 1 => encN zs k ++ vb (zs.getD k 0)
theorem encN_len (zs : List Int) : ∀ k, (encN zs k).length ≤ 6 * k
  | 0 => by simp [encN]
  | k + 1 => by
    have := encN_len zs k
    have := vb_len (zs.getD k 0)
    simp only [encN, List.length_append]
    omega

set_option maxRecDepth 100000 in
set_option maxHeartbeats 800000 in
theorem specEncodeInts (a : Option Addr) (n c : Nat) (zs : List Int) (w : World) (h : Has .i64 w w.heap.size a n zs) (hn : n ≤ 2097152) :
    Calls Try.prog 61 #[.slice a n c] w (OutB w (encN zs n)) := by
  have ho := own_empty w 5
  have hb : Below w.heap.size w (w.alloc (.cells #[] 5)) := (Below.refl _ _).alloc (Nat.le_refl _) _
  go_enter Try.func61, Try.ntmps61
  go_wp2
  go_loopw [3, 4] (fun v i wr => ∃ k L : Nat, k ≤ n ∧ i = .int .i64 k ∧ L ≤ 6 * k ∧ wr.ownsRow w.heap.size 5 1 v L ((encN zs k).map (.int .u8)) ∧ Below w.heap.size w wr) (fun _ i _ => n - (intOf i).toNat)
  case atStart => exact ⟨0, 0, Nat.zero_le _, rfl, by omega, ho, hb⟩
  case round =>
    clear ho hb
    obtain ⟨k, L, hk, rfl, hL, ho, hb⟩ := hrel
    by_cases hlt : k < n
    · obtain ⟨b, off, z, rfl, hbs, hz, hc⟩ := (h.below hb).at_ hlt
      have hlo := hb.size
      have hen := encN_len zs (k + 1)
      have hstep : encN zs (k + 1) = encN zs k ++ vb z := by rw [hz.out]; rfl
      have hlen : L + (vb z).length ≤ 6 * (k + 1) := by
        have := vb_len z
        omega
      have HS := Lib.hid hstep
      clear hstep hen
      obtain ⟨A, cc, rfl, hcc⟩ := ownsRow_slice ho
      have hq := (ownsRow_own ho).has
      have HC := Lib.hid hcc
      have hol := ho.1
      have HOL := Lib.hid hol
      clear hcc hol
      go_wp2_with fail
      refine (specVarint _ _ _ _ _ _ hq HC.out (by omega)).mono ?_
      rintro e w1 ⟨v', rfl, ho1, hb1⟩
      have hb2 := hb.trans (hb1.mono hlo)
      have ho2 : w1.ownsRow w.heap.size 5 1 v' (L + (vb z).length) ((encN zs k ++ vb z).map (.int .u8)) := own_low (by have := HOL.out; simp at this; simpa [this] using ho1) hlo
      clear ho1
      go_wp2_with fail
      go_roundw
      case rel => exact ⟨k + 1, L + (vb z).length, by omega, by go_num, hlen, by rw [HS.out]; exact ho2, hb2⟩
      case measure => simp [intOf]; omega
    · obtain rfl : k = n := by omega
      go_wp2
      go_ret
      exact OutB.of ho hb

end Go.Proofs.Ytpiilbcdiejjfaa
