
/- AppendBytes and EncodeInts, by the program and by the model. -/
import Derived.Test.YtpfjjfbheliinaaBytesOps
namespace Go.Proofs.Ytpfjjfbheliinaa
open Go.ChangeShapes Go.WideShapes Go.ChangeAt Go.RowKit
set_option linter.unusedVariables false
def abR (bs ss : List Int) : List Int := bs ++ vb ss.length ++ ss
def encN (zs : List Int) : Nat → List Int
  | 0 => []
  | k + 1 => encN zs k ++ vb (zs.getD k 0)
theorem encN_len (zs : List Int) : ∀ k, (encN zs k).length ≤ 6 * k
  | 0 => by simp [encN]
  | k + 1 => by
    have := encN_len zs k
    have := vb_len (zs.getD k 0)
    simp only [encN, List.length_append]
    omega

set_option maxRecDepth 100000 in
set_option maxHeartbeats 800000 in
theorem implAppendBytes (a a' : Option Addr) (n c n' c' : Nat) (bs ss : List Int) (w : World) (h : Has .u8 w w.heap.size a n bs) (hc0 : a = none → c = 0) (hn : n ≤ 134217728) (h' : Has .u8 w w.heap.size a' n' ss) (hc0' : a' = none → c' = 0) (hn' : n' ≤ 134217728) :
    Calls Try.prog 108 #[.slice a n c, .slice a' n' c'] w (OutB w (abR bs ss)) := by
  obtain ⟨i0, hi, hz0, hz1, hz2⟩ := info_parts infoU8
  have hl := h.1
  have HL := Lib.hid hl
  have hl' := h'.1
  have HL' := Lib.hid hl'
  clear hl hl'
  have HC := Lib.hid hc0'
  clear hc0'
  go_enter Try.func108, Try.ntmps108
  go_wp2_with fail
  refine (implVarint _ _ _ _ _ _ h hc0 (by omega)).mono ?_
  rintro e w1 ⟨v, rfl, hown, hb⟩
  have hlo := hb.size
  have h1 := h'.next hb
  have hL1 : (bs ++ vb (n' : Int)).length ≤ 134217740 := by have := vb_len (n' : Int); have := HL.out; simp only [List.length_append]; omega
  obtain ⟨L1, hL1e⟩ : ∃ L1, L1 = (bs ++ vb (n' : Int)).length := ⟨_, rfl⟩
  rw [← hL1e] at hown hL1
  clear hL1e
  go_wp2_with (at_builtin; refine wpList_app rfl (.tmp 8) (.tmp 9) 63 rfl w.heap.size 5 i0 Try.underlying63 hi hz0 hz1 (by rw [hz2]; decide) _ (bs ++ vb (n' : Int)) L1 rfl hown a' n' c' ss rfl HC.out h1 (by omega) hlo ?_; intro v2 w2 ho2 hg2 _)
  have hb2 := hb.grown hg2 hlo (fun g hg => (hown.lt g hg).1)
  go_ret
  exact OutB.of (by rw [abR, HL'.out]; exact ho2) hb2

set_option maxRecDepth 100000 in
set_option maxHeartbeats 800000 in
theorem specAppendBytes (a a' : Option Addr) (n c n' c' : Nat) (bs ss : List Int) (w : World) (h : Has .u8 w w.heap.size a n bs) (hc0 : a = none → c = 0) (hn : n ≤ 134217728) (h' : Has .u8 w w.heap.size a' n' ss) (hc0' : a' = none → c' = 0) (hn' : n' ≤ 134217728) :
    Calls Try.prog 103 #[.slice a n c, .slice a' n' c'] w (OutB w (abR bs ss)) := by
  obtain ⟨i0, hi, hz0, hz1, hz2⟩ := info_parts infoU8
  have hl := h.1
  have HL := Lib.hid hl
  have hl' := h'.1
  have HL' := Lib.hid hl'
  clear hl hl'
  have HC := Lib.hid hc0'
  clear hc0'
  go_enter Try.func103, Try.ntmps103
  go_wp2_with fail
  refine (specVarint _ _ _ _ _ _ h hc0 (by omega)).mono ?_
  rintro e w1 ⟨v, rfl, hown, hb⟩
  have hlo := hb.size
  have h1 := h'.next hb
  have hL1 : (bs ++ vb (n' : Int)).length ≤ 134217740 := by have := vb_len (n' : Int); have := HL.out; simp only [List.length_append]; omega
  obtain ⟨L1, hL1e⟩ : ∃ L1, L1 = (bs ++ vb (n' : Int)).length := ⟨_, rfl⟩
  rw [← hL1e] at hown hL1
  clear hL1e
  go_wp2_with (at_builtin; refine wpList_app rfl (.tmp 8) (.tmp 9) 63 rfl w.heap.size 5 i0 Try.underlying63 hi hz0 hz1 (by rw [hz2]; decide) _ (bs ++ vb (n' : Int)) L1 rfl hown a' n' c' ss rfl HC.out h1 (by omega) hlo ?_; intro v2 w2 ho2 hg2 _)
  have hb2 := hb.grown hg2 hlo (fun g hg => (hown.lt g hg).1)
  go_ret
  exact OutB.of (by rw [abR, HL'.out]; exact ho2) hb2

set_option maxRecDepth 100000 in
set_option maxHeartbeats 800000 in
theorem implEncodeInts (a : Option Addr) (n c : Nat) (zs : List Int) (w : World) (h : Has .i64 w w.heap.size a n zs) (hn : n ≤ 2097152) :
    Calls Try.prog 105 #[.slice a n c] w (OutB w (encN zs n)) := by
  have ho := own_empty w 5
  have hb : Below w.heap.size w (w.alloc (.cells #[] 5)) := (Below.refl _ _).alloc (Nat.le_refl _) _
  go_enter Try.func105, Try.ntmps105
  go_wp2
  go_loopw [3, 9] (fun v i wr => ∃ k L : Nat, k ≤ n ∧ i = .int .i64 k ∧ L ≤ 6 * k ∧ wr.ownsRow w.heap.size 5 1 v L ((encN zs k).map (.int .u8)) ∧ Below w.heap.size w wr) (fun _ i _ => n - (intOf i).toNat)
  case atStart => exact ⟨0, 0, Nat.zero_le _, rfl, by omega, ho, hb⟩
  case round =>
    clear ho hb
    obtain ⟨k, L, hk, rfl, hL, ho, hb⟩ := hrel
    by_cases hlt : k < n
    · obtain ⟨b, off, z, rfl, hbs, hz, hc⟩ := (h.below hb).at_ hlt
      have hlo := hb.size
      have hen := encN_len zs (k + 1)
      have hstep : encN zs (k + 1) = encN zs k ++ vb z := by rw [hz.out]; rfl
      have hlen : L + (vb z).length ≤ 6 * (k + 1) := by
        have := vb_len z
        omega
      have HS := Lib.hid hstep
      clear hstep hen
      go_wp2_with fail
      refine (addVarint _ _ _ w.heap.size _ _ ho hlo (by omega)).mono ?_
      rintro e w1 ⟨v', rfl, ho2, hb1⟩
      have hb2 := hb.trans hb1
      go_wp2_with fail
      go_roundw
      case rel => exact ⟨k + 1, L + (vb z).length, by omega, by go_num, hlen, by rw [HS.out]; exact ho2, hb2⟩
      case measure => simp [intOf]; omega
    · obtain rfl : k = n := by omega
      go_wp2
      go_ret
      exact OutB.of ho hb

set_option maxRecDepth 100000 in
set_option maxHeartbeats 800000 in
theorem specEncodeInts (a : Option Addr) (n c : Nat) (zs : List Int) (w : World) (h : Has .i64 w w.heap.size a n zs) (hn : n ≤ 2097152) :
    Calls Try.prog 101 #[.slice a n c] w (OutB w (encN zs n)) := by
  have ho := own_empty w 5
  have hb : Below w.heap.size w (w.alloc (.cells #[] 5)) := (Below.refl _ _).alloc (Nat.le_refl _) _
  go_enter Try.func101, Try.ntmps101
  go_wp2
  go_loopw [3, 4] (fun v i wr => ∃ k L : Nat, k ≤ n ∧ i = .int .i64 k ∧ L ≤ 6 * k ∧ wr.ownsRow w.heap.size 5 1 v L ((encN zs k).map (.int .u8)) ∧ Below w.heap.size w wr) (fun _ i _ => n - (intOf i).toNat)
  case atStart => exact ⟨0, 0, Nat.zero_le _, rfl, by omega, ho, hb⟩
  case round =>
    clear ho hb
    obtain ⟨k, L, hk, rfl, hL, ho, hb⟩ := hrel
    by_cases hlt : k < n
    · obtain ⟨b, off, z, rfl, hbs, hz, hc⟩ := (h.below hb).at_ hlt
      have hlo := hb.size
      have hen := encN_len zs (k + 1)
      have hstep : encN zs (k + 1) = encN zs k ++ vb z := by rw [hz.out]; rfl
      have hlen : L + (vb z).length ≤ 6 * (k + 1) := by
        have := vb_len z
        omega
      have HS := Lib.hid hstep
      clear hstep hen
      obtain ⟨A, cc, rfl, hcc⟩ := ownsRow_slice ho
      have hq := (ownsRow_own ho).has
      have HC := Lib.hid hcc
      have hol := ho.1
      have HOL := Lib.hid hol
      clear hcc hol
      go_wp2_with fail
      refine (specVarint _ _ _ _ _ _ hq HC.out (by omega)).mono ?_
      rintro e w1 ⟨v', rfl, ho1, hb1⟩
      have hb2 := hb.trans (hb1.mono hlo)
      have ho2 : w1.ownsRow w.heap.size 5 1 v' (L + (vb z).length) ((encN zs k ++ vb z).map (.int .u8)) := own_low (by have := HOL.out; simp at this; simpa [this] using ho1) hlo
      clear ho1
      go_wp2_with fail
      go_roundw
      case rel => exact ⟨k + 1, L + (vb z).length, by omega, by go_num, hlen, by rw [HS.out]; exact ho2, hb2⟩
      case measure => simp [intOf]; omega
    · obtain rfl : k = n := by omega
      go_wp2
      go_ret
      exact OutB.of ho hb

end Go.Proofs.Ytpfjjfbheliinaa
