
/- Bits of small sets. -/
import Derived.Test.YtdhdkhnefnbdgaaGreatDoorRow
import Derived.Test.YtdhdkhnefnbdgaaGreatDoorRows
import Derived.Handy
import Derived.Lib.Hide
namespace Go.Proofs.YtdhdkhnefnbdgaaGreatDoor
open Go Go.RowKit
theorem bits_nat (x y : Nat) (hx : x < 9223372036854775808) (hy : y < 9223372036854775808) : bits .and .i64 (x : Int) (y : Int) = ((x &&& y : Nat) : Int) := by
  simp only [bits, BitVec.toNat_and, BitVec.ofInt_natCast, BitVec.toNat_ofNat]
  have hb : (2 : Nat) ^ IntKind.i64.bits = 18446744073709551616 := by decide
  rw [hb, Nat.mod_eq_of_lt (by omega), Nat.mod_eq_of_lt (by omega)]
  have : x &&& y ≤ x := Nat.and_le_left
  rw [IntKind.wrap_i64]
  omega
theorem and_pow (x i : Nat) : x &&& 2 ^ i = (x.testBit i).toNat * 2 ^ i := by
  apply Nat.eq_of_testBit_eq
  intro j
  rw [Nat.testBit_and, Nat.testBit_two_pow]
  cases h : x.testBit i
  · by_cases e : i = j
    · subst e; simp [h]
    · simp [e]
  · by_cases e : i = j
    · subst e; simp [h, Nat.testBit_two_pow_self]
    · simp [e, Nat.testBit_two_pow_of_ne e]
theorem pow_le (i : Nat) (hi : i ≤ 15) : 2 ^ i ≤ 32768 := Nat.pow_le_pow_right (n := 2) (by decide) hi
theorem has_bit_nat (x i : Nat) (hx : x ≤ 65535) (hi : i ≤ 15) :
    (bits .and .i64 (x : Int) ((2 ^ i : Nat) : Int) != 0) = (bits .and .i64 ((x / 2 ^ i : Nat) : Int) ((1 : Nat) : Int) == 1) := by
  have hp := pow_le i hi
  have h1 : x / 2 ^ i ≤ x := Nat.div_le_self _ _
  rw [bits_nat _ _ (by omega) (by omega), bits_nat _ _ (by omega) (by omega), and_pow, Nat.and_one_is_mod, Nat.testBit_eq_decide_div_mod_eq]
  have hm : x / 2 ^ i % 2 = 0 ∨ x / 2 ^ i % 2 = 1 := by omega
  have hq : 2 ^ i ≠ 0 := by have := Nat.one_le_two_pow (n := i); omega
  rcases hm with h | h
  · simp [h]
  · rw [h]
    generalize 2 ^ i = p at hq
    simp [hq]
theorem wrap64_pow (i : Nat) (hi : i ≤ 15) : wrap64 (2 ^ i) = ((2 ^ i : Nat) : Int) := by
  have hp := pow_le i hi
  have e : ((2 : Int) ^ i) = ((2 ^ i : Nat) : Int) := by simp
  rw [e]
  unfold wrap64
  generalize 2 ^ i = p at hp
  omega
theorem has_bit {a0 a1 : Int} (c1 : 0 ≤ a0) (c2 : a0 ≤ 65535) (c3 : 0 ≤ a1) (c4 : a1 ≤ 15) :
    (bits .and .i64 a0 (wrap64 (2 ^ a1.toNat)) != 0) = (bits .and .i64 (a0 / 2 ^ a1.toNat) 1 == 1) := by
  obtain ⟨x, rfl⟩ := Int.eq_ofNat_of_zero_le c1
  obtain ⟨i, rfl⟩ := Int.eq_ofNat_of_zero_le c3
  have h := has_bit_nat x i (by omega) (by omega)
  rw [← wrap64_pow i (by omega)] at h
  simpa using h
end Go.Proofs.YtdhdkhnefnbdgaaGreatDoor
namespace Go.Proofs.YtdhdkhnefnbdgaaGreatDoor
open Go.ChangeShapes Go.WideShapes Go.ChangeAt Go.RowKit
set_option linter.unusedVariables false
theorem ret_i {a b : Int} (h : a = b) : Ending.returned (.int .i64 a) = .returned (.int .i64 b) := by rw [h]
theorem ret_b {a b : Bool} (h : a = b) : Ending.returned (.bool a) = .returned (.bool b) := by rw [h]
def setB (s : Int) : Bool := if 0 ≤ s ∧ s ≤ 65535 then true else false
def hasB (s i : Int) : Bool := if 0 ≤ s ∧ s ≤ 65535 ∧ 0 ≤ i ∧ i ≤ 15 then bits .and .i64 (s / 2 ^ i.toNat) 1 == 1 else false
def addV (s i : Int) : Int := if 0 ≤ s ∧ s ≤ 65535 ∧ 0 ≤ i ∧ i ≤ 15 then bits .or .i64 s (wrap64 (2 ^ i.toNat)) else s
def delV (s i : Int) : Int := if 0 ≤ s ∧ s ≤ 65535 ∧ 0 ≤ i ∧ i ≤ 15 then bits .andNot .i64 s (wrap64 (2 ^ i.toNat)) else s
def uniV (a b : Int) : Int := if 0 ≤ a ∧ a ≤ 65535 ∧ 0 ≤ b ∧ b ≤ 65535 then bits .or .i64 a b else 0
def intV (a b : Int) : Int := if 0 ≤ a ∧ a ≤ 65535 ∧ 0 ≤ b ∧ b ≤ 65535 then bits .and .i64 a b else 0
theorem implValidSet (s : Int) (w : World) :
    Calls Tryz.prog 93 #[.int .i64 s] w fun e w' => e = .returned (.bool (setB s)) ∧ w = w' := by
  by_cases cl1 : 0 ≤ s
  · by_cases ch1 : s ≤ 65535
    · have dh1 : decide (s ≤ 65535) = true := by simp; omega
      have hv : setB s = true := if_pos ⟨by omega, by omega⟩
      have HV := Lib.hid hv
      clear hv
      go_enter Tryz.func93, Tryz.ntmps93
      go_wp2_with go_in
      all_goals (go_ret; exact ⟨ret_b HV.out.symm, rfl⟩)
    · have dh1 : decide (s ≤ 65535) = false := by simp; omega
      have hv : setB s = false := if_neg (by omega)
      have HV := Lib.hid hv
      clear hv
      go_enter Tryz.func93, Tryz.ntmps93
      go_wp2_with go_in
      all_goals (go_ret; exact ⟨ret_b HV.out.symm, rfl⟩)
  · have dl1 : s < 0 := by omega
    have hv : setB s = false := if_neg (by omega)
    have HV := Lib.hid hv
    clear hv
    go_enter Tryz.func93, Tryz.ntmps93
    go_wp2_with go_in
    all_goals (go_ret; exact ⟨ret_b HV.out.symm, rfl⟩)
theorem implContains (s i : Int) (w : World) :
    Calls Tryz.prog 78 #[.int .i64 s, .int .i64 i] w fun e w' => e = .returned (.bool (hasB s i)) ∧ w = w' := by
  by_cases cl1 : 0 ≤ s
  · by_cases ch1 : s ≤ 65535
    · have dh1 : decide (s ≤ 65535) = true := by simp; omega
      by_cases cl2 : 0 ≤ i
      · by_cases ch2 : i ≤ 15
        · have dh2 : decide (i ≤ 15) = true := by simp; omega
          have hv : hasB s i = (bits .and .i64 (s / 2 ^ i.toNat) 1 == 1) := if_pos ⟨by omega, by omega, by omega, by omega⟩
          have HV := Lib.hid hv
          clear hv
          have HB := has_bit (a0 := s) (a1 := i) (by omega) (by omega) (by omega) (by omega)
          go_enter Tryz.func78, Tryz.ntmps78
          go_wp2_with go_in
          all_goals (go_ret; exact ⟨ret_b HV.out.symm, rfl⟩)
        · have dh2 : decide (i ≤ 15) = false := by simp; omega
          have hv : hasB s i = false := if_neg (by omega)
          have HV := Lib.hid hv
          clear hv
          go_enter Tryz.func78, Tryz.ntmps78
          go_wp2_with go_in
          all_goals (go_ret; exact ⟨ret_b HV.out.symm, rfl⟩)
      · have dl2 : i < 0 := by omega
        have hv : hasB s i = false := if_neg (by omega)
        have HV := Lib.hid hv
        clear hv
        go_enter Tryz.func78, Tryz.ntmps78
        go_wp2_with go_in
        all_goals (go_ret; exact ⟨ret_b HV.out.symm, rfl⟩)
    · have dh1 : decide (s ≤ 65535) = false := by simp; omega
      have hv : hasB s i = false := if_neg (by omega)
      have HV := Lib.hid hv
      clear hv
      go_enter Tryz.func78, Tryz.ntmps78
      go_wp2_with go_in
      all_goals (go_ret; exact ⟨ret_b HV.out.symm, rfl⟩)
  · have dl1 : s < 0 := by omega
    have hv : hasB s i = false := if_neg (by omega)
    have HV := Lib.hid hv
    clear hv
    go_enter Tryz.func78, Tryz.ntmps78
    go_wp2_with go_in
    all_goals (go_ret; exact ⟨ret_b HV.out.symm, rfl⟩)
theorem implAddElement (s i : Int) (w : World) :
    Calls Tryz.prog 80 #[.int .i64 s, .int .i64 i] w fun e w' => e = .returned (.int .i64 (addV s i)) ∧ w = w' := by
  by_cases cl1 : 0 ≤ s
  · by_cases ch1 : s ≤ 65535
    · have dh1 : decide (s ≤ 65535) = true := by simp; omega
      by_cases cl2 : 0 ≤ i
      · by_cases ch2 : i ≤ 15
        · have dh2 : decide (i ≤ 15) = true := by simp; omega
          have hv : addV s i = bits .or .i64 s (wrap64 (2 ^ i.toNat)) := if_pos ⟨by omega, by omega, by omega, by omega⟩
          have HV := Lib.hid hv
          clear hv
          go_enter Tryz.func80, Tryz.ntmps80
          go_wp2_with go_in
          all_goals (go_ret; exact ⟨ret_i HV.out.symm, rfl⟩)
        · have dh2 : decide (i ≤ 15) = false := by simp; omega
          have hv : addV s i = s := if_neg (by omega)
          have HV := Lib.hid hv
          clear hv
          go_enter Tryz.func80, Tryz.ntmps80
          go_wp2_with go_in
          all_goals (go_ret; exact ⟨ret_i HV.out.symm, rfl⟩)
      · have dl2 : i < 0 := by omega
        have hv : addV s i = s := if_neg (by omega)
        have HV := Lib.hid hv
        clear hv
        go_enter Tryz.func80, Tryz.ntmps80
        go_wp2_with go_in
        all_goals (go_ret; exact ⟨ret_i HV.out.symm, rfl⟩)
    · have dh1 : decide (s ≤ 65535) = false := by simp; omega
      have hv : addV s i = s := if_neg (by omega)
      have HV := Lib.hid hv
      clear hv
      go_enter Tryz.func80, Tryz.ntmps80
      go_wp2_with go_in
      all_goals (go_ret; exact ⟨ret_i HV.out.symm, rfl⟩)
  · have dl1 : s < 0 := by omega
    have hv : addV s i = s := if_neg (by omega)
    have HV := Lib.hid hv
    clear hv
    go_enter Tryz.func80, Tryz.ntmps80
    go_wp2_with go_in
    all_goals (go_ret; exact ⟨ret_i HV.out.symm, rfl⟩)
end Go.Proofs.YtdhdkhnefnbdgaaGreatDoor
namespace Go.Proofs.YtdhdkhnefnbdgaaGreatDoor
open Go Go.RowKit
set_option linter.unusedVariables false
theorem or_nat (x y : Nat) (hx : x < 65536) (hy : y < 65536) : bits .or .i64 (x : Int) (y : Int) = ((x ||| y : Nat) : Int) := by
  simp only [bits, BitVec.toNat_or, BitVec.ofInt_natCast, BitVec.toNat_ofNat]
  have hb : (2 : Nat) ^ IntKind.i64.bits = 18446744073709551616 := by decide
  rw [hb, Nat.mod_eq_of_lt (by omega), Nat.mod_eq_of_lt (by omega)]
  have : x ||| y < 2 ^ 16 := Nat.or_lt_two_pow (by omega) (by omega)
  rw [IntKind.wrap_i64]
  omega
theorem hasB_nat (x i : Nat) (hx : x ≤ 65535) (hi : i ≤ 15) : hasB (x : Int) (i : Int) = x.testBit i := by
  unfold hasB
  rw [if_pos ⟨by omega, by omega, by omega, by omega⟩]
  have e : (x : Int) / 2 ^ (i : Int).toNat = ((x / 2 ^ i : Nat) : Int) := by simp
  have h1 : x / 2 ^ i ≤ x := Nat.div_le_self _ _
  rw [e, show (1 : Int) = ((1 : Nat) : Int) from rfl, bits_nat _ _ (by omega) (by omega), Nat.and_one_is_mod, Nat.testBit_eq_decide_div_mod_eq]
  have hm : x / 2 ^ i % 2 = 0 ∨ x / 2 ^ i % 2 = 1 := by omega
  rcases hm with h | h <;> simp [h]
theorem addV_nat (x i : Nat) (hx : x ≤ 65535) (hi : i ≤ 15) : addV (x : Int) (i : Int) = ((x ||| 2 ^ i : Nat) : Int) ∧ x ||| 2 ^ i ≤ 65535 := by
  have hp := pow_le i hi
  unfold addV
  rw [if_pos ⟨by omega, by omega, by omega, by omega⟩, show ((i : Int)).toNat = i by omega, wrap64_pow i hi]
  refine ⟨or_nat _ _ (by omega) (by omega), ?_⟩
  have : x ||| 2 ^ i < 2 ^ 16 := Nat.or_lt_two_pow (by omega) (by omega)
  omega
theorem addV_ok (s i : Int) (h1 : 0 ≤ s) (h2 : s ≤ 65535) (h3 : 0 ≤ i) (h4 : i ≤ 15) : 0 ≤ addV s i ∧ addV s i ≤ 65535 := by
  obtain ⟨x, rfl⟩ := Int.eq_ofNat_of_zero_le h1
  obtain ⟨q, rfl⟩ := Int.eq_ofNat_of_zero_le h3
  obtain ⟨e, hl⟩ := addV_nat x q (by omega) (by omega)
  rw [e]
  omega
theorem hasB_addV (s i j : Int) (h1 : 0 ≤ s) (h2 : s ≤ 65535) (h3 : 0 ≤ i) (h4 : i ≤ 15) (h5 : 0 ≤ j) (h6 : j ≤ 15) : hasB (addV s i) j = ((i == j) || hasB s j) := by
  obtain ⟨x, rfl⟩ := Int.eq_ofNat_of_zero_le h1
  obtain ⟨q, rfl⟩ := Int.eq_ofNat_of_zero_le h3
  obtain ⟨r, rfl⟩ := Int.eq_ofNat_of_zero_le h5
  obtain ⟨e, hl⟩ := addV_nat x q (by omega) (by omega)
  rw [e, hasB_nat _ _ hl (by omega), hasB_nat _ _ (by omega) (by omega), Nat.testBit_or, Nat.testBit_two_pow]
  by_cases h : q = r
  · subst h; simp
  · have : ¬ (q : Int) = (r : Int) := by omega
    simp [h, this]
theorem hasB_zero (j : Int) : hasB 0 j = false := by
  unfold hasB
  split
  · rename_i h
    obtain ⟨r, rfl⟩ := Int.eq_ofNat_of_zero_le h.2.2.1
    have := hasB_nat 0 r (by omega) (by omega)
    unfold hasB at this
    rw [if_pos ⟨by omega, by omega, by omega, by omega⟩] at this
    simpa using this
  · rfl
/-- x stands among the first k. -/
def inUp (f : Nat → Int) (x : Int) : Nat → Bool
  | 0 => false
  | k + 1 => (f k == x) || inUp f x k
def seenS (f : Nat → Int) : Nat → Int
  | 0 => 0
  | k + 1 => addV (seenS f k) (f k)
theorem seenS_ok (f : Nat → Int) : ∀ k, (∀ j, j < k → 0 ≤ f j ∧ f j ≤ 15) → (0 ≤ seenS f k ∧ seenS f k ≤ 65535) ∧ ∀ x, 0 ≤ x → x ≤ 15 → hasB (seenS f k) x = inUp f x k
  | 0, _ => ⟨⟨by simp [seenS], by simp [seenS]⟩, fun x _ _ => hasB_zero x⟩
  | k + 1, h => by
    obtain ⟨⟨h1, h2⟩, h3⟩ := seenS_ok f k fun j hj => h j (by omega)
    obtain ⟨h4, h5⟩ := h k (by omega)
    refine ⟨addV_ok _ _ h1 h2 h4 h5, fun x hx hx' => ?_⟩
    rw [seenS, hasB_addV _ _ _ h1 h2 h4 h5 hx hx', h3 x hx hx', inUp]
theorem inUp_mono {f : Nat → Int} {x : Int} {k n : Nat} (h : inUp f x k = true) (hk : k ≤ n) : inUp f x n = true := by
  induction n with
  | zero => obtain rfl : k = 0 := by omega
            exact h
  | succ n ih =>
    by_cases hn : k = n + 1
    · subst hn; exact h
    · rw [inUp, ih (by omega), Bool.or_true]
theorem inUp_congr {f g : Nat → Int} {x : Int} : ∀ n, (∀ j, j < n → f j = g j) → inUp f x n = inUp g x n
  | 0, _ => rfl
  | n + 1, h => by rw [inUp, inUp, h n (by omega), inUp_congr n fun j hj => h j (by omega)]
def allN (p : Nat → Bool) : Nat → Bool
  | 0 => true
  | k + 1 => allN p k && p k
theorem allN_iff (p : Nat → Bool) : ∀ n, allN p n = true ↔ ∀ k, k < n → p k = true
  | 0 => by simp [allN]
  | n + 1 => by
    rw [allN, Bool.and_eq_true, allN_iff p n]
    constructor
    · intro ⟨h1, h2⟩ k hk
      by_cases e : k = n
      · subst e; exact h2
      · exact h1 k (by omega)
    · intro h
      exact ⟨fun k hk => h k (by omega), h n (by omega)⟩
theorem allN_stop {p : Nat → Bool} {k n : Nat} (h : p k = false) (hk : k < n) : allN p n = false := by
  cases e : allN p n with
  | false => rfl
  | true => rw [(allN_iff p n).1 e k hk] at h; cases h
theorem allN_go {p : Nat → Bool} {k : Nat} (h : allN p k = true) (hp : p k = true) : allN p (k + 1) = true := by rw [allN, h, hp]; rfl
end Go.Proofs.YtdhdkhnefnbdgaaGreatDoor
