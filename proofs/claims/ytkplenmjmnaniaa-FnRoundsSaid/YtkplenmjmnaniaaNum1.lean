/- Contracts of chapter 1's functions of integers: the program's and the model's return the same value. -/
import Derived.Test.YtkplenmjmnaniaaBase
import Derived.Test.YtkplenmjmnaniaaRows
import Derived.Handy
import Derived.Below
import Derived.Lib.Hide
namespace Go.Proofs.Ytkplenmjmnaniaa
open Go.ChangeShapes Go.WideShapes Go.ChangeAt Go.RowKit
set_option linter.unusedVariables false

def ceilV (a b : Int) : Int := if 0 ≤ a ∧ a ≤ 1000000000000 ∧ 1 ≤ b ∧ b ≤ 1000000000000 then (a + b - 1) / b else 0
def modV (n m : Int) : Int := if 1 ≤ m ∧ m ≤ 1000000000000 then n % m else 0
def minV (a b : Int) : Int := if b < a then b else a
def maxV (a b : Int) : Int := if b > a then b else a
def inV (n a b : Int) : Bool := decide (a ≤ n) && decide (n ≤ b)
theorem ret_int {a b : Int} (h : a = b) : Ending.returned (.int .i64 a) = .returned (.int .i64 b) := by rw [h]
theorem ret_bool {a b : Bool} (h : a = b) : Ending.returned (.bool a) = .returned (.bool b) := by rw [h]

theorem tmod_emod (a b : Int) (h : 0 < b) : a % b = if a.tmod b < 0 then a.tmod b + b else a.tmod b := by
  have h1 := Int.tmod_lt_of_pos a h
  have h2 := Int.lt_tmod_of_pos a h
  have h3 : a = b * a.tdiv b + a.tmod b := (Int.mul_tdiv_add_tmod a b).symm
  have h4 : a % b = a.tmod b % b := by
    have : (b * a.tdiv b + a.tmod b) % b = a.tmod b % b := by rw [Int.add_comm, Int.add_mul_emod_self_left]
    rw [← h3] at this; exact this
  rw [h4]
  by_cases c : a.tmod b < 0
  · rw [if_pos c, ← Int.add_emod_right]; exact Int.emod_eq_of_lt (by omega) (by omega)
  · rw [if_neg c]; exact Int.emod_eq_of_lt (by omega) h1

theorem implCeil (a0 a1 : Int) (w : World) (h0 : -9223372036854775808 ≤ a0 ∧ a0 ≤ 9223372036854775807) (h1 : -9223372036854775808 ≤ a1 ∧ a1 ≤ 9223372036854775807) :
    Calls Try.prog 15 #[.int .i64 a0, .int .i64 a1] w fun e w' => e = .returned (.int .i64 (ceilV a0 a1)) ∧ w = w' := by
  obtain ⟨h0l, h0r⟩ := h0
  obtain ⟨h1l, h1r⟩ := h1
  by_cases c1 : 0 ≤ a0
  · by_cases c2 : a0 ≤ 1000000000000
    · by_cases c3 : 1 ≤ a1
      · by_cases c4 : a1 ≤ 1000000000000
        · have hv : ceilV a0 a1 = (a0 + a1 - 1) / a1 := if_pos ⟨c1, c2, c3, c4⟩
          have HV := Lib.hid hv
          clear hv
          go_enter Try.func15, Try.ntmps15
          go_wp2
          all_goals (go_ret; exact ⟨ret_int HV.out.symm, rfl⟩)
        · have hv : ceilV a0 a1 = 0 := if_neg (by omega)
          have HV := Lib.hid hv
          clear hv
          have c4' : 1000000000000 < a1 := by omega
          go_enter Try.func15, Try.ntmps15
          go_wp2
          all_goals (go_ret; exact ⟨ret_int HV.out.symm, rfl⟩)
      · have hv : ceilV a0 a1 = 0 := if_neg (by omega)
        have HV := Lib.hid hv
        clear hv
        have c4' : a1 < 1 := by omega
        go_enter Try.func15, Try.ntmps15
        go_wp2
        all_goals (go_ret; exact ⟨ret_int HV.out.symm, rfl⟩)
    · have hv : ceilV a0 a1 = 0 := if_neg (by omega)
      have HV := Lib.hid hv
      clear hv
      have c4' : 1000000000000 < a0 := by omega
      go_enter Try.func15, Try.ntmps15
      go_wp2
      all_goals (go_ret; exact ⟨ret_int HV.out.symm, rfl⟩)
  · have hv : ceilV a0 a1 = 0 := if_neg (by omega)
    have HV := Lib.hid hv
    clear hv
    have c4' : a0 < 0 := by omega
    go_enter Try.func15, Try.ntmps15
    go_wp2
    all_goals (go_ret; exact ⟨ret_int HV.out.symm, rfl⟩)

theorem implMod (a0 a1 : Int) (w : World) (h0 : -9223372036854775808 ≤ a0 ∧ a0 ≤ 9223372036854775807) (h1 : -9223372036854775808 ≤ a1 ∧ a1 ≤ 9223372036854775807) :
    Calls Try.prog 16 #[.int .i64 a0, .int .i64 a1] w fun e w' => e = .returned (.int .i64 (modV a0 a1)) ∧ w = w' := by
  obtain ⟨h0l, h0r⟩ := h0
  obtain ⟨h1l, h1r⟩ := h1
  by_cases c3 : 1 ≤ a1
  · by_cases c4 : a1 ≤ 1000000000000
    · have e1 := Int.tmod_lt_of_pos a0 (show 0 < a1 by omega)
      have e2 := Int.lt_tmod_of_pos a0 (show 0 < a1 by omega)
      have hv : modV a0 a1 = a0 % a1 := if_pos ⟨c3, c4⟩
      have et := tmod_emod a0 a1 (by omega)
      by_cases c5 : a0.tmod a1 < 0
      · have HV := Lib.hid (show modV a0 a1 = a0.tmod a1 + a1 by rw [hv, et, if_pos c5])
        have e3 : (a0.tmod a1 + a1) % a1 = a0.tmod a1 + a1 := Int.emod_eq_of_lt (by omega) (by omega)
        clear hv et
        go_enter Try.func16, Try.ntmps16
        go_wp2
        all_goals (go_ret; exact ⟨ret_int HV.out.symm, rfl⟩)
      · have c5' : 0 ≤ a0.tmod a1 := by omega
        have HV := Lib.hid (show modV a0 a1 = a0.tmod a1 by rw [hv, et, if_neg c5])
        have e3 : (a0.tmod a1 + a1) % a1 = a0.tmod a1 := by rw [Int.add_emod_right]; exact Int.emod_eq_of_lt (by omega) (by omega)
        clear hv et
        go_enter Try.func16, Try.ntmps16
        go_wp2
        all_goals (go_ret; exact ⟨ret_int HV.out.symm, rfl⟩)
    · have hv : modV a0 a1 = 0 := if_neg (by omega)
      have HV := Lib.hid hv
      clear hv
      have c4' : 1000000000000 < a1 := by omega
      go_enter Try.func16, Try.ntmps16
      go_wp2
      all_goals (go_ret; exact ⟨ret_int HV.out.symm, rfl⟩)
  · have hv : modV a0 a1 = 0 := if_neg (by omega)
    have HV := Lib.hid hv
    clear hv
    have c4' : a1 < 1 := by omega
    go_enter Try.func16, Try.ntmps16
    go_wp2
    all_goals (go_ret; exact ⟨ret_int HV.out.symm, rfl⟩)

theorem implMin (a0 a1 : Int) (w : World) :
    Calls Try.prog 19 #[.int .i64 a0, .int .i64 a1] w fun e w' => e = .returned (.int .i64 (minV a0 a1)) ∧ Below w.heap.size w w' := by
  by_cases c : a1 < a0
  · have hv : minV a0 a1 = a1 := if_pos c
    have HV := Lib.hid hv
    clear hv
    go_enter Try.func19, Try.ntmps19
    go_wp2
    go_rounds 2
    all_goals (go_ret; exact ⟨ret_int HV.out.symm, by go_grown⟩)
  · have hv : minV a0 a1 = a0 := if_neg c
    have HV := Lib.hid hv
    clear hv
    have c' : a0 ≤ a1 := by omega
    go_enter Try.func19, Try.ntmps19
    go_wp2
    go_rounds 2
    all_goals (go_ret; exact ⟨ret_int HV.out.symm, by go_grown⟩)

theorem implMax (a0 a1 : Int) (w : World) :
    Calls Try.prog 21 #[.int .i64 a0, .int .i64 a1] w fun e w' => e = .returned (.int .i64 (maxV a0 a1)) ∧ Below w.heap.size w w' := by
  by_cases c : a1 > a0
  · have hv : maxV a0 a1 = a1 := if_pos c
    have HV := Lib.hid hv
    clear hv
    go_enter Try.func21, Try.ntmps21
    go_wp2
    go_rounds 2
    all_goals (go_ret; exact ⟨ret_int HV.out.symm, by go_grown⟩)
  · have hv : maxV a0 a1 = a0 := if_neg c
    have HV := Lib.hid hv
    clear hv
    have c' : a1 ≤ a0 := by omega
    go_enter Try.func21, Try.ntmps21
    go_wp2
    go_rounds 2
    all_goals (go_ret; exact ⟨ret_int HV.out.symm, by go_grown⟩)

theorem implInRange (n a b : Int) (w : World) :
    Calls Try.prog 23 #[.int .i64 n, .int .i64 a, .int .i64 b] w fun e w' => e = .returned (.bool (inV n a b)) ∧ w = w' := by
  by_cases c : a ≤ n
  · have hv : inV n a b = decide (n ≤ b) := by unfold inV; simp [c]
    have HV := Lib.hid hv
    clear hv
    go_enter Try.func23, Try.ntmps23
    go_wp2
    all_goals (go_ret; exact ⟨ret_bool HV.out.symm, rfl⟩)
  · have hv : inV n a b = false := by unfold inV; simp [c]
    have HV := Lib.hid hv
    clear hv
    have c' : n < a := by omega
    go_enter Try.func23, Try.ntmps23
    go_wp2
    all_goals (go_ret; exact ⟨ret_bool HV.out.symm, rfl⟩)

theorem specCeil (a0 a1 : Int) (w : World) (h0 : -9223372036854775808 ≤ a0 ∧ a0 ≤ 9223372036854775807) (h1 : -9223372036854775808 ≤ a1 ∧ a1 ≤ 9223372036854775807) :
    Calls Try.prog 17 #[.int .i64 a0, .int .i64 a1] w fun e w' => e = .returned (.int .i64 (ceilV a0 a1)) ∧ w = w' := by
  obtain ⟨h0l, h0r⟩ := h0
  obtain ⟨h1l, h1r⟩ := h1
  by_cases c1 : 0 ≤ a0
  · by_cases c2 : a0 ≤ 1000000000000
    · by_cases c3 : 1 ≤ a1
      · by_cases c4 : a1 ≤ 1000000000000
        · have hv : ceilV a0 a1 = (a0 + a1 - 1) / a1 := if_pos ⟨c1, c2, c3, c4⟩
          have HV := Lib.hid hv
          clear hv
          go_enter Try.func17, Try.ntmps17
          go_wp2
          all_goals (go_ret; exact ⟨ret_int HV.out.symm, rfl⟩)
        · have hv : ceilV a0 a1 = 0 := if_neg (by omega)
          have HV := Lib.hid hv
          clear hv
          have c4' : 1000000000000 < a1 := by omega
          go_enter Try.func17, Try.ntmps17
          go_wp2
          all_goals (go_ret; exact ⟨ret_int HV.out.symm, rfl⟩)
      · have hv : ceilV a0 a1 = 0 := if_neg (by omega)
        have HV := Lib.hid hv
        clear hv
        have c4' : a1 < 1 := by omega
        go_enter Try.func17, Try.ntmps17
        go_wp2
        all_goals (go_ret; exact ⟨ret_int HV.out.symm, rfl⟩)
    · have hv : ceilV a0 a1 = 0 := if_neg (by omega)
      have HV := Lib.hid hv
      clear hv
      have c4' : 1000000000000 < a0 := by omega
      go_enter Try.func17, Try.ntmps17
      go_wp2
      all_goals (go_ret; exact ⟨ret_int HV.out.symm, rfl⟩)
  · have hv : ceilV a0 a1 = 0 := if_neg (by omega)
    have HV := Lib.hid hv
    clear hv
    have c4' : a0 < 0 := by omega
    go_enter Try.func17, Try.ntmps17
    go_wp2
    all_goals (go_ret; exact ⟨ret_int HV.out.symm, rfl⟩)

theorem specMod (a0 a1 : Int) (w : World) (h0 : -9223372036854775808 ≤ a0 ∧ a0 ≤ 9223372036854775807) (h1 : -9223372036854775808 ≤ a1 ∧ a1 ≤ 9223372036854775807) :
    Calls Try.prog 18 #[.int .i64 a0, .int .i64 a1] w fun e w' => e = .returned (.int .i64 (modV a0 a1)) ∧ w = w' := by
  obtain ⟨h0l, h0r⟩ := h0
  obtain ⟨h1l, h1r⟩ := h1
  by_cases c3 : 1 ≤ a1
  · by_cases c4 : a1 ≤ 1000000000000
    · have e1 := Int.tmod_lt_of_pos a0 (show 0 < a1 by omega)
      have e2 := Int.lt_tmod_of_pos a0 (show 0 < a1 by omega)
      have hv : modV a0 a1 = a0 % a1 := if_pos ⟨c3, c4⟩
      have et := tmod_emod a0 a1 (by omega)
      by_cases c5 : a0.tmod a1 < 0
      · have HV := Lib.hid (show modV a0 a1 = a0.tmod a1 + a1 by rw [hv, et, if_pos c5])
        have e3 : (a0.tmod a1 + a1) % a1 = a0.tmod a1 + a1 := Int.emod_eq_of_lt (by omega) (by omega)
        clear hv et
        go_enter Try.func18, Try.ntmps18
        go_wp2
        all_goals (go_ret; exact ⟨by first | exact ret_int HV.out.symm | exact ret_int (e3.trans HV.out.symm), rfl⟩)
      · have c5' : 0 ≤ a0.tmod a1 := by omega
        have HV := Lib.hid (show modV a0 a1 = a0.tmod a1 by rw [hv, et, if_neg c5])
        have e3 : (a0.tmod a1 + a1) % a1 = a0.tmod a1 := by rw [Int.add_emod_right]; exact Int.emod_eq_of_lt (by omega) (by omega)
        clear hv et
        go_enter Try.func18, Try.ntmps18
        go_wp2
        all_goals (go_ret; exact ⟨by first | exact ret_int HV.out.symm | exact ret_int (e3.trans HV.out.symm), rfl⟩)
    · have hv : modV a0 a1 = 0 := if_neg (by omega)
      have HV := Lib.hid hv
      clear hv
      have c4' : 1000000000000 < a1 := by omega
      go_enter Try.func18, Try.ntmps18
      go_wp2
      all_goals (go_ret; exact ⟨by first | exact ret_int HV.out.symm | exact ret_int (e3.trans HV.out.symm), rfl⟩)
  · have hv : modV a0 a1 = 0 := if_neg (by omega)
    have HV := Lib.hid hv
    clear hv
    have c4' : a1 < 1 := by omega
    go_enter Try.func18, Try.ntmps18
    go_wp2
    all_goals (go_ret; exact ⟨by first | exact ret_int HV.out.symm | exact ret_int (e3.trans HV.out.symm), rfl⟩)

theorem specMin (a0 a1 : Int) (w : World) :
    Calls Try.prog 20 #[.int .i64 a0, .int .i64 a1] w fun e w' => e = .returned (.int .i64 (minV a0 a1)) ∧ Below w.heap.size w w' := by
  by_cases c : a1 < a0
  · have hv : minV a0 a1 = a1 := if_pos c
    have HV := Lib.hid hv
    clear hv
    go_enter Try.func20, Try.ntmps20
    go_wp2
    skip
    all_goals (go_ret; exact ⟨ret_int HV.out.symm, by go_grown⟩)
  · have hv : minV a0 a1 = a0 := if_neg c
    have HV := Lib.hid hv
    clear hv
    have c' : a0 ≤ a1 := by omega
    go_enter Try.func20, Try.ntmps20
    go_wp2
    skip
    all_goals (go_ret; exact ⟨ret_int HV.out.symm, by go_grown⟩)

theorem specMax (a0 a1 : Int) (w : World) :
    Calls Try.prog 22 #[.int .i64 a0, .int .i64 a1] w fun e w' => e = .returned (.int .i64 (maxV a0 a1)) ∧ Below w.heap.size w w' := by
  by_cases c : a1 > a0
  · have hv : maxV a0 a1 = a1 := if_pos c
    have HV := Lib.hid hv
    clear hv
    go_enter Try.func22, Try.ntmps22
    go_wp2
    skip
    all_goals (go_ret; exact ⟨ret_int HV.out.symm, by go_grown⟩)
  · have hv : maxV a0 a1 = a0 := if_neg c
    have HV := Lib.hid hv
    clear hv
    have c' : a1 ≤ a0 := by omega
    go_enter Try.func22, Try.ntmps22
    go_wp2
    skip
    all_goals (go_ret; exact ⟨ret_int HV.out.symm, by go_grown⟩)

theorem specInRange (n a b : Int) (w : World) :
    Calls Try.prog 24 #[.int .i64 n, .int .i64 a, .int .i64 b] w fun e w' => e = .returned (.bool (inV n a b)) ∧ w = w' := by
  by_cases c : a ≤ n
  · have hv : inV n a b = decide (n ≤ b) := by unfold inV; simp [c]
    have HV := Lib.hid hv
    clear hv
    go_enter Try.func24, Try.ntmps24
    go_wp2
    all_goals (go_ret; exact ⟨ret_bool HV.out.symm, rfl⟩)
  · have hv : inV n a b = false := by unfold inV; simp [c]
    have HV := Lib.hid hv
    clear hv
    have c' : n < a := by omega
    go_enter Try.func24, Try.ntmps24
    go_wp2
    all_goals (go_ret; exact ⟨ret_bool HV.out.symm, rfl⟩)

end Go.Proofs.Ytkplenmjmnaniaa
