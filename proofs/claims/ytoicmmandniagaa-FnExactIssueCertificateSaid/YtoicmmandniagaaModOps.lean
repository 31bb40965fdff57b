
/- The remainder, by the program and by the model. -/
import Derived.Test.YtoicmmandniagaaBase
import Derived.Test.YtoicmmandniagaaRows
import Derived.Handy
import Derived.Below
import Derived.Lib.Hide
namespace Go.Proofs.Ytoicmmandniagaa
open Go.ChangeShapes Go.WideShapes Go.ChangeAt Go.RowKit
set_option linter.unusedVariables false
def modV (n m : Int) : Int := if 1 ≤ m ∧ m ≤ 1000000000000 then n % m else 0
theorem ret_int {a b : Int} (h : a = b) : Ending.returned (.int .i64 a) = .returned (.int .i64 b) := by rw [h]
theorem ret_bool {a b : Bool} (h : a = b) : Ending.returned (.bool a) = .returned (.bool b) := by rw [h]
theorem tmod_emod (a b : Int) (h : 0 < b) : a % b = if a.tmod b < 0 then a.tmod b + b else a.tmod b := by
  have h1 := Int.tmod_lt_of_pos a h
  have h2 := Int.lt_tmod_of_pos a h
  have h3 : a = b * a.tdiv b + a.tmod b := (Int.mul_tdiv_add_tmod a b).symm
  have h4 : a % b = a.tmod b % b := by
    have : (b * a.tdiv b + a.tmod b) % b = a.tmod b % b := by rw [Int.add_comm, Int.add_mul_emod_self_left]
    rw [← h3] at this; exact this
  rw [h4]
  by_cases c : a.tmod b < 0
  · rw [if_pos c, ← Int.add_emod_right]; exact Int.emod_eq_of_lt (by omega) (by omega)
  · rw [if_neg c]; exact Int.emod_eq_of_lt (by omega) h1

theorem implMod (a0 a1 : Int) (w : World) (h0 : -9223372036854775808 ≤ a0 ∧ a0 ≤ 9223372036854775807) (h1 : -9223372036854775808 ≤ a1 ∧ a1 ≤ 9223372036854775807) :
    Calls Try.prog 60 #[.int .i64 a0, .int .i64 a1] w fun e w' => e = .returned (.int .i64 (modV a0 a1)) ∧ w = w' := by
  obtain ⟨h0l, h0r⟩ := h0
  obtain ⟨h1l, h1r⟩ := h1
  by_cases c3 : 1 ≤ a1
  · by_cases c4 : a1 ≤ 1000000000000
    · have e1 := Int.tmod_lt_of_pos a0 (show 0 < a1 by omega)
      have e2 := Int.lt_tmod_of_pos a0 (show 0 < a1 by omega)
      have hv : modV a0 a1 = a0 % a1 := if_pos ⟨c3, c4⟩
      have et := tmod_emod a0 a1 (by omega)
      by_cases c5 : a0.tmod a1 < 0
      · have HV := Lib.hid (show modV a0 a1 = a0.tmod a1 + a1 by rw [hv, et, if_pos c5])
        have e3 : (a0.tmod a1 + a1) % a1 = a0.tmod a1 + a1 := Int.emod_eq_of_lt (by omega) (by omega)
        clear hv et
        go_enter Try.func60, Try.ntmps60
        go_wp2
        all_goals (go_ret; exact ⟨ret_int HV.out.symm, rfl⟩)
      · have c5' : 0 ≤ a0.tmod a1 := by omega
        have HV := Lib.hid (show modV a0 a1 = a0.tmod a1 by rw [hv, et, if_neg c5])
        have e3 : (a0.tmod a1 + a1) % a1 = a0.tmod a1 := by rw [Int.add_emod_right]; exact Int.emod_eq_of_lt (by omega) (by omega)
        clear hv et
        go_enter Try.func60, Try.ntmps60
        go_wp2
        all_goals (go_ret; exact ⟨ret_int HV.out.symm, rfl⟩)
    · have hv : modV a0 a1 = 0 := if_neg (by omega)
      have HV := Lib.hid hv
      clear hv
      have c4' : 1000000000000 < a1 := by omega
      go_enter Try.func60, Try.ntmps60
      go_wp2
      all_goals (go_ret; exact ⟨ret_int HV.out.symm, rfl⟩)
  · have hv : modV a0 a1 = 0 := if_neg (by omega)
    have HV := Lib.hid hv
    clear hv
    have c4' : a1 < 1 := by omega
    go_enter Try.func60, Try.ntmps60
    go_wp2
    all_goals (go_ret; exact ⟨ret_int HV.out.symm, rfl⟩)

theorem specMod (a0 a1 : Int) (w : World) (h0 : -9223372036854775808 ≤ a0 ∧ a0 ≤ 9223372036854775807) (h1 : -9223372036854775808 ≤ a1 ∧ a1 ≤ 9223372036854775807) :
    Calls Try.prog 46 #[.int .i64 a0, .int .i64 a1] w fun e w' => e = .returned (.int .i64 (modV a0 a1)) ∧ w = w' := by
  obtain ⟨h0l, h0r⟩ := h0
  obtain ⟨h1l, h1r⟩ := h1
  by_cases c3 : 1 ≤ a1
  · by_cases c4 : a1 ≤ 1000000000000
    · have e1 := Int.tmod_lt_of_pos a0 (show 0 < a1 by omega)
      have e2 := Int.lt_tmod_of_pos a0 (show 0 < a1 by omega)
      have hv : modV a0 a1 = a0 % a1 := if_pos ⟨c3, c4⟩
      have et := tmod_emod a0 a1 (by omega)
      by_cases c5 : a0.tmod a1 < 0
      · have HV := Lib.hid (show modV a0 a1 = a0.tmod a1 + a1 by rw [hv, et, if_pos c5])
        have e3 : (a0.tmod a1 + a1) % a1 = a0.tmod a1 + a1 := Int.emod_eq_of_lt (by omega) (by omega)
        clear hv et
        go_enter Try.func46, Try.ntmps46
        go_wp2
        all_goals (go_ret; exact ⟨by first | exact ret_int HV.out.symm | exact ret_int (e3.trans HV.out.symm), rfl⟩)
      · have c5' : 0 ≤ a0.tmod a1 := by omega
        have HV := Lib.hid (show modV a0 a1 = a0.tmod a1 by rw [hv, et, if_neg c5])
        have e3 : (a0.tmod a1 + a1) % a1 = a0.tmod a1 := by rw [Int.add_emod_right]; exact Int.emod_eq_of_lt (by omega) (by omega)
        clear hv et
        go_enter Try.func46, Try.ntmps46
        go_wp2
        all_goals (go_ret; exact ⟨by first | exact ret_int HV.out.symm | exact ret_int (e3.trans HV.out.symm), rfl⟩)
    · have hv : modV a0 a1 = 0 := if_neg (by omega)
      have HV := Lib.hid hv
      clear hv
      have c4' : 1000000000000 < a1 := by omega
      go_enter Try.func46, Try.ntmps46
      go_wp2
      all_goals (go_ret; exact ⟨by first | exact ret_int HV.out.symm | exact ret_int (e3.trans HV.out.symm), rfl⟩)
  · have hv : modV a0 a1 = 0 := if_neg (by omega)
    have HV := Lib.hid hv
    clear hv
    have c4' : a1 < 1 := by omega
    go_enter Try.func46, Try.ntmps46
    go_wp2
    all_goals (go_ret; exact ⟨by first | exact ret_int HV.out.symm | exact ret_int (e3.trans HV.out.symm), rfl⟩)
end Go.Proofs.Ytoicmmandniagaa
namespace Go.Proofs.Ytoicmmandniagaa
open Go.ChangeShapes Go.WideShapes Go.ChangeAt Go.RowKit
set_option linter.unusedVariables false
def addM (b s : Int) : Int := if 0 ≤ b ∧ b ≤ 2147483646 ∧ 0 ≤ s ∧ s ≤ 2147483646 then (b + s) % 2147483647 else 0
def subM (b s : Int) : Int := if 0 ≤ b ∧ b ≤ 2147483646 ∧ 0 ≤ s ∧ s ≤ 2147483646 then (b - s) % 2147483647 else 0
def keyB (k : Int) : Bool := if 1 ≤ k ∧ k ≤ 2147483646 then true else false
theorem tmod_small {x p : Int} (h1 : x < 0) (h2 : -p < x) : x.tmod p = x := by
  have h3 : (-x).tmod p = -x := Int.tmod_eq_of_lt (by omega) (by omega)
  rw [Int.neg_tmod] at h3
  omega
end Go.Proofs.Ytoicmmandniagaa
