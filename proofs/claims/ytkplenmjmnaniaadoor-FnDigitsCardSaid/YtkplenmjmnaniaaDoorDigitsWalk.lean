/- The walk of the law on digits. -/
import Derived.Test.YtkplenmjmnaniaaDoorDrawStr
import Derived.Test.YtkplenmjmnaniaaDoorDigitsMath
import Derived.Test.YtkplenmjmnaniaaDoorParse
import Derived.Test.YtkplenmjmnaniaaDoorLaid
namespace Go.Proofs.YtkplenmjmnaniaaDoor
open Go.ChangeShapes Go.WideShapes Go.ChangeAt Go.RowKit
set_option linter.unusedVariables false

set_option maxRecDepth 100000 in
set_option maxHeartbeats 4000000 in
theorem digitsWalk (a0 : Option Addr) (len0 cap0 : Nat) (z0 : List Int) (w : World) (w0 : IsRow .u8 w a0 len0 cap0 z0) (htab : Lib.TabIs Tryd.prog w "internal/strconv.uint64pow10" .u64 Lib.pow10Tab) :
    Calls Tryd.prog 3 #[.slice a0 len0 cap0] w fun e w' => e = .returned (.bool true) ∧ Below w.heap.size w w' := by
  have hb := w0.bytes8
  by_cases hbig : 1048576 < len0
  · have hbig' : (1048576 : Int) < (len0 : Int) := by omega
    go_enter Tryd.func3, Tryd.ntmps3
    go_wp2
    go_ret
    exact ⟨rfl, Below.refl _ _⟩
  have hbig' : (len0 : Int) ≤ 1048576 := by omega
  have hb1 : decide ((1048576 : Int) < (len0 : Int)) = false := by simp; omega
  clear w0
  have HB := Lib.hid hb
  have HT := Lib.hid htab
  clear hb htab
  go_enter Tryd.func3, Tryd.ntmps3
  go_wp2_with (go_at_call 5; go_in)
  refine (drawFormat a0 len0 cap0 _ HB.out (by omega)).mono ?_
  rintro e w1 ⟨⟨n, rfl, hn⟩, hw1⟩
  obtain ⟨hn0, hn1⟩ := hn
  have HB1 := Lib.hid (HB.out.next hw1)
  have HT1 := Lib.hid (tab_below HT.out hw1)
  go_wp2_with fail
  refine (drawParse a0 len0 cap0 _ HB1.out (by omega)).mono ?_
  rintro e w2 ⟨⟨s, rfl, hs⟩, hw2⟩
  have HS := Lib.hid (show s.size ≤ maxLen by unfold maxLen; omega)
  clear hs
  have HT2 := Lib.hid (tab_below HT1.out hw2)
  have HL := Lib.hid (Lib.itoa_length_le n hn0 hn1)
  have HW2 := Lib.hid (Below.seq hw1 hw2)
  clear hw1 hw2
  go_wp2_with fail
  refine (implFormatInt n hn0 hn1 _ HT2.out).mono ?_
  rintro e w3 ⟨rfl, hw3⟩
  have HT3 := Lib.hid (tab_below HT2.out hw3)
  have HW3 := Lib.hid (Below.seq HW2.out hw3)
  clear hw3
  go_wp2_with fail
  refine (implParse _ _ (by have := HL.out; unfold maxLen; show (Lib.itoa n).toArray.size ≤ _; simp; omega)).mono ?_
  rintro e w4 ⟨rfl, rfl⟩
  have E1 := Lib.hid (Num.ok_itoa n)
  go_wp2_with fail
  refine (implParse s _ HS.out).mono ?_
  rintro e w5 ⟨rfl, rfl⟩
  go_wp2_with fail
  refine (specParse s _ HS.out).mono ?_
  rintro e w6 ⟨rfl, hw6⟩
  have HT6 := Lib.hid (tab_below HT3.out hw6)
  have HW6 := Lib.hid (Below.seq HW3.out hw6)
  clear hw6
  go_wp2_with fail
  refine (implFormatInt n hn0 hn1 _ HT6.out).mono ?_
  rintro e w7 ⟨rfl, hw7⟩
  have HT7 := Lib.hid (tab_below HT6.out hw7)
  have HW7 := Lib.hid (Below.seq HW6.out hw7)
  clear hw7
  go_wp2_with fail
  refine (specFormatInt n hn0 hn1 _).mono ?_
  rintro e w8 ⟨rfl, hw8⟩
  have HT8 := Lib.hid (tab_below HT7.out hw8)
  have HW8 := Lib.hid (Below.seq HW7.out hw8)
  clear hw8
  have V1 := Lib.hid (fun h0 h1 => Num.val_itoa (n := n) h0 h1)
  have G := Lib.hid (fun h => Num.itoa_val (l := s.data.toList) h)
  have PN := Lib.hid (fun h => Num.pOk_no (l := s.data.toList) h)
  have PY := Lib.hid (fun h => Num.pOk_yes (l := s.data.toList) h)
  have PV := Lib.hid (fun h => Num.pVal_yes (l := s.data.toList) h)
  generalize ho1 : Num.pOk (Lib.itoa n) = o1 at *
  generalize hv1 : Num.pVal (Lib.itoa n) = v1 at *
  generalize ho2 : Num.pOk s.data.toList = o2 at *
  generalize hv2 : Num.pVal s.data.toList = v2 at *
  clear ho1 hv1 ho2 hv2
  have key : (0 ≤ n ∧ n ≤ 1000000000000 ∧ o1 = true ∧ v1 = n) ∨ (n < 0 ∧ o1 = false) ∨ (0 ≤ n ∧ 1000000000000 < n ∧ o1 = false) := by
    by_cases c1 : 0 ≤ n
    · by_cases c2 : n ≤ 1000000000000
      · exact .inl ⟨c1, c2, by rw [E1.out]; exact decide_eq_true ⟨c1, c2⟩, V1.out c1 c2⟩
      · exact .inr (.inr ⟨c1, by omega, by rw [E1.out]; exact decide_eq_false (by omega)⟩)
    · exact .inr (.inl ⟨by omega, by rw [E1.out]; exact decide_eq_false (by omega)⟩)
  have key2 : (o2 = false) ∨ (o2 = true ∧ 0 ≤ v2 ∧ v2 ≤ 1000000000000 ∧ Lib.itoa v2 = s.data.toList) := by
    by_cases c : Num.good s.data.toList
    · refine .inr ⟨PY.out c, ?_, ?_, G.out c⟩
      · rw [PV.out c]; omega
      · rw [PV.out c]; have := c.2.2.2; omega
    · exact .inl (PN.out c)
  clear E1 V1 G PN PY PV
  rcases key with ⟨k1, k2, rfl, rfl⟩ | ⟨k1, rfl⟩ | ⟨k1, k2, rfl⟩
  · have d1 : decide (v1 ≤ (1000000000000 : Int)) = true := by simp; omega
    rcases key2 with rfl | ⟨rfl, k4, k5, k6⟩
    · go_wp2_with fail
      go_ret
      exact ⟨rfl, HW8.out⟩
    · have K6 := Lib.hid k6
      clear k6
      go_wp2_with fail
      refine (implFormatInt v2 (by omega) (by omega) _ HT8.out).mono ?_
      rintro e w9 ⟨rfl, hw9⟩
      have k6 := K6.out
      have HW9 := Lib.hid (Below.seq HW8.out hw9)
      clear hw9
      go_wp2_with fail
      go_ret
      exact ⟨rfl, HW9.out⟩
  · rcases key2 with rfl | ⟨rfl, k4, k5, k6⟩
    · go_wp2_with fail
      go_ret
      exact ⟨rfl, HW8.out⟩
    · have K6 := Lib.hid k6
      clear k6
      go_wp2_with fail
      refine (implFormatInt v2 (by omega) (by omega) _ HT8.out).mono ?_
      rintro e w9 ⟨rfl, hw9⟩
      have k6 := K6.out
      have HW9 := Lib.hid (Below.seq HW8.out hw9)
      clear hw9
      go_wp2_with fail
      go_ret
      exact ⟨rfl, HW9.out⟩
  · have d1 : decide (n ≤ (1000000000000 : Int)) = false := by simp; omega
    rcases key2 with rfl | ⟨rfl, k4, k5, k6⟩
    · go_wp2_with fail
      go_ret
      exact ⟨rfl, HW8.out⟩
    · have K6 := Lib.hid k6
      clear k6
      go_wp2_with fail
      refine (implFormatInt v2 (by omega) (by omega) _ HT8.out).mono ?_
      rintro e w9 ⟨rfl, hw9⟩
      have k6 := K6.out
      have HW9 := Lib.hid (Below.seq HW8.out hw9)
      clear hw9
      go_wp2_with fail
      go_ret
      exact ⟨rfl, HW9.out⟩
end Go.Proofs.YtkplenmjmnaniaaDoor
