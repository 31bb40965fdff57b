
/- Transit between kinds of interfaces, of both sides. -/
import Derived.Test.YtpkgpaeecjlnoaaMakeSet
import Derived.Test.YtpkgpaeecjlnoaaSetOps
import Derived.Test.YtpkgpaeecjlnoaaRow
import Derived.Test.YtpkgpaeecjlnoaaRet
namespace Go.Proofs.Ytpkgpaeecjlnoaa
open Go.ChangeShapes Go.WideShapes Go.ChangeAt Go.RowKit
set_option linter.unusedVariables false
set_option maxRecDepth 100000 in
set_option maxHeartbeats 4000000 in
theorem implUnionT (a b : Int) (w : World) :
    Calls Try.prog 170 #[.int .i64 a, .int .i64 b] w fun e w' => e = .returned (.int .i64 (uniV a b)) ∧ w = w' := by
  by_cases cl1 : 0 ≤ a
  · by_cases ch1 : a ≤ 65535
    · have dh1 : decide (a ≤ 65535) = true := by simp; omega
      by_cases cl2 : 0 ≤ b
      · by_cases ch2 : b ≤ 65535
        · have dh2 : decide (b ≤ 65535) = true := by simp; omega
          have hv : uniV a b = bits .or .i64 a b := if_pos ⟨by omega, by omega, by omega, by omega⟩
          have HV := Lib.hid hv
          clear hv
          go_enter Try.func170, Try.ntmps170
          go_wp2_with go_in
          all_goals (go_ret; exact ⟨ret_i HV.out.symm, rfl⟩)
        · have dh2 : decide (b ≤ 65535) = false := by simp; omega
          have hv : uniV a b = 0 := if_neg (by omega)
          have HV := Lib.hid hv
          clear hv
          go_enter Try.func170, Try.ntmps170
          go_wp2_with go_in
          all_goals (go_ret; exact ⟨ret_i HV.out.symm, rfl⟩)
      · have dl2 : b < 0 := by omega
        have hv : uniV a b = 0 := if_neg (by omega)
        have HV := Lib.hid hv
        clear hv
        go_enter Try.func170, Try.ntmps170
        go_wp2_with go_in
        all_goals (go_ret; exact ⟨ret_i HV.out.symm, rfl⟩)
    · have dh1 : decide (a ≤ 65535) = false := by simp; omega
      have hv : uniV a b = 0 := if_neg (by omega)
      have HV := Lib.hid hv
      clear hv
      go_enter Try.func170, Try.ntmps170
      go_wp2_with go_in
      all_goals (go_ret; exact ⟨ret_i HV.out.symm, rfl⟩)
  · have dl1 : a < 0 := by omega
    have hv : uniV a b = 0 := if_neg (by omega)
    have HV := Lib.hid hv
    clear hv
    go_enter Try.func170, Try.ntmps170
    go_wp2_with go_in
    all_goals (go_ret; exact ⟨ret_i HV.out.symm, rfl⟩)
def outT (c : Bool) (p : Bool) (o : Int) : Bool := (c && (o == 1)) || ((o == 2) || ((p && (o == 3)) || (o == 5)))
def transB (i o : Int) : Bool := if i = 5 ∨ i = 2 then outT true true o else if i = 3 then outT false false o else if i = 1 then outT true false o else false
theorem has_set (o : Int) (m : Int) (c p : Bool) (h : ∀ k : Nat, k < 16 → hasB m k = outT c p k) (hm : 0 ≤ m ∧ m ≤ 65535) : hasB m o = outT c p o := by
  by_cases hr : 0 ≤ o ∧ o ≤ 15
  · obtain ⟨k, rfl⟩ : ∃ k : Nat, o = (k : Int) := ⟨o.toNat, by omega⟩
    exact h k (by omega)
  · have e1 : (o == 1) = false := by simp; omega
    have e2 : (o == 2) = false := by simp; omega
    have e3 : (o == 3) = false := by simp; omega
    have e5 : (o == 5) = false := by simp; omega
    unfold hasB outT
    rw [if_neg (by omega), e1, e2, e3, e5]
    cases c <;> cases p <;> rfl
theorem has46 (o : Int) : hasB 46 o = outT true true o := has_set o 46 true true (by decide +kernel) (by omega)
theorem has36 (o : Int) : hasB 36 o = outT false false o := has_set o 36 false false (by decide +kernel) (by omega)
theorem has38 (o : Int) : hasB 38 o = outT true false o := has_set o 38 true false (by decide +kernel) (by omega)
theorem has_none (o : Int) : hasB 0 o = false := by
  by_cases hr : 0 ≤ o ∧ o ≤ 15
  · obtain ⟨k, rfl⟩ : ∃ k : Nat, o = (k : Int) := ⟨o.toNat, by omega⟩
    exact (show ∀ k : Nat, k < 16 → hasB 0 k = false by decide +kernel) k (by omega)
  · unfold hasB; rw [if_neg (by omega)]
theorem set25 : msN [2, 5] 2 = 36 := by decide +kernel
theorem two_lit (w : World) : Has .i64 (w.alloc (.cells #[.int .i64 2, .int .i64 5] 3)) (w.alloc (.cells #[.int .i64 2, .int .i64 5] 3)).heap.size (some ⟨w.heap.size, 0, none⟩) 2 [2, 5] := by
  refine ⟨rfl, fun _ => ⟨_, 0, rfl, by simp, fun i hi => ?_⟩⟩
  rw [World.cell?_alloc_at _ _ _ _ rfl]
  match i, hi with
  | 0, _ => rfl
  | 1, _ => rfl

set_option maxRecDepth 100000 in
set_option maxHeartbeats 4000000 in
theorem specTransit (i o : Int) (w : World) : Calls Try.prog 120 #[.int .i64 i, .int .i64 o] w fun e w' => e = .returned (.bool (transB i o)) ∧ Mk0 w w' := by
  by_cases i5 : i = 5
  · subst i5
    by_cases o1 : o = 1
    · subst o1
      go_enter Try.func120, Try.ntmps120
      go_wp2
      go_ret
      exact ⟨rfl, Mk.refl _ _ _⟩
    have p1 : (o == 1) = false := by simpa using o1
    by_cases o2 : o = 2
    · subst o2
      go_enter Try.func120, Try.ntmps120
      go_wp2
      go_ret
      exact ⟨rfl, Mk.refl _ _ _⟩
    have p2 : (o == 2) = false := by simpa using o2
    by_cases o3 : o = 3
    · subst o3
      go_enter Try.func120, Try.ntmps120
      go_wp2
      go_ret
      exact ⟨rfl, Mk.refl _ _ _⟩
    have p3 : (o == 3) = false := by simpa using o3
    cases p5 : (o == 5)
    · clear o1 o2 o3
      have HR := Lib.hid (show transB 5 o = false by simp only [transB, outT, p1, p2, p3, p5]; rfl)
      go_enter Try.func120, Try.ntmps120
      go_wp2
      go_ret
      exact ⟨retB HR.out.symm, Mk.refl _ _ _⟩
    · clear o1 o2 o3
      have HR := Lib.hid (show transB 5 o = true by simp only [transB, outT, p1, p2, p3, p5]; rfl)
      go_enter Try.func120, Try.ntmps120
      go_wp2
      go_ret
      exact ⟨retB HR.out.symm, Mk.refl _ _ _⟩
  have n5 : (i == 5) = false := by simpa using i5
  by_cases i2 : i = 2
  · subst i2
    by_cases o1 : o = 1
    · subst o1
      go_enter Try.func120, Try.ntmps120
      go_wp2
      go_ret
      exact ⟨rfl, Mk.refl _ _ _⟩
    have p1 : (o == 1) = false := by simpa using o1
    by_cases o2 : o = 2
    · subst o2
      go_enter Try.func120, Try.ntmps120
      go_wp2
      go_ret
      exact ⟨rfl, Mk.refl _ _ _⟩
    have p2 : (o == 2) = false := by simpa using o2
    by_cases o3 : o = 3
    · subst o3
      go_enter Try.func120, Try.ntmps120
      go_wp2
      go_ret
      exact ⟨rfl, Mk.refl _ _ _⟩
    have p3 : (o == 3) = false := by simpa using o3
    cases p5 : (o == 5)
    · clear o1 o2 o3
      have HR := Lib.hid (show transB 2 o = false by simp only [transB, outT, p1, p2, p3, p5]; rfl)
      go_enter Try.func120, Try.ntmps120
      go_wp2
      go_ret
      exact ⟨retB HR.out.symm, Mk.refl _ _ _⟩
    · clear o1 o2 o3
      have HR := Lib.hid (show transB 2 o = true by simp only [transB, outT, p1, p2, p3, p5]; rfl)
      go_enter Try.func120, Try.ntmps120
      go_wp2
      go_ret
      exact ⟨retB HR.out.symm, Mk.refl _ _ _⟩
  have n2 : (i == 2) = false := by simpa using i2
  by_cases i3 : i = 3
  · subst i3
    by_cases o2 : o = 2
    · subst o2
      go_enter Try.func120, Try.ntmps120
      go_wp2
      go_ret
      exact ⟨rfl, Mk.refl _ _ _⟩
    have p2 : (o == 2) = false := by simpa using o2
    cases p5 : (o == 5)
    · clear o2
      have HR := Lib.hid (show transB 3 o = false by simp only [transB, outT, p2, p5]; rfl)
      go_enter Try.func120, Try.ntmps120
      go_wp2
      go_ret
      exact ⟨retB HR.out.symm, Mk.refl _ _ _⟩
    · clear o2
      have HR := Lib.hid (show transB 3 o = true by simp only [transB, outT, p2, p5]; rfl)
      go_enter Try.func120, Try.ntmps120
      go_wp2
      go_ret
      exact ⟨retB HR.out.symm, Mk.refl _ _ _⟩
  have n3 : (i == 3) = false := by simpa using i3
  by_cases i1 : i = 1
  · subst i1
    by_cases o1 : o = 1
    · subst o1
      go_enter Try.func120, Try.ntmps120
      go_wp2
      go_ret
      exact ⟨rfl, Mk.refl _ _ _⟩
    have p1 : (o == 1) = false := by simpa using o1
    by_cases o2 : o = 2
    · subst o2
      go_enter Try.func120, Try.ntmps120
      go_wp2
      go_ret
      exact ⟨rfl, Mk.refl _ _ _⟩
    have p2 : (o == 2) = false := by simpa using o2
    cases p5 : (o == 5)
    · clear o1 o2
      have HR := Lib.hid (show transB 1 o = false by simp only [transB, outT, p1, p2, p5]; rfl)
      go_enter Try.func120, Try.ntmps120
      go_wp2
      go_ret
      exact ⟨retB HR.out.symm, Mk.refl _ _ _⟩
    · clear o1 o2
      have HR := Lib.hid (show transB 1 o = true by simp only [transB, outT, p1, p2, p5]; rfl)
      go_enter Try.func120, Try.ntmps120
      go_wp2
      go_ret
      exact ⟨retB HR.out.symm, Mk.refl _ _ _⟩
  have n1 : (i == 1) = false := by simpa using i1
  have HR := Lib.hid (show transB i o = false by unfold transB; rw [if_neg (by omega), if_neg i3, if_neg i1])
  clear i5 i2 i3 i1
  go_enter Try.func120, Try.ntmps120
  go_wp2
  go_ret
  exact ⟨retB HR.out.symm, Mk.refl _ _ _⟩

set_option maxRecDepth 100000 in
set_option maxHeartbeats 4000000 in
theorem implTransit (i o : Int) (w : World) : Calls Try.prog 122 #[.int .i64 i, .int .i64 o] w fun e w' => e = .returned (.bool (transB i o)) ∧ Mk0 w w' := by
  by_cases i5 : i = 5
  · subst i5
    have HR := Lib.hid (show transB 5 o = outT true true o from if_pos (.inl rfl))
    go_enter Try.func122, Try.ntmps122
    go_wp2_with fail
    refine (implAddElement 0 3 _).mono ?_
    rintro e w' ⟨he, rfl⟩
    rw [show addV 0 3 = 8 by decide +kernel] at he
    subst he
    go_wp2_with fail
    refine (implAddElement 8 1 _).mono ?_
    rintro e w' ⟨he, rfl⟩
    rw [show addV 8 1 = 10 by decide +kernel] at he
    subst he
    go_wp2_with fail
    refine (implMakeSet (some ⟨w.heap.size, 0, none⟩) 2 2 _ [2, 5] _ (two_lit w) (by omega)).mono ?_
    rintro e w' ⟨he, rfl⟩
    rw [set25] at he
    subst he
    go_wp2_with fail
    refine (implUnionT 10 36 _).mono ?_
    rintro e w' ⟨he, rfl⟩
    rw [show uniV 10 36 = 46 by decide +kernel] at he
    subst he
    go_wp2_with fail
    refine (implContains 46 o _).mono ?_
    rintro e w' ⟨he, rfl⟩
    rw [has46] at he
    subst he
    go_wp2_with fail
    go_ret
    exact ⟨retB HR.out.symm, Mk.alloc _ _⟩
  have n5 : (i == 5) = false := by simpa using i5
  by_cases i2 : i = 2
  · subst i2
    have HR := Lib.hid (show transB 2 o = outT true true o from if_pos (.inr rfl))
    go_enter Try.func122, Try.ntmps122
    go_wp2_with fail
    refine (implAddElement 0 3 _).mono ?_
    rintro e w' ⟨he, rfl⟩
    rw [show addV 0 3 = 8 by decide +kernel] at he
    subst he
    go_wp2_with fail
    refine (implAddElement 8 1 _).mono ?_
    rintro e w' ⟨he, rfl⟩
    rw [show addV 8 1 = 10 by decide +kernel] at he
    subst he
    go_wp2_with fail
    refine (implMakeSet (some ⟨w.heap.size, 0, none⟩) 2 2 _ [2, 5] _ (two_lit w) (by omega)).mono ?_
    rintro e w' ⟨he, rfl⟩
    rw [set25] at he
    subst he
    go_wp2_with fail
    refine (implUnionT 10 36 _).mono ?_
    rintro e w' ⟨he, rfl⟩
    rw [show uniV 10 36 = 46 by decide +kernel] at he
    subst he
    go_wp2_with fail
    refine (implContains 46 o _).mono ?_
    rintro e w' ⟨he, rfl⟩
    rw [has46] at he
    subst he
    go_wp2_with fail
    go_ret
    exact ⟨retB HR.out.symm, Mk.alloc _ _⟩
  have n2 : (i == 2) = false := by simpa using i2
  by_cases i3 : i = 3
  · subst i3
    have HR := Lib.hid (show transB 3 o = outT false false o from by unfold transB; rw [if_neg (by omega), if_pos rfl])
    go_enter Try.func122, Try.ntmps122
    go_wp2_with fail
    refine (implMakeSet (some ⟨w.heap.size, 0, none⟩) 2 2 _ [2, 5] _ (two_lit w) (by omega)).mono ?_
    rintro e w' ⟨he, rfl⟩
    rw [set25] at he
    subst he
    go_wp2_with fail
    refine (implUnionT 0 36 _).mono ?_
    rintro e w' ⟨he, rfl⟩
    rw [show uniV 0 36 = 36 by decide +kernel] at he
    subst he
    go_wp2_with fail
    refine (implContains 36 o _).mono ?_
    rintro e w' ⟨he, rfl⟩
    rw [has36] at he
    subst he
    go_wp2_with fail
    go_ret
    exact ⟨retB HR.out.symm, Mk.alloc _ _⟩
  have n3 : (i == 3) = false := by simpa using i3
  by_cases i1 : i = 1
  · subst i1
    have HR := Lib.hid (show transB 1 o = outT true false o from by unfold transB; rw [if_neg (by omega), if_neg (by omega), if_pos rfl])
    go_enter Try.func122, Try.ntmps122
    go_wp2_with fail
    refine (implAddElement 0 1 _).mono ?_
    rintro e w' ⟨he, rfl⟩
    rw [show addV 0 1 = 2 by decide +kernel] at he
    subst he
    go_wp2_with fail
    refine (implMakeSet (some ⟨w.heap.size, 0, none⟩) 2 2 _ [2, 5] _ (two_lit w) (by omega)).mono ?_
    rintro e w' ⟨he, rfl⟩
    rw [set25] at he
    subst he
    go_wp2_with fail
    refine (implUnionT 2 36 _).mono ?_
    rintro e w' ⟨he, rfl⟩
    rw [show uniV 2 36 = 38 by decide +kernel] at he
    subst he
    go_wp2_with fail
    refine (implContains 38 o _).mono ?_
    rintro e w' ⟨he, rfl⟩
    rw [has38] at he
    subst he
    go_wp2_with fail
    go_ret
    exact ⟨retB HR.out.symm, Mk.alloc _ _⟩
  have n1 : (i == 1) = false := by simpa using i1
  have HR := Lib.hid (show transB i o = false by unfold transB; rw [if_neg (by omega), if_neg i3, if_neg i1])
  clear i5 i2 i3 i1
  go_enter Try.func122, Try.ntmps122
  go_wp2_with fail
  refine (implContains 0 o _).mono ?_
  rintro e w' ⟨he, rfl⟩
  rw [has_none o] at he
  subst he
  go_wp2_with fail
  go_ret
  exact ⟨retB HR.out.symm, Mk.refl _ _ _⟩
end Go.Proofs.Ytpkgpaeecjlnoaa
