
/- Stricter of both sides. -/
import Derived.Test.YtifcpefaeleceaaPol
import Derived.Deep.QuietTactic
import Derived.BigQuiet
namespace Go.Proofs.Ytifcpefaeleceaa
open Go.ChangeShapes Go.WideShapes Go.ChangeAt Go.RowKit
set_option linter.unusedVariables false
def unionV (a b : Int) : Int := if 0 ≤ a ∧ a ≤ 65535 ∧ 0 ≤ b ∧ b ≤ 65535 then bits .or .i64 a b else 0
def strictB (x y : TPolicy) : Bool := decide (x.len ≤ y.len) && decide (x.life ≤ y.life) && (unionV x.denied y.denied == x.denied) && (unionV x.closed y.closed == x.closed)
set_option maxRecDepth 100000 in
set_option maxHeartbeats 1600000 in
theorem specUnion (a b : Int) (w : World) :
    Calls Try.prog 43 #[.int .i64 a, .int .i64 b] w fun e w' => e = .returned (.int .i64 (unionV a b)) ∧ w = w' := by
  by_cases cl1 : 0 ≤ a
  · by_cases ch1 : a ≤ 65535
    · have dh1 : decide (a ≤ 65535) = true := by simp; omega
      by_cases cl2 : 0 ≤ b
      · by_cases ch2 : b ≤ 65535
        · have dh2 : decide (b ≤ 65535) = true := by simp; omega
          have hv : unionV a b = bits .or .i64 a b := if_pos ⟨by omega, by omega, by omega, by omega⟩
          have HV := Lib.hid hv
          clear hv
          go_enter Try.func43, Try.ntmps43
          go_wp2_with go_in
          all_goals (go_ret; exact ⟨retI HV.out.symm, rfl⟩)
        · have dh2 : decide (b ≤ 65535) = false := by simp; omega
          have hv : unionV a b = 0 := if_neg (by omega)
          have HV := Lib.hid hv
          clear hv
          go_enter Try.func43, Try.ntmps43
          go_wp2_with go_in
          all_goals (go_ret; exact ⟨retI HV.out.symm, rfl⟩)
      · have dl2 : b < 0 := by omega
        have hv : unionV a b = 0 := if_neg (by omega)
        have HV := Lib.hid hv
        clear hv
        go_enter Try.func43, Try.ntmps43
        go_wp2_with go_in
        all_goals (go_ret; exact ⟨retI HV.out.symm, rfl⟩)
    · have dh1 : decide (a ≤ 65535) = false := by simp; omega
      have hv : unionV a b = 0 := if_neg (by omega)
      have HV := Lib.hid hv
      clear hv
      go_enter Try.func43, Try.ntmps43
      go_wp2_with go_in
      all_goals (go_ret; exact ⟨retI HV.out.symm, rfl⟩)
  · have dl1 : a < 0 := by omega
    have hv : unionV a b = 0 := if_neg (by omega)
    have HV := Lib.hid hv
    clear hv
    go_enter Try.func43, Try.ntmps43
    go_wp2_with go_in
    all_goals (go_ret; exact ⟨retI HV.out.symm, rfl⟩)

set_option maxRecDepth 100000 in
set_option maxHeartbeats 1600000 in
theorem implUnion (a b : Int) (w : World) :
    Calls Try.prog 44 #[.int .i64 a, .int .i64 b] w fun e w' => e = .returned (.int .i64 (unionV a b)) ∧ w = w' := by
  by_cases cl1 : 0 ≤ a
  · by_cases ch1 : a ≤ 65535
    · have dh1 : decide (a ≤ 65535) = true := by simp; omega
      by_cases cl2 : 0 ≤ b
      · by_cases ch2 : b ≤ 65535
        · have dh2 : decide (b ≤ 65535) = true := by simp; omega
          have hv : unionV a b = bits .or .i64 a b := if_pos ⟨by omega, by omega, by omega, by omega⟩
          have HV := Lib.hid hv
          clear hv
          go_enter Try.func44, Try.ntmps44
          go_wp2_with go_in
          all_goals (go_ret; exact ⟨retI HV.out.symm, rfl⟩)
        · have dh2 : decide (b ≤ 65535) = false := by simp; omega
          have hv : unionV a b = 0 := if_neg (by omega)
          have HV := Lib.hid hv
          clear hv
          go_enter Try.func44, Try.ntmps44
          go_wp2_with go_in
          all_goals (go_ret; exact ⟨retI HV.out.symm, rfl⟩)
      · have dl2 : b < 0 := by omega
        have hv : unionV a b = 0 := if_neg (by omega)
        have HV := Lib.hid hv
        clear hv
        go_enter Try.func44, Try.ntmps44
        go_wp2_with go_in
        all_goals (go_ret; exact ⟨retI HV.out.symm, rfl⟩)
    · have dh1 : decide (a ≤ 65535) = false := by simp; omega
      have hv : unionV a b = 0 := if_neg (by omega)
      have HV := Lib.hid hv
      clear hv
      go_enter Try.func44, Try.ntmps44
      go_wp2_with go_in
      all_goals (go_ret; exact ⟨retI HV.out.symm, rfl⟩)
  · have dl1 : a < 0 := by omega
    have hv : unionV a b = 0 := if_neg (by omega)
    have HV := Lib.hid hv
    clear hv
    go_enter Try.func44, Try.ntmps44
    go_wp2_with go_in
    all_goals (go_ret; exact ⟨retI HV.out.symm, rfl⟩)

set_option maxRecDepth 100000 in
set_option maxHeartbeats 4000000 in
theorem specStrict (x y : TPolicy) (w : World) : Calls Try.prog 22 #[.agg #[.int .i64 x.len, .int .i64 x.denied, .int .i64 x.closed, .int .i64 x.life], .agg #[.int .i64 y.len, .int .i64 y.denied, .int .i64 y.closed, .int .i64 y.life]] w fun e w' => e = .returned (.bool (strictB x y)) ∧ Mk0 w w' := by
  cases h1 : decide (x.len ≤ y.len)
  · have HR := Lib.hid (show strictB x y = false by unfold strictB; rw [h1]; simp)
    go_enter Try.func22, Try.ntmps22
    go_wp2_with fail
    go_quiet ((go_at_call 43; exact Calls.quiet_of_same ((specUnion _ _ _).mono fun _ _ ⟨p, q⟩ => ⟨p, q.symm⟩)))
    go_wp2_with fail
    go_ret
    exact ⟨retB HR.out.symm, ((Mk.alloc w _).new _).trans (Mk.drewN _ _)⟩
  · skip
    cases h2 : decide (x.life ≤ y.life)
    · have HR := Lib.hid (show strictB x y = false by unfold strictB; rw [h1, h2]; simp)
      have g1 : x.len ≤ y.len := of_decide_eq_true h1
      go_enter Try.func22, Try.ntmps22
      go_wp2_with fail
      go_quiet ((go_at_call 43; exact Calls.quiet_of_same ((specUnion _ _ _).mono fun _ _ ⟨p, q⟩ => ⟨p, q.symm⟩)))
      go_wp2_with fail
      go_ret
      exact ⟨retB HR.out.symm, ((Mk.alloc w _).new _).trans (Mk.drewN _ _)⟩
    · skip
      cases h3 : (unionV x.denied y.denied == x.denied)
      · have HR := Lib.hid (show strictB x y = false by unfold strictB; rw [h1, h2, h3]; simp)
        have g1 : x.len ≤ y.len := of_decide_eq_true h1
        have g2 : x.life ≤ y.life := of_decide_eq_true h2
        go_enter Try.func22, Try.ntmps22
        go_wp2_with fail
        go_quiet ((go_at_call 43; exact Calls.quiet_of_same ((specUnion _ _ _).mono fun _ _ ⟨p, q⟩ => ⟨p, q.symm⟩)))
        go_wp2_with fail
        go_ret
        exact ⟨retB HR.out.symm, ((Mk.alloc w _).new _).trans (Mk.drewN _ _)⟩
      · skip
        cases h4 : (unionV x.closed y.closed == x.closed)
        · have HR := Lib.hid (show strictB x y = false by unfold strictB; rw [h1, h2, h3, h4]; rfl)
          have g1 : x.len ≤ y.len := of_decide_eq_true h1
          have g2 : x.life ≤ y.life := of_decide_eq_true h2
          go_enter Try.func22, Try.ntmps22
          go_wp2_with fail
          go_quiet ((go_at_call 43; exact Calls.quiet_of_same ((specUnion _ _ _).mono fun _ _ ⟨p, q⟩ => ⟨p, q.symm⟩)))
          go_wp2_with fail
          go_ret
          exact ⟨retB HR.out.symm, ((Mk.alloc w _).new _).trans (Mk.drewN _ _)⟩
        · have HR := Lib.hid (show strictB x y = true by unfold strictB; rw [h1, h2, h3, h4]; rfl)
          have g1 : x.len ≤ y.len := of_decide_eq_true h1
          have g2 : x.life ≤ y.life := of_decide_eq_true h2
          go_enter Try.func22, Try.ntmps22
          go_wp2_with fail
          go_quiet ((go_at_call 43; exact Calls.quiet_of_same ((specUnion _ _ _).mono fun _ _ ⟨p, q⟩ => ⟨p, q.symm⟩)))
          go_wp2_with fail
          go_ret
          exact ⟨retB HR.out.symm, ((Mk.alloc w _).new _).trans (Mk.drewN _ _)⟩

set_option maxRecDepth 100000 in
set_option maxHeartbeats 4000000 in
theorem implStrict (x y : TPolicy) (w : World) : Calls Try.prog 23 #[.agg #[.int .i64 x.len, .int .i64 x.denied, .int .i64 x.closed, .int .i64 x.life], .agg #[.int .i64 y.len, .int .i64 y.denied, .int .i64 y.closed, .int .i64 y.life]] w fun e w' => e = .returned (.bool (strictB x y)) ∧ Mk0 w w' := by
  cases h1 : decide (x.len ≤ y.len)
  · have HR := Lib.hid (show strictB x y = false by unfold strictB; rw [h1]; simp)
    go_enter Try.func23, Try.ntmps23
    go_wp2_with fail
    go_quiet ((go_at_call 44; exact Calls.quiet_of_same ((implUnion _ _ _).mono fun _ _ ⟨p, q⟩ => ⟨p, q.symm⟩)))
    go_wp2_with fail
    go_ret
    exact ⟨retB HR.out.symm, ((Mk.alloc w _).new _).trans (Mk.drewN _ _)⟩
  · skip
    cases h2 : decide (x.life ≤ y.life)
    · have HR := Lib.hid (show strictB x y = false by unfold strictB; rw [h1, h2]; simp)
      have g1 : x.len ≤ y.len := of_decide_eq_true h1
      go_enter Try.func23, Try.ntmps23
      go_wp2_with fail
      go_quiet ((go_at_call 44; exact Calls.quiet_of_same ((implUnion _ _ _).mono fun _ _ ⟨p, q⟩ => ⟨p, q.symm⟩)))
      go_wp2_with fail
      go_ret
      exact ⟨retB HR.out.symm, ((Mk.alloc w _).new _).trans (Mk.drewN _ _)⟩
    · skip
      cases h3 : (unionV x.denied y.denied == x.denied)
      · have HR := Lib.hid (show strictB x y = false by unfold strictB; rw [h1, h2, h3]; simp)
        have g1 : x.len ≤ y.len := of_decide_eq_true h1
        have g2 : x.life ≤ y.life := of_decide_eq_true h2
        go_enter Try.func23, Try.ntmps23
        go_wp2_with fail
        go_quiet ((go_at_call 44; exact Calls.quiet_of_same ((implUnion _ _ _).mono fun _ _ ⟨p, q⟩ => ⟨p, q.symm⟩)))
        go_wp2_with fail
        go_ret
        exact ⟨retB HR.out.symm, ((Mk.alloc w _).new _).trans (Mk.drewN _ _)⟩
      · skip
        cases h4 : (unionV x.closed y.closed == x.closed)
        · have HR := Lib.hid (show strictB x y = false by unfold strictB; rw [h1, h2, h3, h4]; rfl)
          have g1 : x.len ≤ y.len := of_decide_eq_true h1
          have g2 : x.life ≤ y.life := of_decide_eq_true h2
          go_enter Try.func23, Try.ntmps23
          go_wp2_with fail
          go_quiet ((go_at_call 44; exact Calls.quiet_of_same ((implUnion _ _ _).mono fun _ _ ⟨p, q⟩ => ⟨p, q.symm⟩)))
          go_wp2_with fail
          go_ret
          exact ⟨retB HR.out.symm, ((Mk.alloc w _).new _).trans (Mk.drewN _ _)⟩
        · have HR := Lib.hid (show strictB x y = true by unfold strictB; rw [h1, h2, h3, h4]; rfl)
          have g1 : x.len ≤ y.len := of_decide_eq_true h1
          have g2 : x.life ≤ y.life := of_decide_eq_true h2
          go_enter Try.func23, Try.ntmps23
          go_wp2_with fail
          go_quiet ((go_at_call 44; exact Calls.quiet_of_same ((implUnion _ _ _).mono fun _ _ ⟨p, q⟩ => ⟨p, q.symm⟩)))
          go_wp2_with fail
          go_ret
          exact ⟨retB HR.out.symm, ((Mk.alloc w _).new _).trans (Mk.drewN _ _)⟩

end Go.Proofs.Ytifcpefaeleceaa
