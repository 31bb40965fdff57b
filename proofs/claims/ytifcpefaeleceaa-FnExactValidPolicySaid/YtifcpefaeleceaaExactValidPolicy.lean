
/- For every policy, the law on ValidPolicy returns true; no further condition. -/
import Derived.Test.YtifcpefaeleceaaRows
import Derived.WalkKit
import Derived.ProofKit
import Derived.OpenShut
import Derived.ShutString
import Derived.ChangeOld
import Derived.Below
import Derived.Test.YtifcpefaeleceaaStruct
import Derived.Test.YtifcpefaeleceaaBase
import Derived.Handy
namespace Go.Proofs.Ytifcpefaeleceaa.fnExactValidPolicy
open Go.ChangeShapes Go.WideShapes Go.ChangeAt Go.RowKit
open Go.ChangeMaps (open_string shut_string)
set_option linter.unusedVariables false

theorem own : ownKnob Try.prog.godebug = none := by kernel_rfl
theorem laidOut : laidOutB Try.prog = true := by kernel_rfl

set_option maxRecDepth 100000 in
set_option maxHeartbeats 4000000 in
theorem walk (a0_0 : Int) (a0_1 : Int) (a0_2 : Int) (a0_3 : Int) (w : World) (w0_0 : (Lit.int .i64 a0_0).wf = true) (w0_1 : (Lit.int .i64 a0_1).wf = true) (w0_2 : (Lit.int .i64 a0_2).wf = true) (w0_3 : (Lit.int .i64 a0_3).wf = true) :
    Calls Try.prog 3 #[.agg #[.int .i64 a0_0, .int .i64 a0_1, .int .i64 a0_2, .int .i64 a0_3]] w fun e w' => e = .returned (.bool true) ∧ Below w.heap.size w w' := by
  by_cases cl1 : 1 ≤ a0_0
  · by_cases ch1 : a0_0 ≤ 8
    · have dh1 : decide (a0_0 ≤ 8) = true := by simp; omega
      by_cases cl2 : 0 ≤ a0_1
      · by_cases ch2 : a0_1 ≤ 65535
        · have dh2 : decide (a0_1 ≤ 65535) = true := by simp; omega
          by_cases cl3 : 0 ≤ a0_2
          · by_cases ch3 : a0_2 ≤ 65535
            · have dh3 : decide (a0_2 ≤ 65535) = true := by simp; omega
              by_cases cl4 : 1 ≤ a0_3
              · by_cases ch4 : a0_3 ≤ 1000
                · have dh4 : decide (a0_3 ≤ 1000) = true := by simp; omega
                  go_enter Try.func3, Try.ntmps3
                  go_wp2_with go_in
                  all_goals (go_ret; exact ⟨rfl, by go_grown⟩)
                · have dh4 : decide (a0_3 ≤ 1000) = false := by simp; omega
                  go_enter Try.func3, Try.ntmps3
                  go_wp2_with go_in
                  all_goals (go_ret; exact ⟨rfl, by go_grown⟩)
              · have dl4 : a0_3 < 1 := by omega
                go_enter Try.func3, Try.ntmps3
                go_wp2_with go_in
                all_goals (go_ret; exact ⟨rfl, by go_grown⟩)
            · have dh3 : decide (a0_2 ≤ 65535) = false := by simp; omega
              go_enter Try.func3, Try.ntmps3
              go_wp2_with go_in
              all_goals (go_ret; exact ⟨rfl, by go_grown⟩)
          · have dl3 : a0_2 < 0 := by omega
            go_enter Try.func3, Try.ntmps3
            go_wp2_with go_in
            all_goals (go_ret; exact ⟨rfl, by go_grown⟩)
        · have dh2 : decide (a0_1 ≤ 65535) = false := by simp; omega
          go_enter Try.func3, Try.ntmps3
          go_wp2_with go_in
          all_goals (go_ret; exact ⟨rfl, by go_grown⟩)
      · have dl2 : a0_1 < 0 := by omega
        go_enter Try.func3, Try.ntmps3
        go_wp2_with go_in
        all_goals (go_ret; exact ⟨rfl, by go_grown⟩)
    · have dh1 : decide (a0_0 ≤ 8) = false := by simp; omega
      go_enter Try.func3, Try.ntmps3
      go_wp2_with go_in
      all_goals (go_ret; exact ⟨rfl, by go_grown⟩)
  · have dl1 : a0_0 < 1 := by omega
    go_enter Try.func3, Try.ntmps3
    go_wp2_with go_in
    all_goals (go_ret; exact ⟨rfl, by go_grown⟩)

set_option maxRecDepth 100000 in
theorem lifted (os : Os) (started : os.Started) (H : Type) (enc : TypeId × Value → H) :
    ReturnsInHanded {} Try.checked os 3 .any (Rows.fnExactValidPolicySpec.pre6 enc Try.prog Try.f3 Rows.fnExactValidPolicyRow.domain false) (Rows.fnExactValidPolicySpec.post enc Try.prog Try.f3 false true false false) := by
  refine returnsInHanded_of_change (C := Try.checked) own started (by kernel_rfl) Try.func3
    (ChangeSpec.witness6 (enc := enc) (C := Try.checked) false ⟨#[], #[.agg #[.int .i64 0, .int .i64 0, .int .i64 0, .int .i64 0]], []⟩ 8 (by kernel_rfl) (by kernel_rfl) (by kernel_rfl) (by kernel_rfl)) ?_
  intro W base args ds gs before hval0 hW hcnd _
  have hval : ∀ (j : Nat) t v, Try.f3.params[j]? = some t → args[j]? = some v → Value.okWide Try.prog W .any base t v := hval0
  have hW' := hW
  obtain ⟨p, q, hA0, hV, rfl, hfz, hnd⟩ := hW
  have hA : DataW.TrodAll enc Try.prog W 0 (fun _ => true) true Try.f3.params.toList args.toList ds p := hA0
  rw [Try.params3] at hA hval
  obtain ⟨v0, vs0, d0, ds0, p0, q0, hargs, rfl, rfl, h0, r0⟩ := trodAll_cons hA
  obtain ⟨rfl, rfl, rfl⟩ := trodAll_nil r0
  obtain rfl : args = #[v0] := by cases args; simp_all
  obtain ⟨rfl, rfl⟩ := trodVars_none hV
  have k0 := h0
  have lt0 : ∀ x ∈ p0, x.block < W.heap.size := by obtain ⟨m, hm⟩ := k0; exact DataW.trod_lt m _ _ _ hm
  obtain ⟨cs0, rfl, hcs0, hf0⟩ := open_flat Try.underlying23 (by kernel_rfl) (by kernel_rfl) (hval 0 23 v0 rfl rfl) h0
  obtain ⟨_, e0_0, qi, _⟩ := hf0 0 _ rfl; obtain ⟨a0_0, rfl, w0_0⟩ := qi Try.underlying3
  obtain ⟨_, e0_1, qi, _⟩ := hf0 1 _ rfl; obtain ⟨a0_1, rfl, w0_1⟩ := qi Try.underlying3
  obtain ⟨_, e0_2, qi, _⟩ := hf0 2 _ rfl; obtain ⟨a0_2, rfl, w0_2⟩ := qi Try.underlying3
  obtain ⟨_, e0_3, qi, _⟩ := hf0 3 _ rfl; obtain ⟨a0_3, rfl, w0_3⟩ := qi Try.underlying3
  obtain rfl : cs0 = #[.int .i64 a0_0, .int .i64 a0_1, .int .i64 a0_2, .int .i64 a0_3] := arr_of [.int .i64 a0_0, .int .i64 a0_1, .int .i64 a0_2, .int .i64 a0_3] hcs0 (fun j hj => by match j, hj with | 0, _ => exact e0_0 | 1, _ => exact e0_1 | 2, _ => exact e0_2 | 3, _ => exact e0_3)
  clear hA0 hval0
  refine (walk a0_0 a0_1 a0_2 a0_3 W w0_0 w0_1 w0_2 w0_3).mono fun e W' ⟨he, bel⟩ => ?_
  subst he
  exact ⟨_, rfl, _, _, _, [], _, [], hW', trodAll_mk1 (shut_bool Try.underlying4 _), (trodAll_cons_mk (Below.trod laidOut (by kernel_rfl) (of_decide_eq_true (by kernel_rfl)) k0 bel lt0) trodAll_mk0), rfl, bel.frame _, fun h => by cases h⟩

theorem over : Rows.fnExactValidPolicyRow.holds Try.pinned (OpenSpec.ofChange Rows.fnExactValidPolicySpec) :=
  OpenClaim.holds_of_wide 3 Try.f3 rfl rfl rfl rfl rfl rfl rfl ⟨rfl, rfl, rfl, rfl, rfl⟩ rfl rfl rfl rfl rfl (by kernel_rfl) Try.func3 (by kernel_rfl)
    (of_decide_eq_true (by kernel_rfl)) (by unfold Func.isWrapper; first | (rw [if_pos (by decide +kernel)]; kernel_rfl) | (rw [if_neg (by decide +kernel)]; exact ⟨rfl, rfl⟩))
    (fun os started H enc _ => lifted os started H enc)

theorem proved : Rows.FnExactValidPolicySaid := over
#print axioms proved
end Go.Proofs.Ytifcpefaeleceaa.fnExactValidPolicy
