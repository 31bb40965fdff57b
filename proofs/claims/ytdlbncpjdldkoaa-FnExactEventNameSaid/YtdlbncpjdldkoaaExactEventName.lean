
/- For every integer, the law on EventName returns true; no further condition. -/
import Derived.Test.YtdlbncpjdldkoaaRows
import Derived.WalkKit
import Derived.ProofKit
import Derived.OpenShut
import Derived.ShutString
import Derived.ChangeOld
import Derived.Below
import Derived.Test.YtdlbncpjdldkoaaBase
import Derived.Handy
import Derived.WalkLawsBesides
namespace Go.Proofs.Ytdlbncpjdldkoaa.fnExactEventName
open Go.ChangeShapes Go.WideShapes Go.ChangeAt Go.RowKit
open Go.ChangeMaps (open_string shut_string)
set_option linter.unusedVariables false

theorem own : ownKnob Try.prog.godebug = none := by kernel_rfl
theorem laidOut : laidOutB Try.prog = true := by kernel_rfl

set_option maxRecDepth 100000 in
set_option maxHeartbeats 4000000 in
theorem walk (a0 : Int) (w : World) (w0 : (Lit.int .i64 a0).wf = true) :
    Calls Try.prog 14 #[.int .i64 a0] w fun e w' => e = .returned (.bool true) ∧ Below w.heap.size w w' := by
  by_cases h0 : a0 = 0
  · subst h0
    go_enter Try.func14, Try.ntmps14
    go_wp2_with go_in
    all_goals (go_ret; exact ⟨rfl, by go_grown⟩)
  have n0 : (a0 == 0) = false := by simpa using h0
  by_cases h1 : a0 = 1
  · subst h1
    go_enter Try.func14, Try.ntmps14
    go_wp2_with go_in
    all_goals (go_ret; exact ⟨rfl, by go_grown⟩)
  have n1 : (a0 == 1) = false := by simpa using h1
  by_cases h2 : a0 = 2
  · subst h2
    go_enter Try.func14, Try.ntmps14
    go_wp2_with go_in
    all_goals (go_ret; exact ⟨rfl, by go_grown⟩)
  have n2 : (a0 == 2) = false := by simpa using h2
  by_cases h3 : a0 = 3
  · subst h3
    go_enter Try.func14, Try.ntmps14
    go_wp2_with go_in
    all_goals (go_ret; exact ⟨rfl, by go_grown⟩)
  have n3 : (a0 == 3) = false := by simpa using h3
  by_cases h4 : a0 = 4
  · subst h4
    go_enter Try.func14, Try.ntmps14
    go_wp2_with go_in
    all_goals (go_ret; exact ⟨rfl, by go_grown⟩)
  have n4 : (a0 == 4) = false := by simpa using h4
  by_cases h5 : a0 = 5
  · subst h5
    go_enter Try.func14, Try.ntmps14
    go_wp2_with go_in
    all_goals (go_ret; exact ⟨rfl, by go_grown⟩)
  have n5 : (a0 == 5) = false := by simpa using h5
  by_cases h6 : a0 = 6
  · subst h6
    go_enter Try.func14, Try.ntmps14
    go_wp2_with go_in
    all_goals (go_ret; exact ⟨rfl, by go_grown⟩)
  have n6 : (a0 == 6) = false := by simpa using h6
  by_cases h7 : a0 = 7
  · subst h7
    go_enter Try.func14, Try.ntmps14
    go_wp2_with go_in
    all_goals (go_ret; exact ⟨rfl, by go_grown⟩)
  have n7 : (a0 == 7) = false := by simpa using h7
  by_cases h8 : a0 = 8
  · subst h8
    go_enter Try.func14, Try.ntmps14
    go_wp2_with go_in
    all_goals (go_ret; exact ⟨rfl, by go_grown⟩)
  have n8 : (a0 == 8) = false := by simpa using h8
  by_cases h9 : a0 = 9
  · subst h9
    go_enter Try.func14, Try.ntmps14
    go_wp2_with go_in
    all_goals (go_ret; exact ⟨rfl, by go_grown⟩)
  have n9 : (a0 == 9) = false := by simpa using h9
  by_cases c : a0 < 0
  · clear h0 h1 h2 h3 h4 h5 h6 h7 h8 h9
    go_enter Try.func14, Try.ntmps14
    go_wp2_with go_in
    all_goals (go_ret; exact ⟨rfl, by go_grown⟩)
  · have c0 : 0 ≤ a0 := by omega
    have c5 : 9 < a0 := by omega
    have dh : decide (a0 ≤ 9) = false := by simp; omega
    clear c h0 h1 h2 h3 h4 h5 h6 h7 h8 h9
    go_enter Try.func14, Try.ntmps14
    go_wp2_with go_in
    all_goals (go_ret; exact ⟨rfl, by go_grown⟩)

set_option maxRecDepth 100000 in
theorem lifted (os : Os) (started : os.Started) (H : Type) (enc : TypeId × Value → H) :
    ReturnsInHanded {} Try.checked os 14 .any (Rows.fnExactEventNameSpec.pre6 enc Try.prog Try.f14 Rows.fnExactEventNameRow.domain false) (Rows.fnExactEventNameSpec.post enc Try.prog Try.f14 false true false false) := by
  refine returnsInHanded_of_change (C := Try.checked) own started (by kernel_rfl) Try.func14
    (ChangeSpec.witness6 (enc := enc) (C := Try.checked) false ⟨#[], #[.int .i64 0], []⟩ 8 (by kernel_rfl) (by kernel_rfl) (by kernel_rfl) (by kernel_rfl)) ?_
  intro W base args ds gs before hval0 hW hcnd _
  have hval : ∀ (j : Nat) t v, Try.f14.params[j]? = some t → args[j]? = some v → Value.okWide Try.prog W .any base t v := hval0
  have hW' := hW
  obtain ⟨p, q, hA0, hV, rfl, hfz, hnd⟩ := hW
  have hA : DataW.TrodAll enc Try.prog W 0 (fun _ => true) true Try.f14.params.toList args.toList ds p := hA0
  rw [Try.params14] at hA hval
  obtain ⟨v0, vs0, d0, ds0, p0, q0, hargs, rfl, rfl, h0, r0⟩ := trodAll_cons hA
  obtain ⟨rfl, rfl, rfl⟩ := trodAll_nil r0
  obtain rfl : args = #[v0] := by cases args; simp_all
  obtain ⟨rfl, rfl⟩ := trodVars_none hV
  obtain ⟨a0, rfl, rfl, rfl, w0⟩ := open_int Try.underlying3 (hval 0 3 v0 rfl rfl) h0
  clear hA0 hval0
  refine (walk a0 W w0).mono fun e W' ⟨he, bel⟩ => ?_
  subst he
  exact ⟨_, rfl, _, _, _, [], _, [], hW', trodAll_mk1 (shut_bool Try.underlying4 _), (trodAll_cons_mk (shut_int Try.underlying3 w0) trodAll_mk0), rfl, bel.frame _, fun h => by cases h⟩

theorem over : Rows.fnExactEventNameRow.holds Try.pinned (OpenSpec.ofChange Rows.fnExactEventNameSpec) :=
  OpenClaim.holds_of_wide 14 Try.f14 rfl rfl rfl rfl rfl rfl rfl ⟨rfl, rfl, rfl, rfl, rfl⟩ rfl rfl rfl rfl rfl (by kernel_rfl) Try.func14 (by kernel_rfl)
    (of_decide_eq_true (by kernel_rfl)) (by unfold Func.isWrapper; first | (rw [if_pos (by decide +kernel)]; kernel_rfl) | (rw [if_neg (by decide +kernel)]; exact ⟨rfl, rfl⟩))
    (fun os started H enc _ => lifted os started H enc)

theorem proved : Rows.FnExactEventNameSaid := over
#print axioms proved
end Go.Proofs.Ytdlbncpjdldkoaa.fnExactEventName
