/- For every two hop fields, the law on EqualHops returns true; no further condition. -/
import Derived.Test.YthlikijcapmobaaRows
import Derived.WalkKit
import Derived.ProofKit
import Derived.OpenShut
import Derived.ShutString
import Derived.ChangeOld
import Derived.Below
import Derived.Test.YthlikijcapmobaaStruct
import Derived.Test.YthlikijcapmobaaHopEq
import Derived.Deep.RegionWith
import Derived.RegionTactic
namespace Go.Proofs.Ythlikijcapmobaa.fnExactEqualHops
open Go.ChangeShapes Go.WideShapes Go.ChangeAt Go.RowKit
open Go.ChangeMaps (open_string shut_string)
set_option linter.unusedVariables false

theorem own : ownKnob Try.prog.godebug = none := by kernel_rfl
theorem laidOut : laidOutB Try.prog = true := by kernel_rfl

set_option maxRecDepth 100000 in
set_option maxHeartbeats 4000000 in
theorem walk (a0_0 : Int) (a0_1 : Int) (a0_2 : Int) (a0_3 : Int) (a0_4 : Int) (a1_0 : Int) (a1_1 : Int) (a1_2 : Int) (a1_3 : Int) (a1_4 : Int) (w : World) (w0_0 : (Lit.int .i64 a0_0).wf = true) (w0_1 : (Lit.int .i64 a0_1).wf = true) (w0_2 : (Lit.int .i64 a0_2).wf = true) (w0_3 : (Lit.int .i64 a0_3).wf = true) (w0_4 : (Lit.int .i64 a0_4).wf = true) (w1_0 : (Lit.int .i64 a1_0).wf = true) (w1_1 : (Lit.int .i64 a1_1).wf = true) (w1_2 : (Lit.int .i64 a1_2).wf = true) (w1_3 : (Lit.int .i64 a1_3).wf = true) (w1_4 : (Lit.int .i64 a1_4).wf = true) :
    Calls Try.prog 8 #[.agg #[.int .i64 a0_0, .int .i64 a0_1, .int .i64 a0_2, .int .i64 a0_3, .int .i64 a0_4], .agg #[.int .i64 a1_0, .int .i64 a1_1, .int .i64 a1_2, .int .i64 a1_3, .int .i64 a1_4]] w fun e w' => e = .returned (.bool true) ∧ Below w.heap.size w w' := by
  go_enter Try.func8, Try.ntmps8
  go_wp2_with fail
  go_region_with (first | (go_at_call 10; refine (toHopB w _ _ _ _ _ _ ?_).mono ?_; (· go_grown); rintro e v1 ⟨rfl, d1, b1⟩; obtain ⟨q1, q2⟩ := kept_cells b1) | (go_at_call 24; refine (specEqB w _ _ _ _ _ _ _ _ _ _ _ ?_).mono ?_; (· go_grown); rintro e v3 ⟨rfl, d3, b3⟩; obtain ⟨q3, q4⟩ := kept_cells b3))

  all_goals (
    rename_i Q' K hK v1' d1' b1' q1' q2'
    have c := Below.seq b1' (Below.seq b1 b3)
    clear q1 q2 q3 q4 q1' q2'
    obtain ⟨k1, k2⟩ := kept_cells c
    have hz : w.heap.size + 1 < v3.heap.size := by have := c.size; simp at this; omega
    have hz0 : w.heap.size < v3.heap.size := by omega
    have A0 : v3.cell? ⟨w.heap.size, 0, none⟩ = some (.int .i64 a0_0) := by rw [k1 _ _ (by simp <;> omega)]; simp [go_sem]
    have B0 : v3.cell? ⟨w.heap.size + 1, 0, none⟩ = some (.int .i64 a1_0) := by rw [k1 _ _ (by simp <;> omega)]; simp [go_sem]
    have A1 : v3.cell? ⟨w.heap.size, 1, none⟩ = some (.int .i64 a0_1) := by rw [k1 _ _ (by simp <;> omega)]; simp [go_sem]
    have B1 : v3.cell? ⟨w.heap.size + 1, 1, none⟩ = some (.int .i64 a1_1) := by rw [k1 _ _ (by simp <;> omega)]; simp [go_sem]
    have A2 : v3.cell? ⟨w.heap.size, 2, none⟩ = some (.int .i64 a0_2) := by rw [k1 _ _ (by simp <;> omega)]; simp [go_sem]
    have B2 : v3.cell? ⟨w.heap.size + 1, 2, none⟩ = some (.int .i64 a1_2) := by rw [k1 _ _ (by simp <;> omega)]; simp [go_sem]
    have A3 : v3.cell? ⟨w.heap.size, 3, none⟩ = some (.int .i64 a0_3) := by rw [k1 _ _ (by simp <;> omega)]; simp [go_sem]
    have B3 : v3.cell? ⟨w.heap.size + 1, 3, none⟩ = some (.int .i64 a1_3) := by rw [k1 _ _ (by simp <;> omega)]; simp [go_sem]
    have A4 : v3.cell? ⟨w.heap.size, 4, none⟩ = some (.int .i64 a0_4) := by rw [k1 _ _ (by simp <;> omega)]; simp [go_sem]
    have B4 : v3.cell? ⟨w.heap.size + 1, 4, none⟩ = some (.int .i64 a1_4) := by rw [k1 _ _ (by simp <;> omega)]; simp [go_sem]
    clear k1 k2 c
    refine hK _ _ ?_
    clear hK K
    go_wp2_with fail
    go_region_with (first | (go_at_call 10; refine (toHopB w _ _ _ _ _ _ ?_).mono ?_; (· go_grown); rintro e v5 ⟨rfl, d5, b5⟩; obtain ⟨q5, q6⟩ := kept_cells b5; (first | (have D0 : v5.cell? ⟨w.heap.size, 0, none⟩ = some (.int .i64 a0_0) := (q5 _ _ hz0).trans A0; have E0 : v5.cell? ⟨w.heap.size + 1, 0, none⟩ = some (.int .i64 a1_0) := (q5 _ _ hz).trans B0; have D1 : v5.cell? ⟨w.heap.size, 1, none⟩ = some (.int .i64 a0_1) := (q5 _ _ hz0).trans A1; have E1 : v5.cell? ⟨w.heap.size + 1, 1, none⟩ = some (.int .i64 a1_1) := (q5 _ _ hz).trans B1; have D2 : v5.cell? ⟨w.heap.size, 2, none⟩ = some (.int .i64 a0_2) := (q5 _ _ hz0).trans A2; have E2 : v5.cell? ⟨w.heap.size + 1, 2, none⟩ = some (.int .i64 a1_2) := (q5 _ _ hz).trans B2; have D3 : v5.cell? ⟨w.heap.size, 3, none⟩ = some (.int .i64 a0_3) := (q5 _ _ hz0).trans A3; have E3 : v5.cell? ⟨w.heap.size + 1, 3, none⟩ = some (.int .i64 a1_3) := (q5 _ _ hz).trans B3; have D4 : v5.cell? ⟨w.heap.size, 4, none⟩ = some (.int .i64 a0_4) := (q5 _ _ hz0).trans A4; have E4 : v5.cell? ⟨w.heap.size + 1, 4, none⟩ = some (.int .i64 a1_4) := (q5 _ _ hz).trans B4) | skip); clear q5 q6) | (go_at_call 25; refine (implEqB w _ _ _ _ _ _ _ _ _ _ _ ?_).mono ?_; (· go_grown); rintro e v7 ⟨rfl, d7, b7⟩; obtain ⟨q7, q8⟩ := kept_cells b7))
    all_goals (clear q7 q8; refine ‹∀ (a : Act) (w : World), _ → _› _ _ ?_; go_wp2_with fail; go_ret; exact ⟨rfl, d7⟩))

set_option maxRecDepth 100000 in
theorem lifted (os : Os) (started : os.Started) (H : Type) (enc : TypeId × Value → H) :
    ReturnsInHanded {} Try.checked os 8 .any (Rows.fnExactEqualHopsSpec.pre6 enc Try.prog Try.f8 Rows.fnExactEqualHopsRow.domain false) (Rows.fnExactEqualHopsSpec.post enc Try.prog Try.f8 false true false false) := by
  refine returnsInHanded_of_change (C := Try.checked) own started (by kernel_rfl) Try.func8
    (ChangeSpec.witness6 (enc := enc) (C := Try.checked) false ⟨#[], #[.agg #[.int .i64 0, .int .i64 0, .int .i64 0, .int .i64 0, .int .i64 0], .agg #[.int .i64 0, .int .i64 0, .int .i64 0, .int .i64 0, .int .i64 0]], []⟩ 8 (by kernel_rfl) (by kernel_rfl) (by kernel_rfl) (by kernel_rfl)) ?_
  intro W base args ds gs before hval0 hW hcnd _
  have hval : ∀ (j : Nat) t v, Try.f8.params[j]? = some t → args[j]? = some v → Value.okWide Try.prog W .any base t v := hval0
  have hW' := hW
  obtain ⟨p, q, hA0, hV, rfl, hfz, hnd⟩ := hW
  have hA : DataW.TrodAll enc Try.prog W 0 (fun _ => true) true Try.f8.params.toList args.toList ds p := hA0
  rw [Try.params8] at hA hval
  obtain ⟨v0, vs0, d0, ds0, p0, q0, hargs, rfl, rfl, h0, r0⟩ := trodAll_cons hA
  obtain ⟨v1, vs1, d1, ds1, p1, q1, rfl, rfl, rfl, h1, r1⟩ := trodAll_cons r0
  obtain ⟨rfl, rfl, rfl⟩ := trodAll_nil r1
  obtain rfl : args = #[v0, v1] := by cases args; simp_all
  obtain ⟨rfl, rfl⟩ := trodVars_none hV
  have k0 := h0
  have lt0 : ∀ x ∈ p0, x.block < W.heap.size := by obtain ⟨m, hm⟩ := k0; exact DataW.trod_lt m _ _ _ hm
  obtain ⟨cs0, rfl, hcs0, hf0⟩ := open_flat Try.underlying23 (by kernel_rfl) (by kernel_rfl) (hval 0 23 v0 rfl rfl) h0
  obtain ⟨_, e0_0, qi, _⟩ := hf0 0 _ rfl; obtain ⟨a0_0, rfl, w0_0⟩ := qi Try.underlying3
  obtain ⟨_, e0_1, qi, _⟩ := hf0 1 _ rfl; obtain ⟨a0_1, rfl, w0_1⟩ := qi Try.underlying3
  obtain ⟨_, e0_2, qi, _⟩ := hf0 2 _ rfl; obtain ⟨a0_2, rfl, w0_2⟩ := qi Try.underlying3
  obtain ⟨_, e0_3, qi, _⟩ := hf0 3 _ rfl; obtain ⟨a0_3, rfl, w0_3⟩ := qi Try.underlying3
  obtain ⟨_, e0_4, qi, _⟩ := hf0 4 _ rfl; obtain ⟨a0_4, rfl, w0_4⟩ := qi Try.underlying3
  obtain rfl : cs0 = #[.int .i64 a0_0, .int .i64 a0_1, .int .i64 a0_2, .int .i64 a0_3, .int .i64 a0_4] := arr_of [.int .i64 a0_0, .int .i64 a0_1, .int .i64 a0_2, .int .i64 a0_3, .int .i64 a0_4] hcs0 (fun j hj => by match j, hj with | 0, _ => exact e0_0 | 1, _ => exact e0_1 | 2, _ => exact e0_2 | 3, _ => exact e0_3 | 4, _ => exact e0_4)
  have k1 := h1
  have lt1 : ∀ x ∈ p1, x.block < W.heap.size := by obtain ⟨m, hm⟩ := k1; exact DataW.trod_lt m _ _ _ hm
  obtain ⟨cs1, rfl, hcs1, hf1⟩ := open_flat Try.underlying23 (by kernel_rfl) (by kernel_rfl) (hval 1 23 v1 rfl rfl) h1
  obtain ⟨_, e1_0, qi, _⟩ := hf1 0 _ rfl; obtain ⟨a1_0, rfl, w1_0⟩ := qi Try.underlying3
  obtain ⟨_, e1_1, qi, _⟩ := hf1 1 _ rfl; obtain ⟨a1_1, rfl, w1_1⟩ := qi Try.underlying3
  obtain ⟨_, e1_2, qi, _⟩ := hf1 2 _ rfl; obtain ⟨a1_2, rfl, w1_2⟩ := qi Try.underlying3
  obtain ⟨_, e1_3, qi, _⟩ := hf1 3 _ rfl; obtain ⟨a1_3, rfl, w1_3⟩ := qi Try.underlying3
  obtain ⟨_, e1_4, qi, _⟩ := hf1 4 _ rfl; obtain ⟨a1_4, rfl, w1_4⟩ := qi Try.underlying3
  obtain rfl : cs1 = #[.int .i64 a1_0, .int .i64 a1_1, .int .i64 a1_2, .int .i64 a1_3, .int .i64 a1_4] := arr_of [.int .i64 a1_0, .int .i64 a1_1, .int .i64 a1_2, .int .i64 a1_3, .int .i64 a1_4] hcs1 (fun j hj => by match j, hj with | 0, _ => exact e1_0 | 1, _ => exact e1_1 | 2, _ => exact e1_2 | 3, _ => exact e1_3 | 4, _ => exact e1_4)
  clear hA0 hval0
  refine (walk a0_0 a0_1 a0_2 a0_3 a0_4 a1_0 a1_1 a1_2 a1_3 a1_4 W w0_0 w0_1 w0_2 w0_3 w0_4 w1_0 w1_1 w1_2 w1_3 w1_4).mono fun e W' ⟨he, bel⟩ => ?_
  subst he
  exact ⟨_, rfl, _, _, _, [], _, [], hW', trodAll_mk1 (shut_bool Try.underlying4 _), (trodAll_cons_mk (Below.trod laidOut (by kernel_rfl) (of_decide_eq_true (by kernel_rfl)) k0 bel lt0) (trodAll_cons_mk (Below.trod laidOut (by kernel_rfl) (of_decide_eq_true (by kernel_rfl)) k1 bel lt1) trodAll_mk0)), rfl, bel.frame _, fun h => by cases h⟩

theorem over : Rows.fnExactEqualHopsRow.holds Try.pinned (OpenSpec.ofChange Rows.fnExactEqualHopsSpec) :=
  OpenClaim.holds_of_wide 8 Try.f8 rfl rfl rfl rfl rfl rfl rfl ⟨rfl, rfl, rfl, rfl, rfl⟩ rfl rfl rfl rfl rfl (by kernel_rfl) Try.func8 (by kernel_rfl)
    (of_decide_eq_true (by kernel_rfl)) (by unfold Func.isWrapper; first | (rw [if_pos (by decide +kernel)]; kernel_rfl) | (rw [if_neg (by decide +kernel)]; exact ⟨rfl, rfl⟩))
    (fun os started H enc _ => lifted os started H enc)

theorem proved : Rows.FnExactEqualHopsSaid := over
#print axioms proved
end Go.Proofs.Ythlikijcapmobaa.fnExactEqualHops
