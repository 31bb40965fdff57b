/- For every key, time, chaining value and hop field, the law on AuthenticateHop returns true; no further condition. -/
import Derived.Test.YthlikijcapmobaaRows
import Derived.WalkKit
import Derived.ProofKit
import Derived.OpenShut
import Derived.ShutString
import Derived.ChangeOld
import Derived.Below
import Derived.Test.YthlikijcapmobaaStruct
import Derived.Test.YthlikijcapmobaaHop
namespace Go.Proofs.Ythlikijcapmobaa.fnExactAuthenticateHop
open Go.ChangeShapes Go.WideShapes Go.ChangeAt Go.RowKit
open Go.ChangeMaps (open_string shut_string)
set_option linter.unusedVariables false

theorem own : ownKnob Try.prog.godebug = none := by kernel_rfl
theorem laidOut : laidOutB Try.prog = true := by kernel_rfl

set_option maxRecDepth 100000 in
set_option maxHeartbeats 4000000 in
theorem walk (a0 : Int) (a1 : Int) (a2 : Int) (a3_0 : Int) (a3_1 : Int) (a3_2 : Int) (a3_3 : Int) (a3_4 : Int) (w : World) (w0 : (Lit.int .i64 a0).wf = true) (w1 : (Lit.int .i64 a1).wf = true) (w2 : (Lit.int .i64 a2).wf = true) (w3_0 : (Lit.int .i64 a3_0).wf = true) (w3_1 : (Lit.int .i64 a3_1).wf = true) (w3_2 : (Lit.int .i64 a3_2).wf = true) (w3_3 : (Lit.int .i64 a3_3).wf = true) (w3_4 : (Lit.int .i64 a3_4).wf = true) :
    Calls Try.prog 5 #[.int .i64 a0, .int .i64 a1, .int .i64 a2, .agg #[.int .i64 a3_0, .int .i64 a3_1, .int .i64 a3_2, .int .i64 a3_3, .int .i64 a3_4]] w fun e w' => e = .returned (.bool true) ∧ Below w.heap.size w w' := by
  have hf := hop_fits w1 w2 w3_0 w3_1 w3_2 w3_3
  have HF := Lib.hid hf
  clear hf
  go_enter Try.func5, Try.ntmps5
  go_wp2_with fail
  refine (toHop _ _ _ _ _ _).mono ?_
  rintro e v1 ⟨rfl, b1⟩
  go_wp2_with fail
  refine (specAuth _ _ _ _ _ _ _ _ _ w0 HF.out).mono ?_
  rintro e v2 ⟨rfl, b2⟩
  have c2 := Below.seq b1 b2
  obtain ⟨q1, q2⟩ := kept_cells c2
  have hz : w.heap.size < v2.heap.size := by have := c2.size; simp at this; omega
  have d2 : Below w.heap.size w v2 := ((Below.refl _ _).alloc (Nat.le_refl _) _).trans (c2.mono (by simp))
  go_wp2_with fail
  clear q1 q2
  refine (toHop _ _ _ _ _ _).mono ?_
  rintro e v3 ⟨rfl, b3⟩
  go_wp2_with fail
  refine (implAuth _ _ _ _ _ _ _ _ _ w0 HF.out).mono ?_
  rintro e v4 ⟨rfl, b4⟩
  have c34 := Below.seq b3 b4
  have hz2 : v2.heap.size < v4.heap.size := by have := c34.size; simp at this; omega
  have d4 := (d2.alloc d2.size _).trans (c34.mono (by have := d2.size; simp; omega))
  obtain ⟨q1, q2⟩ := kept_cells c34
  go_wp2_with fail
  clear q1 q2
  refine (eqHopSame _ _ _ _ _ _).mono ?_
  rintro e v5 ⟨rfl, b5⟩
  have d5 := (d4.alloc d4.size _).trans (b5.mono (by have := d4.size; simp; omega))
  go_wp2_with fail
  go_ret
  exact ⟨rfl, d5⟩

set_option maxRecDepth 100000 in
theorem lifted (os : Os) (started : os.Started) (H : Type) (enc : TypeId × Value → H) :
    ReturnsInHanded {} Try.checked os 5 .any (Rows.fnExactAuthenticateHopSpec.pre6 enc Try.prog Try.f5 Rows.fnExactAuthenticateHopRow.domain false) (Rows.fnExactAuthenticateHopSpec.post enc Try.prog Try.f5 false true false false) := by
  refine returnsInHanded_of_change (C := Try.checked) own started (by kernel_rfl) Try.func5
    (ChangeSpec.witness6 (enc := enc) (C := Try.checked) false ⟨#[], #[.int .i64 0, .int .i64 0, .int .i64 0, .agg #[.int .i64 0, .int .i64 0, .int .i64 0, .int .i64 0, .int .i64 0]], []⟩ 8 (by kernel_rfl) (by kernel_rfl) (by kernel_rfl) (by kernel_rfl)) ?_
  intro W base args ds gs before hval0 hW hcnd _
  have hval : ∀ (j : Nat) t v, Try.f5.params[j]? = some t → args[j]? = some v → Value.okWide Try.prog W .any base t v := hval0
  have hW' := hW
  obtain ⟨p, q, hA0, hV, rfl, hfz, hnd⟩ := hW
  have hA : DataW.TrodAll enc Try.prog W 0 (fun _ => true) true Try.f5.params.toList args.toList ds p := hA0
  rw [Try.params5] at hA hval
  obtain ⟨v0, vs0, d0, ds0, p0, q0, hargs, rfl, rfl, h0, r0⟩ := trodAll_cons hA
  obtain ⟨v1, vs1, d1, ds1, p1, q1, rfl, rfl, rfl, h1, r1⟩ := trodAll_cons r0
  obtain ⟨v2, vs2, d2, ds2, p2, q2, rfl, rfl, rfl, h2, r2⟩ := trodAll_cons r1
  obtain ⟨v3, vs3, d3, ds3, p3, q3, rfl, rfl, rfl, h3, r3⟩ := trodAll_cons r2
  obtain ⟨rfl, rfl, rfl⟩ := trodAll_nil r3
  obtain rfl : args = #[v0, v1, v2, v3] := by cases args; simp_all
  obtain ⟨rfl, rfl⟩ := trodVars_none hV
  obtain ⟨a0, rfl, rfl, rfl, w0⟩ := open_int Try.underlying3 (hval 0 3 v0 rfl rfl) h0
  obtain ⟨a1, rfl, rfl, rfl, w1⟩ := open_int Try.underlying3 (hval 1 3 v1 rfl rfl) h1
  obtain ⟨a2, rfl, rfl, rfl, w2⟩ := open_int Try.underlying3 (hval 2 3 v2 rfl rfl) h2
  have k3 := h3
  have lt3 : ∀ x ∈ p3, x.block < W.heap.size := by obtain ⟨m, hm⟩ := k3; exact DataW.trod_lt m _ _ _ hm
  obtain ⟨cs3, rfl, hcs3, hf3⟩ := open_flat Try.underlying23 (by kernel_rfl) (by kernel_rfl) (hval 3 23 v3 rfl rfl) h3
  obtain ⟨_, e3_0, qi, _⟩ := hf3 0 _ rfl; obtain ⟨a3_0, rfl, w3_0⟩ := qi Try.underlying3
  obtain ⟨_, e3_1, qi, _⟩ := hf3 1 _ rfl; obtain ⟨a3_1, rfl, w3_1⟩ := qi Try.underlying3
  obtain ⟨_, e3_2, qi, _⟩ := hf3 2 _ rfl; obtain ⟨a3_2, rfl, w3_2⟩ := qi Try.underlying3
  obtain ⟨_, e3_3, qi, _⟩ := hf3 3 _ rfl; obtain ⟨a3_3, rfl, w3_3⟩ := qi Try.underlying3
  obtain ⟨_, e3_4, qi, _⟩ := hf3 4 _ rfl; obtain ⟨a3_4, rfl, w3_4⟩ := qi Try.underlying3
  obtain rfl : cs3 = #[.int .i64 a3_0, .int .i64 a3_1, .int .i64 a3_2, .int .i64 a3_3, .int .i64 a3_4] := arr_of [.int .i64 a3_0, .int .i64 a3_1, .int .i64 a3_2, .int .i64 a3_3, .int .i64 a3_4] hcs3 (fun j hj => by match j, hj with | 0, _ => exact e3_0 | 1, _ => exact e3_1 | 2, _ => exact e3_2 | 3, _ => exact e3_3 | 4, _ => exact e3_4)
  clear hA0 hval0
  refine (walk a0 a1 a2 a3_0 a3_1 a3_2 a3_3 a3_4 W w0 w1 w2 w3_0 w3_1 w3_2 w3_3 w3_4).mono fun e W' ⟨he, bel⟩ => ?_
  subst he
  exact ⟨_, rfl, _, _, _, [], _, [], hW', trodAll_mk1 (shut_bool Try.underlying4 _), (trodAll_cons_mk (shut_int Try.underlying3 w0) (trodAll_cons_mk (shut_int Try.underlying3 w1) (trodAll_cons_mk (shut_int Try.underlying3 w2) (trodAll_cons_mk (Below.trod laidOut (by kernel_rfl) (of_decide_eq_true (by kernel_rfl)) k3 bel lt3) trodAll_mk0)))), rfl, bel.frame _, fun h => by cases h⟩

theorem over : Rows.fnExactAuthenticateHopRow.holds Try.pinned (OpenSpec.ofChange Rows.fnExactAuthenticateHopSpec) :=
  OpenClaim.holds_of_wide 5 Try.f5 rfl rfl rfl rfl rfl rfl rfl ⟨rfl, rfl, rfl, rfl, rfl⟩ rfl rfl rfl rfl rfl (by kernel_rfl) Try.func5 (by kernel_rfl)
    (of_decide_eq_true (by kernel_rfl)) (by unfold Func.isWrapper; first | (rw [if_pos (by decide +kernel)]; kernel_rfl) | (rw [if_neg (by decide +kernel)]; exact ⟨rfl, rfl⟩))
    (fun os started H enc _ => lifted os started H enc)

theorem proved : Rows.FnExactAuthenticateHopSaid := over
#print axioms proved
end Go.Proofs.Ythlikijcapmobaa.fnExactAuthenticateHop
