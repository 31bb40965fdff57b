
/- For every number, the law on NewScheduler returns true; no further condition. -/
import Derived.Test.YtdbaecgbhadkbaaRows
import Derived.WalkKit
import Derived.ProofKit
import Derived.OpenShut
import Derived.ShutString
import Derived.ChangeOld
import Derived.Below
import Derived.Test.YtdbaecgbhadkbaaNewScheduler
namespace Go.Proofs.Ytdbaecgbhadkbaa.fnExactNewScheduler
open Go.ChangeShapes Go.WideShapes Go.ChangeAt Go.RowKit
open Go.ChangeMaps (open_string shut_string)
set_option linter.unusedVariables false

theorem own : ownKnob Try.prog.godebug = none := by kernel_rfl
theorem laidOut : laidOutB Try.prog = true := by kernel_rfl

set_option maxRecDepth 100000 in
set_option maxHeartbeats 4000000 in
theorem walk (a0 : Int) (w : World) (w0 : (Lit.int .i64 a0).wf = true) :
    Calls Try.prog 11 #[.int .i64 a0] w fun e w' => e = .returned (.bool true) ∧ Below w.heap.size w w' := by
  go_enter Try.func11, Try.ntmps11
  go_wp2_with fail
  have M0 : Mk0 w w := Mk.refl _ _ _
  refine (specNewScheduler a0 _).mono ?_
  rintro e w1 ⟨rfl, m1⟩
  have M1 := M0.trans m1
  have s1 := m1.size
  go_wp2_with fail
  have b0_0 : (w1.alloc (Obj.cells #[Value.int .i64 (capOf a0), Value.slice none 0 0, Value.slice none 0 0] 73)).cell? ⟨w1.heap.size, 0, none⟩ = some (.int .i64 (capOf a0)) := by rw [World.cell?_alloc_at _ _ _ _ rfl]; rfl
  have b0_1 : (w1.alloc (Obj.cells #[Value.int .i64 (capOf a0), Value.slice none 0 0, Value.slice none 0 0] 73)).cell? ⟨w1.heap.size, 1, none⟩ = some (.slice none 0 0) := by rw [World.cell?_alloc_at _ _ _ _ rfl]; rfl
  have b0_2 : (w1.alloc (Obj.cells #[Value.int .i64 (capOf a0), Value.slice none 0 0, Value.slice none 0 0] 73)).cell? ⟨w1.heap.size, 2, none⟩ = some (.slice none 0 0) := by rw [World.cell?_alloc_at _ _ _ _ rfl]; rfl
  have m2 := Mk.alloc w1 (Obj.cells #[Value.int .i64 (capOf a0), Value.slice none 0 0, Value.slice none 0 0] 73)
  have M2 := M1.trans m2
  have s2 : w1.heap.size < (w1.alloc (Obj.cells #[Value.int .i64 (capOf a0), Value.slice none 0 0, Value.slice none 0 0] 73)).heap.size := by rw [World.size_alloc]; omega
  generalize (w1.alloc (Obj.cells #[Value.int .i64 (capOf a0), Value.slice none 0 0, Value.slice none 0 0] 73)) = w2 at *
  refine (implNewScheduler a0 _).mono ?_
  rintro e w3 ⟨rfl, m3⟩
  have M3 := M2.trans m3
  have s3 := m3.size
  replace b0_0 := m3.cellAt b0_0
  replace b0_1 := m3.cellAt b0_1
  replace b0_2 := m3.cellAt b0_2
  have ltb0_3 : w1.heap.size < w3.heap.size := by omega
  go_wp2_with fail
  have b1_0 : (w3.alloc (Obj.cells #[Value.int .i64 (capOf a0), Value.slice none 0 0, Value.slice none 0 0] 73)).cell? ⟨w3.heap.size, 0, none⟩ = some (.int .i64 (capOf a0)) := by rw [World.cell?_alloc_at _ _ _ _ rfl]; rfl
  have b1_1 : (w3.alloc (Obj.cells #[Value.int .i64 (capOf a0), Value.slice none 0 0, Value.slice none 0 0] 73)).cell? ⟨w3.heap.size, 1, none⟩ = some (.slice none 0 0) := by rw [World.cell?_alloc_at _ _ _ _ rfl]; rfl
  have b1_2 : (w3.alloc (Obj.cells #[Value.int .i64 (capOf a0), Value.slice none 0 0, Value.slice none 0 0] 73)).cell? ⟨w3.heap.size, 2, none⟩ = some (.slice none 0 0) := by rw [World.cell?_alloc_at _ _ _ _ rfl]; rfl
  have m4 := Mk.alloc w3 (Obj.cells #[Value.int .i64 (capOf a0), Value.slice none 0 0, Value.slice none 0 0] 73)
  have M4 := M3.trans m4
  have s4 : w3.heap.size < (w3.alloc (Obj.cells #[Value.int .i64 (capOf a0), Value.slice none 0 0, Value.slice none 0 0] 73)).heap.size := by rw [World.size_alloc]; omega
  replace b0_0 := m4.cellAt b0_0
  replace b0_1 := m4.cellAt b0_1
  replace b0_2 := m4.cellAt b0_2
  generalize (w3.alloc (Obj.cells #[Value.int .i64 (capOf a0), Value.slice none 0 0, Value.slice none 0 0] 73)) = w4 at *
  refine (eqNewScheduler (capOf a0) _).mono ?_
  rintro e w5 ⟨rfl, m5⟩
  have M5 := M4.trans m5
  have s5 := m5.size
  replace b0_0 := m5.cellAt b0_0
  replace b0_1 := m5.cellAt b0_1
  replace b0_2 := m5.cellAt b0_2
  replace b1_0 := m5.cellAt b1_0
  replace b1_1 := m5.cellAt b1_1
  replace b1_2 := m5.cellAt b1_2
  have ltb0_5 : w1.heap.size < w5.heap.size := by omega
  have ltb1_5 : w3.heap.size < w5.heap.size := by omega
  go_wp2_with fail
  refine (markNewScheduler (capOf a0) _).mono ?_
  rintro e w6 ⟨rfl, m6⟩
  have M6 := M5.trans m6
  have s6 := m6.size
  replace b0_0 := m6.cellAt b0_0
  replace b0_1 := m6.cellAt b0_1
  replace b0_2 := m6.cellAt b0_2
  replace b1_0 := m6.cellAt b1_0
  replace b1_1 := m6.cellAt b1_1
  replace b1_2 := m6.cellAt b1_2
  have ltb0_6 : w1.heap.size < w6.heap.size := by omega
  have ltb1_6 : w3.heap.size < w6.heap.size := by omega
  go_wp2_with fail
  refine (heldNewScheduler (capOf a0) _).mono ?_
  rintro e w7 ⟨rfl, m7⟩
  have M7 := M6.trans m7
  have s7 := m7.size
  replace b0_0 := m7.cellAt b0_0
  replace b0_1 := m7.cellAt b0_1
  replace b0_2 := m7.cellAt b0_2
  replace b1_0 := m7.cellAt b1_0
  replace b1_1 := m7.cellAt b1_1
  replace b1_2 := m7.cellAt b1_2
  have ltb0_7 : w1.heap.size < w7.heap.size := by omega
  have ltb1_7 : w3.heap.size < w7.heap.size := by omega
  go_wp2_with fail
  refine (implNewScheduler a0 _).mono ?_
  rintro e w8 ⟨rfl, m8⟩
  have M8 := M7.trans m8
  have s8 := m8.size
  replace b0_0 := m8.cellAt b0_0
  replace b0_1 := m8.cellAt b0_1
  replace b0_2 := m8.cellAt b0_2
  replace b1_0 := m8.cellAt b1_0
  replace b1_1 := m8.cellAt b1_1
  replace b1_2 := m8.cellAt b1_2
  have ltb0_8 : w1.heap.size < w8.heap.size := by omega
  have ltb1_8 : w3.heap.size < w8.heap.size := by omega
  go_wp2_with fail
  have b2_0 : (w8.alloc (Obj.cells #[Value.int .i64 (capOf a0), Value.slice none 0 0, Value.slice none 0 0] 73)).cell? ⟨w8.heap.size, 0, none⟩ = some (.int .i64 (capOf a0)) := by rw [World.cell?_alloc_at _ _ _ _ rfl]; rfl
  have b2_1 : (w8.alloc (Obj.cells #[Value.int .i64 (capOf a0), Value.slice none 0 0, Value.slice none 0 0] 73)).cell? ⟨w8.heap.size, 1, none⟩ = some (.slice none 0 0) := by rw [World.cell?_alloc_at _ _ _ _ rfl]; rfl
  have b2_2 : (w8.alloc (Obj.cells #[Value.int .i64 (capOf a0), Value.slice none 0 0, Value.slice none 0 0] 73)).cell? ⟨w8.heap.size, 2, none⟩ = some (.slice none 0 0) := by rw [World.cell?_alloc_at _ _ _ _ rfl]; rfl
  have m9 := Mk.alloc w8 (Obj.cells #[Value.int .i64 (capOf a0), Value.slice none 0 0, Value.slice none 0 0] 73)
  have M9 := M8.trans m9
  have s9 : w8.heap.size < (w8.alloc (Obj.cells #[Value.int .i64 (capOf a0), Value.slice none 0 0, Value.slice none 0 0] 73)).heap.size := by rw [World.size_alloc]; omega
  replace b0_0 := m9.cellAt b0_0
  replace b0_1 := m9.cellAt b0_1
  replace b0_2 := m9.cellAt b0_2
  replace b1_0 := m9.cellAt b1_0
  replace b1_1 := m9.cellAt b1_1
  replace b1_2 := m9.cellAt b1_2
  generalize (w8.alloc (Obj.cells #[Value.int .i64 (capOf a0), Value.slice none 0 0, Value.slice none 0 0] 73)) = w9 at *
  refine (eqNewScheduler (capOf a0) _).mono ?_
  rintro e w10 ⟨rfl, m10⟩
  have M10 := M9.trans m10
  have s10 := m10.size
  replace b0_0 := m10.cellAt b0_0
  replace b0_1 := m10.cellAt b0_1
  replace b0_2 := m10.cellAt b0_2
  replace b1_0 := m10.cellAt b1_0
  replace b1_1 := m10.cellAt b1_1
  replace b1_2 := m10.cellAt b1_2
  replace b2_0 := m10.cellAt b2_0
  replace b2_1 := m10.cellAt b2_1
  replace b2_2 := m10.cellAt b2_2
  have ltb0_10 : w1.heap.size < w10.heap.size := by omega
  have ltb1_10 : w3.heap.size < w10.heap.size := by omega
  have ltb2_10 : w8.heap.size < w10.heap.size := by omega
  go_wp2_with fail
  refine (heldNewScheduler (capOf a0) _).mono ?_
  rintro e w11 ⟨rfl, m11⟩
  have M11 := M10.trans m11
  have s11 := m11.size
  replace b0_0 := m11.cellAt b0_0
  replace b0_1 := m11.cellAt b0_1
  replace b0_2 := m11.cellAt b0_2
  replace b1_0 := m11.cellAt b1_0
  replace b1_1 := m11.cellAt b1_1
  replace b1_2 := m11.cellAt b1_2
  replace b2_0 := m11.cellAt b2_0
  replace b2_1 := m11.cellAt b2_1
  replace b2_2 := m11.cellAt b2_2
  have ltb0_11 : w1.heap.size < w11.heap.size := by omega
  have ltb1_11 : w3.heap.size < w11.heap.size := by omega
  have ltb2_11 : w8.heap.size < w11.heap.size := by omega
  go_wp2_with fail
  go_ret
  exact ⟨rfl, M11.below0⟩

set_option maxRecDepth 100000 in
theorem lifted (os : Os) (started : os.Started) (H : Type) (enc : TypeId × Value → H) :
    ReturnsInHanded {} Try.checked os 11 .any (Rows.fnExactNewSchedulerSpec.pre6 enc Try.prog Try.f11 Rows.fnExactNewSchedulerRow.domain false) (Rows.fnExactNewSchedulerSpec.post enc Try.prog Try.f11 false true false false) := by
  refine returnsInHanded_of_change (C := Try.checked) own started (by kernel_rfl) Try.func11
    (ChangeSpec.witness6 (enc := enc) (C := Try.checked) false ⟨#[], #[.int .i64 0], []⟩ 8 (by kernel_rfl) (by kernel_rfl) (by kernel_rfl) (by kernel_rfl)) ?_
  intro W base args ds gs before hval0 hW hcnd _
  have hval : ∀ (j : Nat) t v, Try.f11.params[j]? = some t → args[j]? = some v → Value.okWide Try.prog W .any base t v := hval0
  have hW' := hW
  obtain ⟨p, q, hA0, hV, rfl, hfz, hnd⟩ := hW
  have hA : DataW.TrodAll enc Try.prog W 0 (fun _ => true) true Try.f11.params.toList args.toList ds p := hA0
  rw [Try.params11] at hA hval
  obtain ⟨v0, vs0, d0, ds0, p0, q0, hargs, rfl, rfl, h0, r0⟩ := trodAll_cons hA
  obtain ⟨rfl, rfl, rfl⟩ := trodAll_nil r0
  obtain rfl : args = #[v0] := by cases args; simp_all
  obtain ⟨rfl, rfl⟩ := trodVars_none hV
  obtain ⟨a0, rfl, rfl, rfl, w0⟩ := open_int Try.underlying3 (hval 0 3 v0 rfl rfl) h0
  clear hA0 hval0
  refine (walk a0 W w0).mono fun e W' ⟨he, bel⟩ => ?_
  subst he
  exact ⟨_, rfl, _, _, _, [], _, [], hW', trodAll_mk1 (shut_bool Try.underlying4 _), (trodAll_cons_mk (shut_int Try.underlying3 w0) trodAll_mk0), rfl, bel.frame _, fun h => by cases h⟩

theorem over : Rows.fnExactNewSchedulerRow.holds Try.pinned (OpenSpec.ofChange Rows.fnExactNewSchedulerSpec) :=
  OpenClaim.holds_of_wide 11 Try.f11 rfl rfl rfl rfl rfl rfl rfl ⟨rfl, rfl, rfl, rfl, rfl⟩ rfl rfl rfl rfl rfl (by kernel_rfl) Try.func11 (by kernel_rfl)
    (of_decide_eq_true (by kernel_rfl)) (by unfold Func.isWrapper; first | (rw [if_pos (by decide +kernel)]; kernel_rfl) | (rw [if_neg (by decide +kernel)]; exact ⟨rfl, rfl⟩))
    (fun os started H enc _ => lifted os started H enc)

theorem proved : Rows.FnExactNewSchedulerSaid := over
#print axioms proved
end Go.Proofs.Ytdbaecgbhadkbaa.fnExactNewScheduler
