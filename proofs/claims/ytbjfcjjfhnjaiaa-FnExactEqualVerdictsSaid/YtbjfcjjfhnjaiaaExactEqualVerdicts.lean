
/- For every two verdicts, the law on EqualVerdicts returns true; no further condition. -/
import Derived.Test.YtbjfcjjfhnjaiaaRows
import Derived.WalkKit
import Derived.ProofKit
import Derived.OpenShut
import Derived.ShutString
import Derived.ChangeOld
import Derived.Below
import Derived.Test.YtbjfcjjfhnjaiaaOPathPart
import Derived.Test.YtbjfcjjfhnjaiaaOpenN
import Derived.Test.YtbjfcjjfhnjaiaaStruct
import Derived.Deep.RegionHeld3
import Derived.Test.YtbjfcjjfhnjaiaaEqPk
import Derived.Test.YtbjfcjjfhnjaiaaCVerdict
namespace Go.Proofs.Ytbjfcjjfhnjaiaa.fnExactEqualVerdicts
open Go.ChangeShapes Go.WideShapes Go.ChangeAt Go.RowKit
open Go.ChangeMaps (open_string shut_string)
set_option linter.unusedVariables false

theorem own : ownKnob Try.prog.godebug = none := by kernel_rfl
theorem laidOut : laidOutB Try.prog = true := by kernel_rfl

set_option maxRecDepth 100000 in
set_option maxHeartbeats 4000000 in
theorem walk (a0_0 : Int) (a0_1 : Int) (a0_2 : Int) (a0_3 : Int) (a0_4 : Int) (a0_5 : Option Addr) (n0_5 c0_5 : Nat) (z0_5 : List TPathPart) (a0_6 : Int) (a0_7 : Int) (a0_8 : Int) (a0_9 : Int) (a0_10 : Int) (a0_11 : Option Addr) (n0_11 c0_11 : Nat) (z0_11 : List TByte) (a1_0 : Int) (a1_1 : Int) (a1_2 : Int) (a1_3 : Int) (a1_4 : Int) (a1_5 : Option Addr) (n1_5 c1_5 : Nat) (z1_5 : List TPathPart) (a1_6 : Int) (a1_7 : Int) (a1_8 : Int) (a1_9 : Int) (a1_10 : Int) (a1_11 : Option Addr) (n1_11 c1_11 : Nat) (z1_11 : List TByte) (w : World) (w0_0 : (Lit.int .i64 a0_0).wf = true) (w0_1 : (Lit.int .i64 a0_1).wf = true) (w0_2 : (Lit.int .i64 a0_2).wf = true) (w0_3 : (Lit.int .i64 a0_3).wf = true) (w0_4 : (Lit.int .i64 a0_4).wf = true) (h0_5 : HasPathPart w w.heap.size a0_5 n0_5 z0_5) (m0_5 : n0_5 ≤ 9223372036854775807) (f0_5 : ∀ x ∈ z0_5, TPathPart.fits x) (w0_6 : (Lit.int .i64 a0_6).wf = true) (w0_7 : (Lit.int .i64 a0_7).wf = true) (w0_8 : (Lit.int .i64 a0_8).wf = true) (w0_9 : (Lit.int .i64 a0_9).wf = true) (w0_10 : (Lit.int .i64 a0_10).wf = true) (h0_11 : HasByte w w.heap.size a0_11 n0_11 z0_11) (m0_11 : n0_11 ≤ 9223372036854775807) (f0_11 : ∀ x ∈ z0_11, TByte.fits x) (w1_0 : (Lit.int .i64 a1_0).wf = true) (w1_1 : (Lit.int .i64 a1_1).wf = true) (w1_2 : (Lit.int .i64 a1_2).wf = true) (w1_3 : (Lit.int .i64 a1_3).wf = true) (w1_4 : (Lit.int .i64 a1_4).wf = true) (h1_5 : HasPathPart w w.heap.size a1_5 n1_5 z1_5) (m1_5 : n1_5 ≤ 9223372036854775807) (f1_5 : ∀ x ∈ z1_5, TPathPart.fits x) (w1_6 : (Lit.int .i64 a1_6).wf = true) (w1_7 : (Lit.int .i64 a1_7).wf = true) (w1_8 : (Lit.int .i64 a1_8).wf = true) (w1_9 : (Lit.int .i64 a1_9).wf = true) (w1_10 : (Lit.int .i64 a1_10).wf = true) (h1_11 : HasByte w w.heap.size a1_11 n1_11 z1_11) (m1_11 : n1_11 ≤ 9223372036854775807) (f1_11 : ∀ x ∈ z1_11, TByte.fits x) :
    Calls Try.prog 9 #[.agg #[.int .i64 a0_0, .int .i64 a0_1, .int .i64 a0_2, .int .i64 a0_3, .int .i64 a0_4, .slice a0_5 n0_5 c0_5, .int .i64 a0_6, .int .i64 a0_7, .int .i64 a0_8, .int .i64 a0_9, .int .i64 a0_10, .slice a0_11 n0_11 c0_11], .agg #[.int .i64 a1_0, .int .i64 a1_1, .int .i64 a1_2, .int .i64 a1_3, .int .i64 a1_4, .slice a1_5 n1_5 c1_5, .int .i64 a1_6, .int .i64 a1_7, .int .i64 a1_8, .int .i64 a1_9, .int .i64 a1_10, .slice a1_11 n1_11 c1_11]] w fun e w' => e = .returned (.bool true) ∧ Below w.heap.size w w' := by
  by_cases hbig0 : (1048576 : Int) < ((szPathPart z0_5 n0_5 : Nat) : Int) + (n0_11 : Int)
  · go_enter Try.func9, Try.ntmps9
    go_wp2_with fail
    have M0 : Mk0 w ((w.alloc (Obj.cells #[Value.int .i64 a0_0, Value.int .i64 a0_1, Value.int .i64 a0_2, Value.int .i64 a0_3, Value.int .i64 a0_4, Value.slice a0_5 n0_5 c0_5, Value.int .i64 a0_6, Value.int .i64 a0_7, Value.int .i64 a0_8, Value.int .i64 a0_9, Value.int .i64 a0_10, Value.slice a0_11 n0_11 c0_11] 49)).alloc (Obj.cells #[Value.int .i64 a1_0, Value.int .i64 a1_1, Value.int .i64 a1_2, Value.int .i64 a1_3, Value.int .i64 a1_4, Value.slice a1_5 n1_5 c1_5, Value.int .i64 a1_6, Value.int .i64 a1_7, Value.int .i64 a1_8, Value.int .i64 a1_9, Value.int .i64 a1_10, Value.slice a1_11 n1_11 c1_11] 49)) := ((Mk.alloc w _).new _)
    have k0_0 : ((w.alloc (Obj.cells #[Value.int .i64 a0_0, Value.int .i64 a0_1, Value.int .i64 a0_2, Value.int .i64 a0_3, Value.int .i64 a0_4, Value.slice a0_5 n0_5 c0_5, Value.int .i64 a0_6, Value.int .i64 a0_7, Value.int .i64 a0_8, Value.int .i64 a0_9, Value.int .i64 a0_10, Value.slice a0_11 n0_11 c0_11] 49)).alloc (Obj.cells #[Value.int .i64 a1_0, Value.int .i64 a1_1, Value.int .i64 a1_2, Value.int .i64 a1_3, Value.int .i64 a1_4, Value.slice a1_5 n1_5 c1_5, Value.int .i64 a1_6, Value.int .i64 a1_7, Value.int .i64 a1_8, Value.int .i64 a1_9, Value.int .i64 a1_10, Value.slice a1_11 n1_11 c1_11] 49)).cell? ⟨w.heap.size, 0, none⟩ = some (.int .i64 a0_0) := by simp [go_sem]
    have k0_1 : ((w.alloc (Obj.cells #[Value.int .i64 a0_0, Value.int .i64 a0_1, Value.int .i64 a0_2, Value.int .i64 a0_3, Value.int .i64 a0_4, Value.slice a0_5 n0_5 c0_5, Value.int .i64 a0_6, Value.int .i64 a0_7, Value.int .i64 a0_8, Value.int .i64 a0_9, Value.int .i64 a0_10, Value.slice a0_11 n0_11 c0_11] 49)).alloc (Obj.cells #[Value.int .i64 a1_0, Value.int .i64 a1_1, Value.int .i64 a1_2, Value.int .i64 a1_3, Value.int .i64 a1_4, Value.slice a1_5 n1_5 c1_5, Value.int .i64 a1_6, Value.int .i64 a1_7, Value.int .i64 a1_8, Value.int .i64 a1_9, Value.int .i64 a1_10, Value.slice a1_11 n1_11 c1_11] 49)).cell? ⟨w.heap.size, 1, none⟩ = some (.int .i64 a0_1) := by simp [go_sem]
    have k0_2 : ((w.alloc (Obj.cells #[Value.int .i64 a0_0, Value.int .i64 a0_1, Value.int .i64 a0_2, Value.int .i64 a0_3, Value.int .i64 a0_4, Value.slice a0_5 n0_5 c0_5, Value.int .i64 a0_6, Value.int .i64 a0_7, Value.int .i64 a0_8, Value.int .i64 a0_9, Value.int .i64 a0_10, Value.slice a0_11 n0_11 c0_11] 49)).alloc (Obj.cells #[Value.int .i64 a1_0, Value.int .i64 a1_1, Value.int .i64 a1_2, Value.int .i64 a1_3, Value.int .i64 a1_4, Value.slice a1_5 n1_5 c1_5, Value.int .i64 a1_6, Value.int .i64 a1_7, Value.int .i64 a1_8, Value.int .i64 a1_9, Value.int .i64 a1_10, Value.slice a1_11 n1_11 c1_11] 49)).cell? ⟨w.heap.size, 2, none⟩ = some (.int .i64 a0_2) := by simp [go_sem]
    have k0_3 : ((w.alloc (Obj.cells #[Value.int .i64 a0_0, Value.int .i64 a0_1, Value.int .i64 a0_2, Value.int .i64 a0_3, Value.int .i64 a0_4, Value.slice a0_5 n0_5 c0_5, Value.int .i64 a0_6, Value.int .i64 a0_7, Value.int .i64 a0_8, Value.int .i64 a0_9, Value.int .i64 a0_10, Value.slice a0_11 n0_11 c0_11] 49)).alloc (Obj.cells #[Value.int .i64 a1_0, Value.int .i64 a1_1, Value.int .i64 a1_2, Value.int .i64 a1_3, Value.int .i64 a1_4, Value.slice a1_5 n1_5 c1_5, Value.int .i64 a1_6, Value.int .i64 a1_7, Value.int .i64 a1_8, Value.int .i64 a1_9, Value.int .i64 a1_10, Value.slice a1_11 n1_11 c1_11] 49)).cell? ⟨w.heap.size, 3, none⟩ = some (.int .i64 a0_3) := by simp [go_sem]
    have k0_4 : ((w.alloc (Obj.cells #[Value.int .i64 a0_0, Value.int .i64 a0_1, Value.int .i64 a0_2, Value.int .i64 a0_3, Value.int .i64 a0_4, Value.slice a0_5 n0_5 c0_5, Value.int .i64 a0_6, Value.int .i64 a0_7, Value.int .i64 a0_8, Value.int .i64 a0_9, Value.int .i64 a0_10, Value.slice a0_11 n0_11 c0_11] 49)).alloc (Obj.cells #[Value.int .i64 a1_0, Value.int .i64 a1_1, Value.int .i64 a1_2, Value.int .i64 a1_3, Value.int .i64 a1_4, Value.slice a1_5 n1_5 c1_5, Value.int .i64 a1_6, Value.int .i64 a1_7, Value.int .i64 a1_8, Value.int .i64 a1_9, Value.int .i64 a1_10, Value.slice a1_11 n1_11 c1_11] 49)).cell? ⟨w.heap.size, 4, none⟩ = some (.int .i64 a0_4) := by simp [go_sem]
    have k0_5 : ((w.alloc (Obj.cells #[Value.int .i64 a0_0, Value.int .i64 a0_1, Value.int .i64 a0_2, Value.int .i64 a0_3, Value.int .i64 a0_4, Value.slice a0_5 n0_5 c0_5, Value.int .i64 a0_6, Value.int .i64 a0_7, Value.int .i64 a0_8, Value.int .i64 a0_9, Value.int .i64 a0_10, Value.slice a0_11 n0_11 c0_11] 49)).alloc (Obj.cells #[Value.int .i64 a1_0, Value.int .i64 a1_1, Value.int .i64 a1_2, Value.int .i64 a1_3, Value.int .i64 a1_4, Value.slice a1_5 n1_5 c1_5, Value.int .i64 a1_6, Value.int .i64 a1_7, Value.int .i64 a1_8, Value.int .i64 a1_9, Value.int .i64 a1_10, Value.slice a1_11 n1_11 c1_11] 49)).cell? ⟨w.heap.size, 5, none⟩ = some (.slice a0_5 n0_5 c0_5) := by simp [go_sem]
    have k0_6 : ((w.alloc (Obj.cells #[Value.int .i64 a0_0, Value.int .i64 a0_1, Value.int .i64 a0_2, Value.int .i64 a0_3, Value.int .i64 a0_4, Value.slice a0_5 n0_5 c0_5, Value.int .i64 a0_6, Value.int .i64 a0_7, Value.int .i64 a0_8, Value.int .i64 a0_9, Value.int .i64 a0_10, Value.slice a0_11 n0_11 c0_11] 49)).alloc (Obj.cells #[Value.int .i64 a1_0, Value.int .i64 a1_1, Value.int .i64 a1_2, Value.int .i64 a1_3, Value.int .i64 a1_4, Value.slice a1_5 n1_5 c1_5, Value.int .i64 a1_6, Value.int .i64 a1_7, Value.int .i64 a1_8, Value.int .i64 a1_9, Value.int .i64 a1_10, Value.slice a1_11 n1_11 c1_11] 49)).cell? ⟨w.heap.size, 6, none⟩ = some (.int .i64 a0_6) := by simp [go_sem]
    have k0_7 : ((w.alloc (Obj.cells #[Value.int .i64 a0_0, Value.int .i64 a0_1, Value.int .i64 a0_2, Value.int .i64 a0_3, Value.int .i64 a0_4, Value.slice a0_5 n0_5 c0_5, Value.int .i64 a0_6, Value.int .i64 a0_7, Value.int .i64 a0_8, Value.int .i64 a0_9, Value.int .i64 a0_10, Value.slice a0_11 n0_11 c0_11] 49)).alloc (Obj.cells #[Value.int .i64 a1_0, Value.int .i64 a1_1, Value.int .i64 a1_2, Value.int .i64 a1_3, Value.int .i64 a1_4, Value.slice a1_5 n1_5 c1_5, Value.int .i64 a1_6, Value.int .i64 a1_7, Value.int .i64 a1_8, Value.int .i64 a1_9, Value.int .i64 a1_10, Value.slice a1_11 n1_11 c1_11] 49)).cell? ⟨w.heap.size, 7, none⟩ = some (.int .i64 a0_7) := by simp [go_sem]
    have k0_8 : ((w.alloc (Obj.cells #[Value.int .i64 a0_0, Value.int .i64 a0_1, Value.int .i64 a0_2, Value.int .i64 a0_3, Value.int .i64 a0_4, Value.slice a0_5 n0_5 c0_5, Value.int .i64 a0_6, Value.int .i64 a0_7, Value.int .i64 a0_8, Value.int .i64 a0_9, Value.int .i64 a0_10, Value.slice a0_11 n0_11 c0_11] 49)).alloc (Obj.cells #[Value.int .i64 a1_0, Value.int .i64 a1_1, Value.int .i64 a1_2, Value.int .i64 a1_3, Value.int .i64 a1_4, Value.slice a1_5 n1_5 c1_5, Value.int .i64 a1_6, Value.int .i64 a1_7, Value.int .i64 a1_8, Value.int .i64 a1_9, Value.int .i64 a1_10, Value.slice a1_11 n1_11 c1_11] 49)).cell? ⟨w.heap.size, 8, none⟩ = some (.int .i64 a0_8) := by simp [go_sem]
    have k0_9 : ((w.alloc (Obj.cells #[Value.int .i64 a0_0, Value.int .i64 a0_1, Value.int .i64 a0_2, Value.int .i64 a0_3, Value.int .i64 a0_4, Value.slice a0_5 n0_5 c0_5, Value.int .i64 a0_6, Value.int .i64 a0_7, Value.int .i64 a0_8, Value.int .i64 a0_9, Value.int .i64 a0_10, Value.slice a0_11 n0_11 c0_11] 49)).alloc (Obj.cells #[Value.int .i64 a1_0, Value.int .i64 a1_1, Value.int .i64 a1_2, Value.int .i64 a1_3, Value.int .i64 a1_4, Value.slice a1_5 n1_5 c1_5, Value.int .i64 a1_6, Value.int .i64 a1_7, Value.int .i64 a1_8, Value.int .i64 a1_9, Value.int .i64 a1_10, Value.slice a1_11 n1_11 c1_11] 49)).cell? ⟨w.heap.size, 9, none⟩ = some (.int .i64 a0_9) := by simp [go_sem]
    have k0_10 : ((w.alloc (Obj.cells #[Value.int .i64 a0_0, Value.int .i64 a0_1, Value.int .i64 a0_2, Value.int .i64 a0_3, Value.int .i64 a0_4, Value.slice a0_5 n0_5 c0_5, Value.int .i64 a0_6, Value.int .i64 a0_7, Value.int .i64 a0_8, Value.int .i64 a0_9, Value.int .i64 a0_10, Value.slice a0_11 n0_11 c0_11] 49)).alloc (Obj.cells #[Value.int .i64 a1_0, Value.int .i64 a1_1, Value.int .i64 a1_2, Value.int .i64 a1_3, Value.int .i64 a1_4, Value.slice a1_5 n1_5 c1_5, Value.int .i64 a1_6, Value.int .i64 a1_7, Value.int .i64 a1_8, Value.int .i64 a1_9, Value.int .i64 a1_10, Value.slice a1_11 n1_11 c1_11] 49)).cell? ⟨w.heap.size, 10, none⟩ = some (.int .i64 a0_10) := by simp [go_sem]
    have k0_11 : ((w.alloc (Obj.cells #[Value.int .i64 a0_0, Value.int .i64 a0_1, Value.int .i64 a0_2, Value.int .i64 a0_3, Value.int .i64 a0_4, Value.slice a0_5 n0_5 c0_5, Value.int .i64 a0_6, Value.int .i64 a0_7, Value.int .i64 a0_8, Value.int .i64 a0_9, Value.int .i64 a0_10, Value.slice a0_11 n0_11 c0_11] 49)).alloc (Obj.cells #[Value.int .i64 a1_0, Value.int .i64 a1_1, Value.int .i64 a1_2, Value.int .i64 a1_3, Value.int .i64 a1_4, Value.slice a1_5 n1_5 c1_5, Value.int .i64 a1_6, Value.int .i64 a1_7, Value.int .i64 a1_8, Value.int .i64 a1_9, Value.int .i64 a1_10, Value.slice a1_11 n1_11 c1_11] 49)).cell? ⟨w.heap.size, 11, none⟩ = some (.slice a0_11 n0_11 c0_11) := by simp [go_sem]
    have k1_0 : ((w.alloc (Obj.cells #[Value.int .i64 a0_0, Value.int .i64 a0_1, Value.int .i64 a0_2, Value.int .i64 a0_3, Value.int .i64 a0_4, Value.slice a0_5 n0_5 c0_5, Value.int .i64 a0_6, Value.int .i64 a0_7, Value.int .i64 a0_8, Value.int .i64 a0_9, Value.int .i64 a0_10, Value.slice a0_11 n0_11 c0_11] 49)).alloc (Obj.cells #[Value.int .i64 a1_0, Value.int .i64 a1_1, Value.int .i64 a1_2, Value.int .i64 a1_3, Value.int .i64 a1_4, Value.slice a1_5 n1_5 c1_5, Value.int .i64 a1_6, Value.int .i64 a1_7, Value.int .i64 a1_8, Value.int .i64 a1_9, Value.int .i64 a1_10, Value.slice a1_11 n1_11 c1_11] 49)).cell? ⟨w.heap.size + 1, 0, none⟩ = some (.int .i64 a1_0) := by simp [go_sem]
    have k1_1 : ((w.alloc (Obj.cells #[Value.int .i64 a0_0, Value.int .i64 a0_1, Value.int .i64 a0_2, Value.int .i64 a0_3, Value.int .i64 a0_4, Value.slice a0_5 n0_5 c0_5, Value.int .i64 a0_6, Value.int .i64 a0_7, Value.int .i64 a0_8, Value.int .i64 a0_9, Value.int .i64 a0_10, Value.slice a0_11 n0_11 c0_11] 49)).alloc (Obj.cells #[Value.int .i64 a1_0, Value.int .i64 a1_1, Value.int .i64 a1_2, Value.int .i64 a1_3, Value.int .i64 a1_4, Value.slice a1_5 n1_5 c1_5, Value.int .i64 a1_6, Value.int .i64 a1_7, Value.int .i64 a1_8, Value.int .i64 a1_9, Value.int .i64 a1_10, Value.slice a1_11 n1_11 c1_11] 49)).cell? ⟨w.heap.size + 1, 1, none⟩ = some (.int .i64 a1_1) := by simp [go_sem]
    have k1_2 : ((w.alloc (Obj.cells #[Value.int .i64 a0_0, Value.int .i64 a0_1, Value.int .i64 a0_2, Value.int .i64 a0_3, Value.int .i64 a0_4, Value.slice a0_5 n0_5 c0_5, Value.int .i64 a0_6, Value.int .i64 a0_7, Value.int .i64 a0_8, Value.int .i64 a0_9, Value.int .i64 a0_10, Value.slice a0_11 n0_11 c0_11] 49)).alloc (Obj.cells #[Value.int .i64 a1_0, Value.int .i64 a1_1, Value.int .i64 a1_2, Value.int .i64 a1_3, Value.int .i64 a1_4, Value.slice a1_5 n1_5 c1_5, Value.int .i64 a1_6, Value.int .i64 a1_7, Value.int .i64 a1_8, Value.int .i64 a1_9, Value.int .i64 a1_10, Value.slice a1_11 n1_11 c1_11] 49)).cell? ⟨w.heap.size + 1, 2, none⟩ = some (.int .i64 a1_2) := by simp [go_sem]
    have k1_3 : ((w.alloc (Obj.cells #[Value.int .i64 a0_0, Value.int .i64 a0_1, Value.int .i64 a0_2, Value.int .i64 a0_3, Value.int .i64 a0_4, Value.slice a0_5 n0_5 c0_5, Value.int .i64 a0_6, Value.int .i64 a0_7, Value.int .i64 a0_8, Value.int .i64 a0_9, Value.int .i64 a0_10, Value.slice a0_11 n0_11 c0_11] 49)).alloc (Obj.cells #[Value.int .i64 a1_0, Value.int .i64 a1_1, Value.int .i64 a1_2, Value.int .i64 a1_3, Value.int .i64 a1_4, Value.slice a1_5 n1_5 c1_5, Value.int .i64 a1_6, Value.int .i64 a1_7, Value.int .i64 a1_8, Value.int .i64 a1_9, Value.int .i64 a1_10, Value.slice a1_11 n1_11 c1_11] 49)).cell? ⟨w.heap.size + 1, 3, none⟩ = some (.int .i64 a1_3) := by simp [go_sem]
    have k1_4 : ((w.alloc (Obj.cells #[Value.int .i64 a0_0, Value.int .i64 a0_1, Value.int .i64 a0_2, Value.int .i64 a0_3, Value.int .i64 a0_4, Value.slice a0_5 n0_5 c0_5, Value.int .i64 a0_6, Value.int .i64 a0_7, Value.int .i64 a0_8, Value.int .i64 a0_9, Value.int .i64 a0_10, Value.slice a0_11 n0_11 c0_11] 49)).alloc (Obj.cells #[Value.int .i64 a1_0, Value.int .i64 a1_1, Value.int .i64 a1_2, Value.int .i64 a1_3, Value.int .i64 a1_4, Value.slice a1_5 n1_5 c1_5, Value.int .i64 a1_6, Value.int .i64 a1_7, Value.int .i64 a1_8, Value.int .i64 a1_9, Value.int .i64 a1_10, Value.slice a1_11 n1_11 c1_11] 49)).cell? ⟨w.heap.size + 1, 4, none⟩ = some (.int .i64 a1_4) := by simp [go_sem]
    have k1_5 : ((w.alloc (Obj.cells #[Value.int .i64 a0_0, Value.int .i64 a0_1, Value.int .i64 a0_2, Value.int .i64 a0_3, Value.int .i64 a0_4, Value.slice a0_5 n0_5 c0_5, Value.int .i64 a0_6, Value.int .i64 a0_7, Value.int .i64 a0_8, Value.int .i64 a0_9, Value.int .i64 a0_10, Value.slice a0_11 n0_11 c0_11] 49)).alloc (Obj.cells #[Value.int .i64 a1_0, Value.int .i64 a1_1, Value.int .i64 a1_2, Value.int .i64 a1_3, Value.int .i64 a1_4, Value.slice a1_5 n1_5 c1_5, Value.int .i64 a1_6, Value.int .i64 a1_7, Value.int .i64 a1_8, Value.int .i64 a1_9, Value.int .i64 a1_10, Value.slice a1_11 n1_11 c1_11] 49)).cell? ⟨w.heap.size + 1, 5, none⟩ = some (.slice a1_5 n1_5 c1_5) := by simp [go_sem]
    have k1_6 : ((w.alloc (Obj.cells #[Value.int .i64 a0_0, Value.int .i64 a0_1, Value.int .i64 a0_2, Value.int .i64 a0_3, Value.int .i64 a0_4, Value.slice a0_5 n0_5 c0_5, Value.int .i64 a0_6, Value.int .i64 a0_7, Value.int .i64 a0_8, Value.int .i64 a0_9, Value.int .i64 a0_10, Value.slice a0_11 n0_11 c0_11] 49)).alloc (Obj.cells #[Value.int .i64 a1_0, Value.int .i64 a1_1, Value.int .i64 a1_2, Value.int .i64 a1_3, Value.int .i64 a1_4, Value.slice a1_5 n1_5 c1_5, Value.int .i64 a1_6, Value.int .i64 a1_7, Value.int .i64 a1_8, Value.int .i64 a1_9, Value.int .i64 a1_10, Value.slice a1_11 n1_11 c1_11] 49)).cell? ⟨w.heap.size + 1, 6, none⟩ = some (.int .i64 a1_6) := by simp [go_sem]
    have k1_7 : ((w.alloc (Obj.cells #[Value.int .i64 a0_0, Value.int .i64 a0_1, Value.int .i64 a0_2, Value.int .i64 a0_3, Value.int .i64 a0_4, Value.slice a0_5 n0_5 c0_5, Value.int .i64 a0_6, Value.int .i64 a0_7, Value.int .i64 a0_8, Value.int .i64 a0_9, Value.int .i64 a0_10, Value.slice a0_11 n0_11 c0_11] 49)).alloc (Obj.cells #[Value.int .i64 a1_0, Value.int .i64 a1_1, Value.int .i64 a1_2, Value.int .i64 a1_3, Value.int .i64 a1_4, Value.slice a1_5 n1_5 c1_5, Value.int .i64 a1_6, Value.int .i64 a1_7, Value.int .i64 a1_8, Value.int .i64 a1_9, Value.int .i64 a1_10, Value.slice a1_11 n1_11 c1_11] 49)).cell? ⟨w.heap.size + 1, 7, none⟩ = some (.int .i64 a1_7) := by simp [go_sem]
    have k1_8 : ((w.alloc (Obj.cells #[Value.int .i64 a0_0, Value.int .i64 a0_1, Value.int .i64 a0_2, Value.int .i64 a0_3, Value.int .i64 a0_4, Value.slice a0_5 n0_5 c0_5, Value.int .i64 a0_6, Value.int .i64 a0_7, Value.int .i64 a0_8, Value.int .i64 a0_9, Value.int .i64 a0_10, Value.slice a0_11 n0_11 c0_11] 49)).alloc (Obj.cells #[Value.int .i64 a1_0, Value.int .i64 a1_1, Value.int .i64 a1_2, Value.int .i64 a1_3, Value.int .i64 a1_4, Value.slice a1_5 n1_5 c1_5, Value.int .i64 a1_6, Value.int .i64 a1_7, Value.int .i64 a1_8, Value.int .i64 a1_9, Value.int .i64 a1_10, Value.slice a1_11 n1_11 c1_11] 49)).cell? ⟨w.heap.size + 1, 8, none⟩ = some (.int .i64 a1_8) := by simp [go_sem]
    have k1_9 : ((w.alloc (Obj.cells #[Value.int .i64 a0_0, Value.int .i64 a0_1, Value.int .i64 a0_2, Value.int .i64 a0_3, Value.int .i64 a0_4, Value.slice a0_5 n0_5 c0_5, Value.int .i64 a0_6, Value.int .i64 a0_7, Value.int .i64 a0_8, Value.int .i64 a0_9, Value.int .i64 a0_10, Value.slice a0_11 n0_11 c0_11] 49)).alloc (Obj.cells #[Value.int .i64 a1_0, Value.int .i64 a1_1, Value.int .i64 a1_2, Value.int .i64 a1_3, Value.int .i64 a1_4, Value.slice a1_5 n1_5 c1_5, Value.int .i64 a1_6, Value.int .i64 a1_7, Value.int .i64 a1_8, Value.int .i64 a1_9, Value.int .i64 a1_10, Value.slice a1_11 n1_11 c1_11] 49)).cell? ⟨w.heap.size + 1, 9, none⟩ = some (.int .i64 a1_9) := by simp [go_sem]
    have k1_10 : ((w.alloc (Obj.cells #[Value.int .i64 a0_0, Value.int .i64 a0_1, Value.int .i64 a0_2, Value.int .i64 a0_3, Value.int .i64 a0_4, Value.slice a0_5 n0_5 c0_5, Value.int .i64 a0_6, Value.int .i64 a0_7, Value.int .i64 a0_8, Value.int .i64 a0_9, Value.int .i64 a0_10, Value.slice a0_11 n0_11 c0_11] 49)).alloc (Obj.cells #[Value.int .i64 a1_0, Value.int .i64 a1_1, Value.int .i64 a1_2, Value.int .i64 a1_3, Value.int .i64 a1_4, Value.slice a1_5 n1_5 c1_5, Value.int .i64 a1_6, Value.int .i64 a1_7, Value.int .i64 a1_8, Value.int .i64 a1_9, Value.int .i64 a1_10, Value.slice a1_11 n1_11 c1_11] 49)).cell? ⟨w.heap.size + 1, 10, none⟩ = some (.int .i64 a1_10) := by simp [go_sem]
    have k1_11 : ((w.alloc (Obj.cells #[Value.int .i64 a0_0, Value.int .i64 a0_1, Value.int .i64 a0_2, Value.int .i64 a0_3, Value.int .i64 a0_4, Value.slice a0_5 n0_5 c0_5, Value.int .i64 a0_6, Value.int .i64 a0_7, Value.int .i64 a0_8, Value.int .i64 a0_9, Value.int .i64 a0_10, Value.slice a0_11 n0_11 c0_11] 49)).alloc (Obj.cells #[Value.int .i64 a1_0, Value.int .i64 a1_1, Value.int .i64 a1_2, Value.int .i64 a1_3, Value.int .i64 a1_4, Value.slice a1_5 n1_5 c1_5, Value.int .i64 a1_6, Value.int .i64 a1_7, Value.int .i64 a1_8, Value.int .i64 a1_9, Value.int .i64 a1_10, Value.slice a1_11 n1_11 c1_11] 49)).cell? ⟨w.heap.size + 1, 11, none⟩ = some (.slice a1_11 n1_11 c1_11) := by simp [go_sem]
    refine (szVerdictB _ _ _ _ _ _ _ _ _ _ _ _ _ _ _ _ z0_5 w.heap.size _ _ (h0_5.mk M0 (Nat.le_refl _) (.inr (Nat.le_refl _))) M0.size (by omega) (by omega) (by omega) m0_5 m0_11).mono ?_
    rintro e w1 ⟨rfl, m1⟩
    go_wp2_with fail
    go_ret
    exact ⟨rfl, (M0.trans m1).below0⟩
  have hn0 : ((szPathPart z0_5 n0_5 : Nat) : Int) + (n0_11 : Int) ≤ (1048576 : Int) := by omega
  clear hbig0
  by_cases hbig1 : (1048576 - ((szPathPart z0_5 n0_5 : Nat) : Int) - n0_11 : Int) < ((szPathPart z1_5 n1_5 : Nat) : Int) + (n1_11 : Int)
  · go_enter Try.func9, Try.ntmps9
    go_wp2_with fail
    have M0 : Mk0 w ((w.alloc (Obj.cells #[Value.int .i64 a0_0, Value.int .i64 a0_1, Value.int .i64 a0_2, Value.int .i64 a0_3, Value.int .i64 a0_4, Value.slice a0_5 n0_5 c0_5, Value.int .i64 a0_6, Value.int .i64 a0_7, Value.int .i64 a0_8, Value.int .i64 a0_9, Value.int .i64 a0_10, Value.slice a0_11 n0_11 c0_11] 49)).alloc (Obj.cells #[Value.int .i64 a1_0, Value.int .i64 a1_1, Value.int .i64 a1_2, Value.int .i64 a1_3, Value.int .i64 a1_4, Value.slice a1_5 n1_5 c1_5, Value.int .i64 a1_6, Value.int .i64 a1_7, Value.int .i64 a1_8, Value.int .i64 a1_9, Value.int .i64 a1_10, Value.slice a1_11 n1_11 c1_11] 49)) := ((Mk.alloc w _).new _)
    have k0_0 : ((w.alloc (Obj.cells #[Value.int .i64 a0_0, Value.int .i64 a0_1, Value.int .i64 a0_2, Value.int .i64 a0_3, Value.int .i64 a0_4, Value.slice a0_5 n0_5 c0_5, Value.int .i64 a0_6, Value.int .i64 a0_7, Value.int .i64 a0_8, Value.int .i64 a0_9, Value.int .i64 a0_10, Value.slice a0_11 n0_11 c0_11] 49)).alloc (Obj.cells #[Value.int .i64 a1_0, Value.int .i64 a1_1, Value.int .i64 a1_2, Value.int .i64 a1_3, Value.int .i64 a1_4, Value.slice a1_5 n1_5 c1_5, Value.int .i64 a1_6, Value.int .i64 a1_7, Value.int .i64 a1_8, Value.int .i64 a1_9, Value.int .i64 a1_10, Value.slice a1_11 n1_11 c1_11] 49)).cell? ⟨w.heap.size, 0, none⟩ = some (.int .i64 a0_0) := by simp [go_sem]
    have k0_1 : ((w.alloc (Obj.cells #[Value.int .i64 a0_0, Value.int .i64 a0_1, Value.int .i64 a0_2, Value.int .i64 a0_3, Value.int .i64 a0_4, Value.slice a0_5 n0_5 c0_5, Value.int .i64 a0_6, Value.int .i64 a0_7, Value.int .i64 a0_8, Value.int .i64 a0_9, Value.int .i64 a0_10, Value.slice a0_11 n0_11 c0_11] 49)).alloc (Obj.cells #[Value.int .i64 a1_0, Value.int .i64 a1_1, Value.int .i64 a1_2, Value.int .i64 a1_3, Value.int .i64 a1_4, Value.slice a1_5 n1_5 c1_5, Value.int .i64 a1_6, Value.int .i64 a1_7, Value.int .i64 a1_8, Value.int .i64 a1_9, Value.int .i64 a1_10, Value.slice a1_11 n1_11 c1_11] 49)).cell? ⟨w.heap.size, 1, none⟩ = some (.int .i64 a0_1) := by simp [go_sem]
    have k0_2 : ((w.alloc (Obj.cells #[Value.int .i64 a0_0, Value.int .i64 a0_1, Value.int .i64 a0_2, Value.int .i64 a0_3, Value.int .i64 a0_4, Value.slice a0_5 n0_5 c0_5, Value.int .i64 a0_6, Value.int .i64 a0_7, Value.int .i64 a0_8, Value.int .i64 a0_9, Value.int .i64 a0_10, Value.slice a0_11 n0_11 c0_11] 49)).alloc (Obj.cells #[Value.int .i64 a1_0, Value.int .i64 a1_1, Value.int .i64 a1_2, Value.int .i64 a1_3, Value.int .i64 a1_4, Value.slice a1_5 n1_5 c1_5, Value.int .i64 a1_6, Value.int .i64 a1_7, Value.int .i64 a1_8, Value.int .i64 a1_9, Value.int .i64 a1_10, Value.slice a1_11 n1_11 c1_11] 49)).cell? ⟨w.heap.size, 2, none⟩ = some (.int .i64 a0_2) := by simp [go_sem]
    have k0_3 : ((w.alloc (Obj.cells #[Value.int .i64 a0_0, Value.int .i64 a0_1, Value.int .i64 a0_2, Value.int .i64 a0_3, Value.int .i64 a0_4, Value.slice a0_5 n0_5 c0_5, Value.int .i64 a0_6, Value.int .i64 a0_7, Value.int .i64 a0_8, Value.int .i64 a0_9, Value.int .i64 a0_10, Value.slice a0_11 n0_11 c0_11] 49)).alloc (Obj.cells #[Value.int .i64 a1_0, Value.int .i64 a1_1, Value.int .i64 a1_2, Value.int .i64 a1_3, Value.int .i64 a1_4, Value.slice a1_5 n1_5 c1_5, Value.int .i64 a1_6, Value.int .i64 a1_7, Value.int .i64 a1_8, Value.int .i64 a1_9, Value.int .i64 a1_10, Value.slice a1_11 n1_11 c1_11] 49)).cell? ⟨w.heap.size, 3, none⟩ = some (.int .i64 a0_3) := by simp [go_sem]
    have k0_4 : ((w.alloc (Obj.cells #[Value.int .i64 a0_0, Value.int .i64 a0_1, Value.int .i64 a0_2, Value.int .i64 a0_3, Value.int .i64 a0_4, Value.slice a0_5 n0_5 c0_5, Value.int .i64 a0_6, Value.int .i64 a0_7, Value.int .i64 a0_8, Value.int .i64 a0_9, Value.int .i64 a0_10, Value.slice a0_11 n0_11 c0_11] 49)).alloc (Obj.cells #[Value.int .i64 a1_0, Value.int .i64 a1_1, Value.int .i64 a1_2, Value.int .i64 a1_3, Value.int .i64 a1_4, Value.slice a1_5 n1_5 c1_5, Value.int .i64 a1_6, Value.int .i64 a1_7, Value.int .i64 a1_8, Value.int .i64 a1_9, Value.int .i64 a1_10, Value.slice a1_11 n1_11 c1_11] 49)).cell? ⟨w.heap.size, 4, none⟩ = some (.int .i64 a0_4) := by simp [go_sem]
    have k0_5 : ((w.alloc (Obj.cells #[Value.int .i64 a0_0, Value.int .i64 a0_1, Value.int .i64 a0_2, Value.int .i64 a0_3, Value.int .i64 a0_4, Value.slice a0_5 n0_5 c0_5, Value.int .i64 a0_6, Value.int .i64 a0_7, Value.int .i64 a0_8, Value.int .i64 a0_9, Value.int .i64 a0_10, Value.slice a0_11 n0_11 c0_11] 49)).alloc (Obj.cells #[Value.int .i64 a1_0, Value.int .i64 a1_1, Value.int .i64 a1_2, Value.int .i64 a1_3, Value.int .i64 a1_4, Value.slice a1_5 n1_5 c1_5, Value.int .i64 a1_6, Value.int .i64 a1_7, Value.int .i64 a1_8, Value.int .i64 a1_9, Value.int .i64 a1_10, Value.slice a1_11 n1_11 c1_11] 49)).cell? ⟨w.heap.size, 5, none⟩ = some (.slice a0_5 n0_5 c0_5) := by simp [go_sem]
    have k0_6 : ((w.alloc (Obj.cells #[Value.int .i64 a0_0, Value.int .i64 a0_1, Value.int .i64 a0_2, Value.int .i64 a0_3, Value.int .i64 a0_4, Value.slice a0_5 n0_5 c0_5, Value.int .i64 a0_6, Value.int .i64 a0_7, Value.int .i64 a0_8, Value.int .i64 a0_9, Value.int .i64 a0_10, Value.slice a0_11 n0_11 c0_11] 49)).alloc (Obj.cells #[Value.int .i64 a1_0, Value.int .i64 a1_1, Value.int .i64 a1_2, Value.int .i64 a1_3, Value.int .i64 a1_4, Value.slice a1_5 n1_5 c1_5, Value.int .i64 a1_6, Value.int .i64 a1_7, Value.int .i64 a1_8, Value.int .i64 a1_9, Value.int .i64 a1_10, Value.slice a1_11 n1_11 c1_11] 49)).cell? ⟨w.heap.size, 6, none⟩ = some (.int .i64 a0_6) := by simp [go_sem]
    have k0_7 : ((w.alloc (Obj.cells #[Value.int .i64 a0_0, Value.int .i64 a0_1, Value.int .i64 a0_2, Value.int .i64 a0_3, Value.int .i64 a0_4, Value.slice a0_5 n0_5 c0_5, Value.int .i64 a0_6, Value.int .i64 a0_7, Value.int .i64 a0_8, Value.int .i64 a0_9, Value.int .i64 a0_10, Value.slice a0_11 n0_11 c0_11] 49)).alloc (Obj.cells #[Value.int .i64 a1_0, Value.int .i64 a1_1, Value.int .i64 a1_2, Value.int .i64 a1_3, Value.int .i64 a1_4, Value.slice a1_5 n1_5 c1_5, Value.int .i64 a1_6, Value.int .i64 a1_7, Value.int .i64 a1_8, Value.int .i64 a1_9, Value.int .i64 a1_10, Value.slice a1_11 n1_11 c1_11] 49)).cell? ⟨w.heap.size, 7, none⟩ = some (.int .i64 a0_7) := by simp [go_sem]
    have k0_8 : ((w.alloc (Obj.cells #[Value.int .i64 a0_0, Value.int .i64 a0_1, Value.int .i64 a0_2, Value.int .i64 a0_3, Value.int .i64 a0_4, Value.slice a0_5 n0_5 c0_5, Value.int .i64 a0_6, Value.int .i64 a0_7, Value.int .i64 a0_8, Value.int .i64 a0_9, Value.int .i64 a0_10, Value.slice a0_11 n0_11 c0_11] 49)).alloc (Obj.cells #[Value.int .i64 a1_0, Value.int .i64 a1_1, Value.int .i64 a1_2, Value.int .i64 a1_3, Value.int .i64 a1_4, Value.slice a1_5 n1_5 c1_5, Value.int .i64 a1_6, Value.int .i64 a1_7, Value.int .i64 a1_8, Value.int .i64 a1_9, Value.int .i64 a1_10, Value.slice a1_11 n1_11 c1_11] 49)).cell? ⟨w.heap.size, 8, none⟩ = some (.int .i64 a0_8) := by simp [go_sem]
    have k0_9 : ((w.alloc (Obj.cells #[Value.int .i64 a0_0, Value.int .i64 a0_1, Value.int .i64 a0_2, Value.int .i64 a0_3, Value.int .i64 a0_4, Value.slice a0_5 n0_5 c0_5, Value.int .i64 a0_6, Value.int .i64 a0_7, Value.int .i64 a0_8, Value.int .i64 a0_9, Value.int .i64 a0_10, Value.slice a0_11 n0_11 c0_11] 49)).alloc (Obj.cells #[Value.int .i64 a1_0, Value.int .i64 a1_1, Value.int .i64 a1_2, Value.int .i64 a1_3, Value.int .i64 a1_4, Value.slice a1_5 n1_5 c1_5, Value.int .i64 a1_6, Value.int .i64 a1_7, Value.int .i64 a1_8, Value.int .i64 a1_9, Value.int .i64 a1_10, Value.slice a1_11 n1_11 c1_11] 49)).cell? ⟨w.heap.size, 9, none⟩ = some (.int .i64 a0_9) := by simp [go_sem]
    have k0_10 : ((w.alloc (Obj.cells #[Value.int .i64 a0_0, Value.int .i64 a0_1, Value.int .i64 a0_2, Value.int .i64 a0_3, Value.int .i64 a0_4, Value.slice a0_5 n0_5 c0_5, Value.int .i64 a0_6, Value.int .i64 a0_7, Value.int .i64 a0_8, Value.int .i64 a0_9, Value.int .i64 a0_10, Value.slice a0_11 n0_11 c0_11] 49)).alloc (Obj.cells #[Value.int .i64 a1_0, Value.int .i64 a1_1, Value.int .i64 a1_2, Value.int .i64 a1_3, Value.int .i64 a1_4, Value.slice a1_5 n1_5 c1_5, Value.int .i64 a1_6, Value.int .i64 a1_7, Value.int .i64 a1_8, Value.int .i64 a1_9, Value.int .i64 a1_10, Value.slice a1_11 n1_11 c1_11] 49)).cell? ⟨w.heap.size, 10, none⟩ = some (.int .i64 a0_10) := by simp [go_sem]
    have k0_11 : ((w.alloc (Obj.cells #[Value.int .i64 a0_0, Value.int .i64 a0_1, Value.int .i64 a0_2, Value.int .i64 a0_3, Value.int .i64 a0_4, Value.slice a0_5 n0_5 c0_5, Value.int .i64 a0_6, Value.int .i64 a0_7, Value.int .i64 a0_8, Value.int .i64 a0_9, Value.int .i64 a0_10, Value.slice a0_11 n0_11 c0_11] 49)).alloc (Obj.cells #[Value.int .i64 a1_0, Value.int .i64 a1_1, Value.int .i64 a1_2, Value.int .i64 a1_3, Value.int .i64 a1_4, Value.slice a1_5 n1_5 c1_5, Value.int .i64 a1_6, Value.int .i64 a1_7, Value.int .i64 a1_8, Value.int .i64 a1_9, Value.int .i64 a1_10, Value.slice a1_11 n1_11 c1_11] 49)).cell? ⟨w.heap.size, 11, none⟩ = some (.slice a0_11 n0_11 c0_11) := by simp [go_sem]
    have k1_0 : ((w.alloc (Obj.cells #[Value.int .i64 a0_0, Value.int .i64 a0_1, Value.int .i64 a0_2, Value.int .i64 a0_3, Value.int .i64 a0_4, Value.slice a0_5 n0_5 c0_5, Value.int .i64 a0_6, Value.int .i64 a0_7, Value.int .i64 a0_8, Value.int .i64 a0_9, Value.int .i64 a0_10, Value.slice a0_11 n0_11 c0_11] 49)).alloc (Obj.cells #[Value.int .i64 a1_0, Value.int .i64 a1_1, Value.int .i64 a1_2, Value.int .i64 a1_3, Value.int .i64 a1_4, Value.slice a1_5 n1_5 c1_5, Value.int .i64 a1_6, Value.int .i64 a1_7, Value.int .i64 a1_8, Value.int .i64 a1_9, Value.int .i64 a1_10, Value.slice a1_11 n1_11 c1_11] 49)).cell? ⟨w.heap.size + 1, 0, none⟩ = some (.int .i64 a1_0) := by simp [go_sem]
    have k1_1 : ((w.alloc (Obj.cells #[Value.int .i64 a0_0, Value.int .i64 a0_1, Value.int .i64 a0_2, Value.int .i64 a0_3, Value.int .i64 a0_4, Value.slice a0_5 n0_5 c0_5, Value.int .i64 a0_6, Value.int .i64 a0_7, Value.int .i64 a0_8, Value.int .i64 a0_9, Value.int .i64 a0_10, Value.slice a0_11 n0_11 c0_11] 49)).alloc (Obj.cells #[Value.int .i64 a1_0, Value.int .i64 a1_1, Value.int .i64 a1_2, Value.int .i64 a1_3, Value.int .i64 a1_4, Value.slice a1_5 n1_5 c1_5, Value.int .i64 a1_6, Value.int .i64 a1_7, Value.int .i64 a1_8, Value.int .i64 a1_9, Value.int .i64 a1_10, Value.slice a1_11 n1_11 c1_11] 49)).cell? ⟨w.heap.size + 1, 1, none⟩ = some (.int .i64 a1_1) := by simp [go_sem]
    have k1_2 : ((w.alloc (Obj.cells #[Value.int .i64 a0_0, Value.int .i64 a0_1, Value.int .i64 a0_2, Value.int .i64 a0_3, Value.int .i64 a0_4, Value.slice a0_5 n0_5 c0_5, Value.int .i64 a0_6, Value.int .i64 a0_7, Value.int .i64 a0_8, Value.int .i64 a0_9, Value.int .i64 a0_10, Value.slice a0_11 n0_11 c0_11] 49)).alloc (Obj.cells #[Value.int .i64 a1_0, Value.int .i64 a1_1, Value.int .i64 a1_2, Value.int .i64 a1_3, Value.int .i64 a1_4, Value.slice a1_5 n1_5 c1_5, Value.int .i64 a1_6, Value.int .i64 a1_7, Value.int .i64 a1_8, Value.int .i64 a1_9, Value.int .i64 a1_10, Value.slice a1_11 n1_11 c1_11] 49)).cell? ⟨w.heap.size + 1, 2, none⟩ = some (.int .i64 a1_2) := by simp [go_sem]
    have k1_3 : ((w.alloc (Obj.cells #[Value.int .i64 a0_0, Value.int .i64 a0_1, Value.int .i64 a0_2, Value.int .i64 a0_3, Value.int .i64 a0_4, Value.slice a0_5 n0_5 c0_5, Value.int .i64 a0_6, Value.int .i64 a0_7, Value.int .i64 a0_8, Value.int .i64 a0_9, Value.int .i64 a0_10, Value.slice a0_11 n0_11 c0_11] 49)).alloc (Obj.cells #[Value.int .i64 a1_0, Value.int .i64 a1_1, Value.int .i64 a1_2, Value.int .i64 a1_3, Value.int .i64 a1_4, Value.slice a1_5 n1_5 c1_5, Value.int .i64 a1_6, Value.int .i64 a1_7, Value.int .i64 a1_8, Value.int .i64 a1_9, Value.int .i64 a1_10, Value.slice a1_11 n1_11 c1_11] 49)).cell? ⟨w.heap.size + 1, 3, none⟩ = some (.int .i64 a1_3) := by simp [go_sem]
    have k1_4 : ((w.alloc (Obj.cells #[Value.int .i64 a0_0, Value.int .i64 a0_1, Value.int .i64 a0_2, Value.int .i64 a0_3, Value.int .i64 a0_4, Value.slice a0_5 n0_5 c0_5, Value.int .i64 a0_6, Value.int .i64 a0_7, Value.int .i64 a0_8, Value.int .i64 a0_9, Value.int .i64 a0_10, Value.slice a0_11 n0_11 c0_11] 49)).alloc (Obj.cells #[Value.int .i64 a1_0, Value.int .i64 a1_1, Value.int .i64 a1_2, Value.int .i64 a1_3, Value.int .i64 a1_4, Value.slice a1_5 n1_5 c1_5, Value.int .i64 a1_6, Value.int .i64 a1_7, Value.int .i64 a1_8, Value.int .i64 a1_9, Value.int .i64 a1_10, Value.slice a1_11 n1_11 c1_11] 49)).cell? ⟨w.heap.size + 1, 4, none⟩ = some (.int .i64 a1_4) := by simp [go_sem]
    have k1_5 : ((w.alloc (Obj.cells #[Value.int .i64 a0_0, Value.int .i64 a0_1, Value.int .i64 a0_2, Value.int .i64 a0_3, Value.int .i64 a0_4, Value.slice a0_5 n0_5 c0_5, Value.int .i64 a0_6, Value.int .i64 a0_7, Value.int .i64 a0_8, Value.int .i64 a0_9, Value.int .i64 a0_10, Value.slice a0_11 n0_11 c0_11] 49)).alloc (Obj.cells #[Value.int .i64 a1_0, Value.int .i64 a1_1, Value.int .i64 a1_2, Value.int .i64 a1_3, Value.int .i64 a1_4, Value.slice a1_5 n1_5 c1_5, Value.int .i64 a1_6, Value.int .i64 a1_7, Value.int .i64 a1_8, Value.int .i64 a1_9, Value.int .i64 a1_10, Value.slice a1_11 n1_11 c1_11] 49)).cell? ⟨w.heap.size + 1, 5, none⟩ = some (.slice a1_5 n1_5 c1_5) := by simp [go_sem]
    have k1_6 : ((w.alloc (Obj.cells #[Value.int .i64 a0_0, Value.int .i64 a0_1, Value.int .i64 a0_2, Value.int .i64 a0_3, Value.int .i64 a0_4, Value.slice a0_5 n0_5 c0_5, Value.int .i64 a0_6, Value.int .i64 a0_7, Value.int .i64 a0_8, Value.int .i64 a0_9, Value.int .i64 a0_10, Value.slice a0_11 n0_11 c0_11] 49)).alloc (Obj.cells #[Value.int .i64 a1_0, Value.int .i64 a1_1, Value.int .i64 a1_2, Value.int .i64 a1_3, Value.int .i64 a1_4, Value.slice a1_5 n1_5 c1_5, Value.int .i64 a1_6, Value.int .i64 a1_7, Value.int .i64 a1_8, Value.int .i64 a1_9, Value.int .i64 a1_10, Value.slice a1_11 n1_11 c1_11] 49)).cell? ⟨w.heap.size + 1, 6, none⟩ = some (.int .i64 a1_6) := by simp [go_sem]
    have k1_7 : ((w.alloc (Obj.cells #[Value.int .i64 a0_0, Value.int .i64 a0_1, Value.int .i64 a0_2, Value.int .i64 a0_3, Value.int .i64 a0_4, Value.slice a0_5 n0_5 c0_5, Value.int .i64 a0_6, Value.int .i64 a0_7, Value.int .i64 a0_8, Value.int .i64 a0_9, Value.int .i64 a0_10, Value.slice a0_11 n0_11 c0_11] 49)).alloc (Obj.cells #[Value.int .i64 a1_0, Value.int .i64 a1_1, Value.int .i64 a1_2, Value.int .i64 a1_3, Value.int .i64 a1_4, Value.slice a1_5 n1_5 c1_5, Value.int .i64 a1_6, Value.int .i64 a1_7, Value.int .i64 a1_8, Value.int .i64 a1_9, Value.int .i64 a1_10, Value.slice a1_11 n1_11 c1_11] 49)).cell? ⟨w.heap.size + 1, 7, none⟩ = some (.int .i64 a1_7) := by simp [go_sem]
    have k1_8 : ((w.alloc (Obj.cells #[Value.int .i64 a0_0, Value.int .i64 a0_1, Value.int .i64 a0_2, Value.int .i64 a0_3, Value.int .i64 a0_4, Value.slice a0_5 n0_5 c0_5, Value.int .i64 a0_6, Value.int .i64 a0_7, Value.int .i64 a0_8, Value.int .i64 a0_9, Value.int .i64 a0_10, Value.slice a0_11 n0_11 c0_11] 49)).alloc (Obj.cells #[Value.int .i64 a1_0, Value.int .i64 a1_1, Value.int .i64 a1_2, Value.int .i64 a1_3, Value.int .i64 a1_4, Value.slice a1_5 n1_5 c1_5, Value.int .i64 a1_6, Value.int .i64 a1_7, Value.int .i64 a1_8, Value.int .i64 a1_9, Value.int .i64 a1_10, Value.slice a1_11 n1_11 c1_11] 49)).cell? ⟨w.heap.size + 1, 8, none⟩ = some (.int .i64 a1_8) := by simp [go_sem]
    have k1_9 : ((w.alloc (Obj.cells #[Value.int .i64 a0_0, Value.int .i64 a0_1, Value.int .i64 a0_2, Value.int .i64 a0_3, Value.int .i64 a0_4, Value.slice a0_5 n0_5 c0_5, Value.int .i64 a0_6, Value.int .i64 a0_7, Value.int .i64 a0_8, Value.int .i64 a0_9, Value.int .i64 a0_10, Value.slice a0_11 n0_11 c0_11] 49)).alloc (Obj.cells #[Value.int .i64 a1_0, Value.int .i64 a1_1, Value.int .i64 a1_2, Value.int .i64 a1_3, Value.int .i64 a1_4, Value.slice a1_5 n1_5 c1_5, Value.int .i64 a1_6, Value.int .i64 a1_7, Value.int .i64 a1_8, Value.int .i64 a1_9, Value.int .i64 a1_10, Value.slice a1_11 n1_11 c1_11] 49)).cell? ⟨w.heap.size + 1, 9, none⟩ = some (.int .i64 a1_9) := by simp [go_sem]
    have k1_10 : ((w.alloc (Obj.cells #[Value.int .i64 a0_0, Value.int .i64 a0_1, Value.int .i64 a0_2, Value.int .i64 a0_3, Value.int .i64 a0_4, Value.slice a0_5 n0_5 c0_5, Value.int .i64 a0_6, Value.int .i64 a0_7, Value.int .i64 a0_8, Value.int .i64 a0_9, Value.int .i64 a0_10, Value.slice a0_11 n0_11 c0_11] 49)).alloc (Obj.cells #[Value.int .i64 a1_0, Value.int .i64 a1_1, Value.int .i64 a1_2, Value.int .i64 a1_3, Value.int .i64 a1_4, Value.slice a1_5 n1_5 c1_5, Value.int .i64 a1_6, Value.int .i64 a1_7, Value.int .i64 a1_8, Value.int .i64 a1_9, Value.int .i64 a1_10, Value.slice a1_11 n1_11 c1_11] 49)).cell? ⟨w.heap.size + 1, 10, none⟩ = some (.int .i64 a1_10) := by simp [go_sem]
    have k1_11 : ((w.alloc (Obj.cells #[Value.int .i64 a0_0, Value.int .i64 a0_1, Value.int .i64 a0_2, Value.int .i64 a0_3, Value.int .i64 a0_4, Value.slice a0_5 n0_5 c0_5, Value.int .i64 a0_6, Value.int .i64 a0_7, Value.int .i64 a0_8, Value.int .i64 a0_9, Value.int .i64 a0_10, Value.slice a0_11 n0_11 c0_11] 49)).alloc (Obj.cells #[Value.int .i64 a1_0, Value.int .i64 a1_1, Value.int .i64 a1_2, Value.int .i64 a1_3, Value.int .i64 a1_4, Value.slice a1_5 n1_5 c1_5, Value.int .i64 a1_6, Value.int .i64 a1_7, Value.int .i64 a1_8, Value.int .i64 a1_9, Value.int .i64 a1_10, Value.slice a1_11 n1_11 c1_11] 49)).cell? ⟨w.heap.size + 1, 11, none⟩ = some (.slice a1_11 n1_11 c1_11) := by simp [go_sem]
    refine (szVerdictC _ _ _ _ _ _ _ _ _ _ _ _ _ _ _ _ z0_5 w.heap.size _ _ (h0_5.mk M0 (Nat.le_refl _) (.inr (Nat.le_refl _))) M0.size (by omega) (by omega) (by omega)).mono ?_
    rintro e w1 ⟨l1, hl1, rfl, m1⟩
    have M1 := M0.trans m1
    replace k0_0 := m1.cellAt k0_0
    replace k0_1 := m1.cellAt k0_1
    replace k0_2 := m1.cellAt k0_2
    replace k0_3 := m1.cellAt k0_3
    replace k0_4 := m1.cellAt k0_4
    replace k0_5 := m1.cellAt k0_5
    replace k0_6 := m1.cellAt k0_6
    replace k0_7 := m1.cellAt k0_7
    replace k0_8 := m1.cellAt k0_8
    replace k0_9 := m1.cellAt k0_9
    replace k0_10 := m1.cellAt k0_10
    replace k0_11 := m1.cellAt k0_11
    replace k1_0 := m1.cellAt k1_0
    replace k1_1 := m1.cellAt k1_1
    replace k1_2 := m1.cellAt k1_2
    replace k1_3 := m1.cellAt k1_3
    replace k1_4 := m1.cellAt k1_4
    replace k1_5 := m1.cellAt k1_5
    replace k1_6 := m1.cellAt k1_6
    replace k1_7 := m1.cellAt k1_7
    replace k1_8 := m1.cellAt k1_8
    replace k1_9 := m1.cellAt k1_9
    replace k1_10 := m1.cellAt k1_10
    replace k1_11 := m1.cellAt k1_11
    have z1 := m1.size
    simp only [World.size_alloc] at z1
    go_wp2_with fail
    refine (szVerdictB _ _ _ _ _ _ _ _ _ _ _ _ _ _ _ _ z1_5 w.heap.size _ _ (h1_5.mk M1 (Nat.le_refl _) (.inr (Nat.le_refl _))) M1.size (by omega) (by omega) (by omega) m1_5 m1_11).mono ?_
    rintro e w2 ⟨rfl, m2⟩
    go_wp2_with fail
    go_ret
    exact ⟨rfl, (M1.trans m2).below0⟩
  have hn1 : ((szPathPart z1_5 n1_5 : Nat) : Int) + (n1_11 : Int) ≤ (1048576 - ((szPathPart z0_5 n0_5 : Nat) : Int) - n0_11 : Int) := by omega
  clear hbig1
  go_enter Try.func9, Try.ntmps9
  go_wp2_with fail
  have M0 : Mk0 w ((w.alloc (Obj.cells #[Value.int .i64 a0_0, Value.int .i64 a0_1, Value.int .i64 a0_2, Value.int .i64 a0_3, Value.int .i64 a0_4, Value.slice a0_5 n0_5 c0_5, Value.int .i64 a0_6, Value.int .i64 a0_7, Value.int .i64 a0_8, Value.int .i64 a0_9, Value.int .i64 a0_10, Value.slice a0_11 n0_11 c0_11] 49)).alloc (Obj.cells #[Value.int .i64 a1_0, Value.int .i64 a1_1, Value.int .i64 a1_2, Value.int .i64 a1_3, Value.int .i64 a1_4, Value.slice a1_5 n1_5 c1_5, Value.int .i64 a1_6, Value.int .i64 a1_7, Value.int .i64 a1_8, Value.int .i64 a1_9, Value.int .i64 a1_10, Value.slice a1_11 n1_11 c1_11] 49)) := ((Mk.alloc w _).new _)
  have k0_0 : ((w.alloc (Obj.cells #[Value.int .i64 a0_0, Value.int .i64 a0_1, Value.int .i64 a0_2, Value.int .i64 a0_3, Value.int .i64 a0_4, Value.slice a0_5 n0_5 c0_5, Value.int .i64 a0_6, Value.int .i64 a0_7, Value.int .i64 a0_8, Value.int .i64 a0_9, Value.int .i64 a0_10, Value.slice a0_11 n0_11 c0_11] 49)).alloc (Obj.cells #[Value.int .i64 a1_0, Value.int .i64 a1_1, Value.int .i64 a1_2, Value.int .i64 a1_3, Value.int .i64 a1_4, Value.slice a1_5 n1_5 c1_5, Value.int .i64 a1_6, Value.int .i64 a1_7, Value.int .i64 a1_8, Value.int .i64 a1_9, Value.int .i64 a1_10, Value.slice a1_11 n1_11 c1_11] 49)).cell? ⟨w.heap.size, 0, none⟩ = some (.int .i64 a0_0) := by simp [go_sem]
  have k0_1 : ((w.alloc (Obj.cells #[Value.int .i64 a0_0, Value.int .i64 a0_1, Value.int .i64 a0_2, Value.int .i64 a0_3, Value.int .i64 a0_4, Value.slice a0_5 n0_5 c0_5, Value.int .i64 a0_6, Value.int .i64 a0_7, Value.int .i64 a0_8, Value.int .i64 a0_9, Value.int .i64 a0_10, Value.slice a0_11 n0_11 c0_11] 49)).alloc (Obj.cells #[Value.int .i64 a1_0, Value.int .i64 a1_1, Value.int .i64 a1_2, Value.int .i64 a1_3, Value.int .i64 a1_4, Value.slice a1_5 n1_5 c1_5, Value.int .i64 a1_6, Value.int .i64 a1_7, Value.int .i64 a1_8, Value.int .i64 a1_9, Value.int .i64 a1_10, Value.slice a1_11 n1_11 c1_11] 49)).cell? ⟨w.heap.size, 1, none⟩ = some (.int .i64 a0_1) := by simp [go_sem]
  have k0_2 : ((w.alloc (Obj.cells #[Value.int .i64 a0_0, Value.int .i64 a0_1, Value.int .i64 a0_2, Value.int .i64 a0_3, Value.int .i64 a0_4, Value.slice a0_5 n0_5 c0_5, Value.int .i64 a0_6, Value.int .i64 a0_7, Value.int .i64 a0_8, Value.int .i64 a0_9, Value.int .i64 a0_10, Value.slice a0_11 n0_11 c0_11] 49)).alloc (Obj.cells #[Value.int .i64 a1_0, Value.int .i64 a1_1, Value.int .i64 a1_2, Value.int .i64 a1_3, Value.int .i64 a1_4, Value.slice a1_5 n1_5 c1_5, Value.int .i64 a1_6, Value.int .i64 a1_7, Value.int .i64 a1_8, Value.int .i64 a1_9, Value.int .i64 a1_10, Value.slice a1_11 n1_11 c1_11] 49)).cell? ⟨w.heap.size, 2, none⟩ = some (.int .i64 a0_2) := by simp [go_sem]
  have k0_3 : ((w.alloc (Obj.cells #[Value.int .i64 a0_0, Value.int .i64 a0_1, Value.int .i64 a0_2, Value.int .i64 a0_3, Value.int .i64 a0_4, Value.slice a0_5 n0_5 c0_5, Value.int .i64 a0_6, Value.int .i64 a0_7, Value.int .i64 a0_8, Value.int .i64 a0_9, Value.int .i64 a0_10, Value.slice a0_11 n0_11 c0_11] 49)).alloc (Obj.cells #[Value.int .i64 a1_0, Value.int .i64 a1_1, Value.int .i64 a1_2, Value.int .i64 a1_3, Value.int .i64 a1_4, Value.slice a1_5 n1_5 c1_5, Value.int .i64 a1_6, Value.int .i64 a1_7, Value.int .i64 a1_8, Value.int .i64 a1_9, Value.int .i64 a1_10, Value.slice a1_11 n1_11 c1_11] 49)).cell? ⟨w.heap.size, 3, none⟩ = some (.int .i64 a0_3) := by simp [go_sem]
  have k0_4 : ((w.alloc (Obj.cells #[Value.int .i64 a0_0, Value.int .i64 a0_1, Value.int .i64 a0_2, Value.int .i64 a0_3, Value.int .i64 a0_4, Value.slice a0_5 n0_5 c0_5, Value.int .i64 a0_6, Value.int .i64 a0_7, Value.int .i64 a0_8, Value.int .i64 a0_9, Value.int .i64 a0_10, Value.slice a0_11 n0_11 c0_11] 49)).alloc (Obj.cells #[Value.int .i64 a1_0, Value.int .i64 a1_1, Value.int .i64 a1_2, Value.int .i64 a1_3, Value.int .i64 a1_4, Value.slice a1_5 n1_5 c1_5, Value.int .i64 a1_6, Value.int .i64 a1_7, Value.int .i64 a1_8, Value.int .i64 a1_9, Value.int .i64 a1_10, Value.slice a1_11 n1_11 c1_11] 49)).cell? ⟨w.heap.size, 4, none⟩ = some (.int .i64 a0_4) := by simp [go_sem]
  have k0_5 : ((w.alloc (Obj.cells #[Value.int .i64 a0_0, Value.int .i64 a0_1, Value.int .i64 a0_2, Value.int .i64 a0_3, Value.int .i64 a0_4, Value.slice a0_5 n0_5 c0_5, Value.int .i64 a0_6, Value.int .i64 a0_7, Value.int .i64 a0_8, Value.int .i64 a0_9, Value.int .i64 a0_10, Value.slice a0_11 n0_11 c0_11] 49)).alloc (Obj.cells #[Value.int .i64 a1_0, Value.int .i64 a1_1, Value.int .i64 a1_2, Value.int .i64 a1_3, Value.int .i64 a1_4, Value.slice a1_5 n1_5 c1_5, Value.int .i64 a1_6, Value.int .i64 a1_7, Value.int .i64 a1_8, Value.int .i64 a1_9, Value.int .i64 a1_10, Value.slice a1_11 n1_11 c1_11] 49)).cell? ⟨w.heap.size, 5, none⟩ = some (.slice a0_5 n0_5 c0_5) := by simp [go_sem]
  have k0_6 : ((w.alloc (Obj.cells #[Value.int .i64 a0_0, Value.int .i64 a0_1, Value.int .i64 a0_2, Value.int .i64 a0_3, Value.int .i64 a0_4, Value.slice a0_5 n0_5 c0_5, Value.int .i64 a0_6, Value.int .i64 a0_7, Value.int .i64 a0_8, Value.int .i64 a0_9, Value.int .i64 a0_10, Value.slice a0_11 n0_11 c0_11] 49)).alloc (Obj.cells #[Value.int .i64 a1_0, Value.int .i64 a1_1, Value.int .i64 a1_2, Value.int .i64 a1_3, Value.int .i64 a1_4, Value.slice a1_5 n1_5 c1_5, Value.int .i64 a1_6, Value.int .i64 a1_7, Value.int .i64 a1_8, Value.int .i64 a1_9, Value.int .i64 a1_10, Value.slice a1_11 n1_11 c1_11] 49)).cell? ⟨w.heap.size, 6, none⟩ = some (.int .i64 a0_6) := by simp [go_sem]
  have k0_7 : ((w.alloc (Obj.cells #[Value.int .i64 a0_0, Value.int .i64 a0_1, Value.int .i64 a0_2, Value.int .i64 a0_3, Value.int .i64 a0_4, Value.slice a0_5 n0_5 c0_5, Value.int .i64 a0_6, Value.int .i64 a0_7, Value.int .i64 a0_8, Value.int .i64 a0_9, Value.int .i64 a0_10, Value.slice a0_11 n0_11 c0_11] 49)).alloc (Obj.cells #[Value.int .i64 a1_0, Value.int .i64 a1_1, Value.int .i64 a1_2, Value.int .i64 a1_3, Value.int .i64 a1_4, Value.slice a1_5 n1_5 c1_5, Value.int .i64 a1_6, Value.int .i64 a1_7, Value.int .i64 a1_8, Value.int .i64 a1_9, Value.int .i64 a1_10, Value.slice a1_11 n1_11 c1_11] 49)).cell? ⟨w.heap.size, 7, none⟩ = some (.int .i64 a0_7) := by simp [go_sem]
  have k0_8 : ((w.alloc (Obj.cells #[Value.int .i64 a0_0, Value.int .i64 a0_1, Value.int .i64 a0_2, Value.int .i64 a0_3, Value.int .i64 a0_4, Value.slice a0_5 n0_5 c0_5, Value.int .i64 a0_6, Value.int .i64 a0_7, Value.int .i64 a0_8, Value.int .i64 a0_9, Value.int .i64 a0_10, Value.slice a0_11 n0_11 c0_11] 49)).alloc (Obj.cells #[Value.int .i64 a1_0, Value.int .i64 a1_1, Value.int .i64 a1_2, Value.int .i64 a1_3, Value.int .i64 a1_4, Value.slice a1_5 n1_5 c1_5, Value.int .i64 a1_6, Value.int .i64 a1_7, Value.int .i64 a1_8, Value.int .i64 a1_9, Value.int .i64 a1_10, Value.slice a1_11 n1_11 c1_11] 49)).cell? ⟨w.heap.size, 8, none⟩ = some (.int .i64 a0_8) := by simp [go_sem]
  have k0_9 : ((w.alloc (Obj.cells #[Value.int .i64 a0_0, Value.int .i64 a0_1, Value.int .i64 a0_2, Value.int .i64 a0_3, Value.int .i64 a0_4, Value.slice a0_5 n0_5 c0_5, Value.int .i64 a0_6, Value.int .i64 a0_7, Value.int .i64 a0_8, Value.int .i64 a0_9, Value.int .i64 a0_10, Value.slice a0_11 n0_11 c0_11] 49)).alloc (Obj.cells #[Value.int .i64 a1_0, Value.int .i64 a1_1, Value.int .i64 a1_2, Value.int .i64 a1_3, Value.int .i64 a1_4, Value.slice a1_5 n1_5 c1_5, Value.int .i64 a1_6, Value.int .i64 a1_7, Value.int .i64 a1_8, Value.int .i64 a1_9, Value.int .i64 a1_10, Value.slice a1_11 n1_11 c1_11] 49)).cell? ⟨w.heap.size, 9, none⟩ = some (.int .i64 a0_9) := by simp [go_sem]
  have k0_10 : ((w.alloc (Obj.cells #[Value.int .i64 a0_0, Value.int .i64 a0_1, Value.int .i64 a0_2, Value.int .i64 a0_3, Value.int .i64 a0_4, Value.slice a0_5 n0_5 c0_5, Value.int .i64 a0_6, Value.int .i64 a0_7, Value.int .i64 a0_8, Value.int .i64 a0_9, Value.int .i64 a0_10, Value.slice a0_11 n0_11 c0_11] 49)).alloc (Obj.cells #[Value.int .i64 a1_0, Value.int .i64 a1_1, Value.int .i64 a1_2, Value.int .i64 a1_3, Value.int .i64 a1_4, Value.slice a1_5 n1_5 c1_5, Value.int .i64 a1_6, Value.int .i64 a1_7, Value.int .i64 a1_8, Value.int .i64 a1_9, Value.int .i64 a1_10, Value.slice a1_11 n1_11 c1_11] 49)).cell? ⟨w.heap.size, 10, none⟩ = some (.int .i64 a0_10) := by simp [go_sem]
  have k0_11 : ((w.alloc (Obj.cells #[Value.int .i64 a0_0, Value.int .i64 a0_1, Value.int .i64 a0_2, Value.int .i64 a0_3, Value.int .i64 a0_4, Value.slice a0_5 n0_5 c0_5, Value.int .i64 a0_6, Value.int .i64 a0_7, Value.int .i64 a0_8, Value.int .i64 a0_9, Value.int .i64 a0_10, Value.slice a0_11 n0_11 c0_11] 49)).alloc (Obj.cells #[Value.int .i64 a1_0, Value.int .i64 a1_1, Value.int .i64 a1_2, Value.int .i64 a1_3, Value.int .i64 a1_4, Value.slice a1_5 n1_5 c1_5, Value.int .i64 a1_6, Value.int .i64 a1_7, Value.int .i64 a1_8, Value.int .i64 a1_9, Value.int .i64 a1_10, Value.slice a1_11 n1_11 c1_11] 49)).cell? ⟨w.heap.size, 11, none⟩ = some (.slice a0_11 n0_11 c0_11) := by simp [go_sem]
  have k1_0 : ((w.alloc (Obj.cells #[Value.int .i64 a0_0, Value.int .i64 a0_1, Value.int .i64 a0_2, Value.int .i64 a0_3, Value.int .i64 a0_4, Value.slice a0_5 n0_5 c0_5, Value.int .i64 a0_6, Value.int .i64 a0_7, Value.int .i64 a0_8, Value.int .i64 a0_9, Value.int .i64 a0_10, Value.slice a0_11 n0_11 c0_11] 49)).alloc (Obj.cells #[Value.int .i64 a1_0, Value.int .i64 a1_1, Value.int .i64 a1_2, Value.int .i64 a1_3, Value.int .i64 a1_4, Value.slice a1_5 n1_5 c1_5, Value.int .i64 a1_6, Value.int .i64 a1_7, Value.int .i64 a1_8, Value.int .i64 a1_9, Value.int .i64 a1_10, Value.slice a1_11 n1_11 c1_11] 49)).cell? ⟨w.heap.size + 1, 0, none⟩ = some (.int .i64 a1_0) := by simp [go_sem]
  have k1_1 : ((w.alloc (Obj.cells #[Value.int .i64 a0_0, Value.int .i64 a0_1, Value.int .i64 a0_2, Value.int .i64 a0_3, Value.int .i64 a0_4, Value.slice a0_5 n0_5 c0_5, Value.int .i64 a0_6, Value.int .i64 a0_7, Value.int .i64 a0_8, Value.int .i64 a0_9, Value.int .i64 a0_10, Value.slice a0_11 n0_11 c0_11] 49)).alloc (Obj.cells #[Value.int .i64 a1_0, Value.int .i64 a1_1, Value.int .i64 a1_2, Value.int .i64 a1_3, Value.int .i64 a1_4, Value.slice a1_5 n1_5 c1_5, Value.int .i64 a1_6, Value.int .i64 a1_7, Value.int .i64 a1_8, Value.int .i64 a1_9, Value.int .i64 a1_10, Value.slice a1_11 n1_11 c1_11] 49)).cell? ⟨w.heap.size + 1, 1, none⟩ = some (.int .i64 a1_1) := by simp [go_sem]
  have k1_2 : ((w.alloc (Obj.cells #[Value.int .i64 a0_0, Value.int .i64 a0_1, Value.int .i64 a0_2, Value.int .i64 a0_3, Value.int .i64 a0_4, Value.slice a0_5 n0_5 c0_5, Value.int .i64 a0_6, Value.int .i64 a0_7, Value.int .i64 a0_8, Value.int .i64 a0_9, Value.int .i64 a0_10, Value.slice a0_11 n0_11 c0_11] 49)).alloc (Obj.cells #[Value.int .i64 a1_0, Value.int .i64 a1_1, Value.int .i64 a1_2, Value.int .i64 a1_3, Value.int .i64 a1_4, Value.slice a1_5 n1_5 c1_5, Value.int .i64 a1_6, Value.int .i64 a1_7, Value.int .i64 a1_8, Value.int .i64 a1_9, Value.int .i64 a1_10, Value.slice a1_11 n1_11 c1_11] 49)).cell? ⟨w.heap.size + 1, 2, none⟩ = some (.int .i64 a1_2) := by simp [go_sem]
  have k1_3 : ((w.alloc (Obj.cells #[Value.int .i64 a0_0, Value.int .i64 a0_1, Value.int .i64 a0_2, Value.int .i64 a0_3, Value.int .i64 a0_4, Value.slice a0_5 n0_5 c0_5, Value.int .i64 a0_6, Value.int .i64 a0_7, Value.int .i64 a0_8, Value.int .i64 a0_9, Value.int .i64 a0_10, Value.slice a0_11 n0_11 c0_11] 49)).alloc (Obj.cells #[Value.int .i64 a1_0, Value.int .i64 a1_1, Value.int .i64 a1_2, Value.int .i64 a1_3, Value.int .i64 a1_4, Value.slice a1_5 n1_5 c1_5, Value.int .i64 a1_6, Value.int .i64 a1_7, Value.int .i64 a1_8, Value.int .i64 a1_9, Value.int .i64 a1_10, Value.slice a1_11 n1_11 c1_11] 49)).cell? ⟨w.heap.size + 1, 3, none⟩ = some (.int .i64 a1_3) := by simp [go_sem]
  have k1_4 : ((w.alloc (Obj.cells #[Value.int .i64 a0_0, Value.int .i64 a0_1, Value.int .i64 a0_2, Value.int .i64 a0_3, Value.int .i64 a0_4, Value.slice a0_5 n0_5 c0_5, Value.int .i64 a0_6, Value.int .i64 a0_7, Value.int .i64 a0_8, Value.int .i64 a0_9, Value.int .i64 a0_10, Value.slice a0_11 n0_11 c0_11] 49)).alloc (Obj.cells #[Value.int .i64 a1_0, Value.int .i64 a1_1, Value.int .i64 a1_2, Value.int .i64 a1_3, Value.int .i64 a1_4, Value.slice a1_5 n1_5 c1_5, Value.int .i64 a1_6, Value.int .i64 a1_7, Value.int .i64 a1_8, Value.int .i64 a1_9, Value.int .i64 a1_10, Value.slice a1_11 n1_11 c1_11] 49)).cell? ⟨w.heap.size + 1, 4, none⟩ = some (.int .i64 a1_4) := by simp [go_sem]
  have k1_5 : ((w.alloc (Obj.cells #[Value.int .i64 a0_0, Value.int .i64 a0_1, Value.int .i64 a0_2, Value.int .i64 a0_3, Value.int .i64 a0_4, Value.slice a0_5 n0_5 c0_5, Value.int .i64 a0_6, Value.int .i64 a0_7, Value.int .i64 a0_8, Value.int .i64 a0_9, Value.int .i64 a0_10, Value.slice a0_11 n0_11 c0_11] 49)).alloc (Obj.cells #[Value.int .i64 a1_0, Value.int .i64 a1_1, Value.int .i64 a1_2, Value.int .i64 a1_3, Value.int .i64 a1_4, Value.slice a1_5 n1_5 c1_5, Value.int .i64 a1_6, Value.int .i64 a1_7, Value.int .i64 a1_8, Value.int .i64 a1_9, Value.int .i64 a1_10, Value.slice a1_11 n1_11 c1_11] 49)).cell? ⟨w.heap.size + 1, 5, none⟩ = some (.slice a1_5 n1_5 c1_5) := by simp [go_sem]
  have k1_6 : ((w.alloc (Obj.cells #[Value.int .i64 a0_0, Value.int .i64 a0_1, Value.int .i64 a0_2, Value.int .i64 a0_3, Value.int .i64 a0_4, Value.slice a0_5 n0_5 c0_5, Value.int .i64 a0_6, Value.int .i64 a0_7, Value.int .i64 a0_8, Value.int .i64 a0_9, Value.int .i64 a0_10, Value.slice a0_11 n0_11 c0_11] 49)).alloc (Obj.cells #[Value.int .i64 a1_0, Value.int .i64 a1_1, Value.int .i64 a1_2, Value.int .i64 a1_3, Value.int .i64 a1_4, Value.slice a1_5 n1_5 c1_5, Value.int .i64 a1_6, Value.int .i64 a1_7, Value.int .i64 a1_8, Value.int .i64 a1_9, Value.int .i64 a1_10, Value.slice a1_11 n1_11 c1_11] 49)).cell? ⟨w.heap.size + 1, 6, none⟩ = some (.int .i64 a1_6) := by simp [go_sem]
  have k1_7 : ((w.alloc (Obj.cells #[Value.int .i64 a0_0, Value.int .i64 a0_1, Value.int .i64 a0_2, Value.int .i64 a0_3, Value.int .i64 a0_4, Value.slice a0_5 n0_5 c0_5, Value.int .i64 a0_6, Value.int .i64 a0_7, Value.int .i64 a0_8, Value.int .i64 a0_9, Value.int .i64 a0_10, Value.slice a0_11 n0_11 c0_11] 49)).alloc (Obj.cells #[Value.int .i64 a1_0, Value.int .i64 a1_1, Value.int .i64 a1_2, Value.int .i64 a1_3, Value.int .i64 a1_4, Value.slice a1_5 n1_5 c1_5, Value.int .i64 a1_6, Value.int .i64 a1_7, Value.int .i64 a1_8, Value.int .i64 a1_9, Value.int .i64 a1_10, Value.slice a1_11 n1_11 c1_11] 49)).cell? ⟨w.heap.size + 1, 7, none⟩ = some (.int .i64 a1_7) := by simp [go_sem]
  have k1_8 : ((w.alloc (Obj.cells #[Value.int .i64 a0_0, Value.int .i64 a0_1, Value.int .i64 a0_2, Value.int .i64 a0_3, Value.int .i64 a0_4, Value.slice a0_5 n0_5 c0_5, Value.int .i64 a0_6, Value.int .i64 a0_7, Value.int .i64 a0_8, Value.int .i64 a0_9, Value.int .i64 a0_10, Value.slice a0_11 n0_11 c0_11] 49)).alloc (Obj.cells #[Value.int .i64 a1_0, Value.int .i64 a1_1, Value.int .i64 a1_2, Value.int .i64 a1_3, Value.int .i64 a1_4, Value.slice a1_5 n1_5 c1_5, Value.int .i64 a1_6, Value.int .i64 a1_7, Value.int .i64 a1_8, Value.int .i64 a1_9, Value.int .i64 a1_10, Value.slice a1_11 n1_11 c1_11] 49)).cell? ⟨w.heap.size + 1, 8, none⟩ = some (.int .i64 a1_8) := by simp [go_sem]
  have k1_9 : ((w.alloc (Obj.cells #[Value.int .i64 a0_0, Value.int .i64 a0_1, Value.int .i64 a0_2, Value.int .i64 a0_3, Value.int .i64 a0_4, Value.slice a0_5 n0_5 c0_5, Value.int .i64 a0_6, Value.int .i64 a0_7, Value.int .i64 a0_8, Value.int .i64 a0_9, Value.int .i64 a0_10, Value.slice a0_11 n0_11 c0_11] 49)).alloc (Obj.cells #[Value.int .i64 a1_0, Value.int .i64 a1_1, Value.int .i64 a1_2, Value.int .i64 a1_3, Value.int .i64 a1_4, Value.slice a1_5 n1_5 c1_5, Value.int .i64 a1_6, Value.int .i64 a1_7, Value.int .i64 a1_8, Value.int .i64 a1_9, Value.int .i64 a1_10, Value.slice a1_11 n1_11 c1_11] 49)).cell? ⟨w.heap.size + 1, 9, none⟩ = some (.int .i64 a1_9) := by simp [go_sem]
  have k1_10 : ((w.alloc (Obj.cells #[Value.int .i64 a0_0, Value.int .i64 a0_1, Value.int .i64 a0_2, Value.int .i64 a0_3, Value.int .i64 a0_4, Value.slice a0_5 n0_5 c0_5, Value.int .i64 a0_6, Value.int .i64 a0_7, Value.int .i64 a0_8, Value.int .i64 a0_9, Value.int .i64 a0_10, Value.slice a0_11 n0_11 c0_11] 49)).alloc (Obj.cells #[Value.int .i64 a1_0, Value.int .i64 a1_1, Value.int .i64 a1_2, Value.int .i64 a1_3, Value.int .i64 a1_4, Value.slice a1_5 n1_5 c1_5, Value.int .i64 a1_6, Value.int .i64 a1_7, Value.int .i64 a1_8, Value.int .i64 a1_9, Value.int .i64 a1_10, Value.slice a1_11 n1_11 c1_11] 49)).cell? ⟨w.heap.size + 1, 10, none⟩ = some (.int .i64 a1_10) := by simp [go_sem]
  have k1_11 : ((w.alloc (Obj.cells #[Value.int .i64 a0_0, Value.int .i64 a0_1, Value.int .i64 a0_2, Value.int .i64 a0_3, Value.int .i64 a0_4, Value.slice a0_5 n0_5 c0_5, Value.int .i64 a0_6, Value.int .i64 a0_7, Value.int .i64 a0_8, Value.int .i64 a0_9, Value.int .i64 a0_10, Value.slice a0_11 n0_11 c0_11] 49)).alloc (Obj.cells #[Value.int .i64 a1_0, Value.int .i64 a1_1, Value.int .i64 a1_2, Value.int .i64 a1_3, Value.int .i64 a1_4, Value.slice a1_5 n1_5 c1_5, Value.int .i64 a1_6, Value.int .i64 a1_7, Value.int .i64 a1_8, Value.int .i64 a1_9, Value.int .i64 a1_10, Value.slice a1_11 n1_11 c1_11] 49)).cell? ⟨w.heap.size + 1, 11, none⟩ = some (.slice a1_11 n1_11 c1_11) := by simp [go_sem]
  refine (szVerdictC _ _ _ _ _ _ _ _ _ _ _ _ _ _ _ _ z0_5 w.heap.size _ _ (h0_5.mk M0 (Nat.le_refl _) (.inr (Nat.le_refl _))) M0.size (by omega) (by omega) (by omega)).mono ?_
  rintro e w1 ⟨l1, hl1, rfl, m1⟩
  have M1 := M0.trans m1
  replace k0_0 := m1.cellAt k0_0
  replace k0_1 := m1.cellAt k0_1
  replace k0_2 := m1.cellAt k0_2
  replace k0_3 := m1.cellAt k0_3
  replace k0_4 := m1.cellAt k0_4
  replace k0_5 := m1.cellAt k0_5
  replace k0_6 := m1.cellAt k0_6
  replace k0_7 := m1.cellAt k0_7
  replace k0_8 := m1.cellAt k0_8
  replace k0_9 := m1.cellAt k0_9
  replace k0_10 := m1.cellAt k0_10
  replace k0_11 := m1.cellAt k0_11
  replace k1_0 := m1.cellAt k1_0
  replace k1_1 := m1.cellAt k1_1
  replace k1_2 := m1.cellAt k1_2
  replace k1_3 := m1.cellAt k1_3
  replace k1_4 := m1.cellAt k1_4
  replace k1_5 := m1.cellAt k1_5
  replace k1_6 := m1.cellAt k1_6
  replace k1_7 := m1.cellAt k1_7
  replace k1_8 := m1.cellAt k1_8
  replace k1_9 := m1.cellAt k1_9
  replace k1_10 := m1.cellAt k1_10
  replace k1_11 := m1.cellAt k1_11
  have z1 := m1.size
  simp only [World.size_alloc] at z1
  go_wp2_with fail
  refine (szVerdictC _ _ _ _ _ _ _ _ _ _ _ _ _ _ _ _ z1_5 w.heap.size _ _ (h1_5.mk M1 (Nat.le_refl _) (.inr (Nat.le_refl _))) M1.size (by omega) (by omega) (by omega)).mono ?_
  rintro e w2 ⟨l2, hl2, rfl, m2⟩
  have M2 := M1.trans m2
  have z2 := m2.size
  replace k0_0 := m2.cellAt k0_0
  replace k0_1 := m2.cellAt k0_1
  replace k0_2 := m2.cellAt k0_2
  replace k0_3 := m2.cellAt k0_3
  replace k0_4 := m2.cellAt k0_4
  replace k0_5 := m2.cellAt k0_5
  replace k0_6 := m2.cellAt k0_6
  replace k0_7 := m2.cellAt k0_7
  replace k0_8 := m2.cellAt k0_8
  replace k0_9 := m2.cellAt k0_9
  replace k0_10 := m2.cellAt k0_10
  replace k0_11 := m2.cellAt k0_11
  replace k1_0 := m2.cellAt k1_0
  replace k1_1 := m2.cellAt k1_1
  replace k1_2 := m2.cellAt k1_2
  replace k1_3 := m2.cellAt k1_3
  replace k1_4 := m2.cellAt k1_4
  replace k1_5 := m2.cellAt k1_5
  replace k1_6 := m2.cellAt k1_6
  replace k1_7 := m2.cellAt k1_7
  replace k1_8 := m2.cellAt k1_8
  replace k1_9 := m2.cellAt k1_9
  replace k1_10 := m2.cellAt k1_10
  replace k1_11 := m2.cellAt k1_11
  go_wp2_with fail
  have e1 : ∀ w', Mk0 w2 w' → HasPathPart w' w.heap.size a0_5 n0_5 z0_5 := fun w' m => h0_5.mk (M2.trans m) (Nat.le_refl _) (.inr (Nat.le_refl _))
  have e2 : ∀ w', Mk0 w2 w' → HasByte w' w.heap.size a0_11 n0_11 z0_11 := fun w' m => h0_11.mk (M2.trans m) (Nat.le_refl _) (.inr (Nat.le_refl _))
  have hN0_5 : szPathPart z0_5 n0_5 ≤ 1048576 := by omega
  have hN0_11 : n0_11 ≤ 1048576 := by omega
  have e3 : ∀ w', Mk0 w2 w' → HasPathPart w' w.heap.size a1_5 n1_5 z1_5 := fun w' m => h1_5.mk (M2.trans m) (Nat.le_refl _) (.inr (Nat.le_refl _))
  have e4 : ∀ w', Mk0 w2 w' → HasByte w' w.heap.size a1_11 n1_11 z1_11 := fun w' m => h1_11.mk (M2.trans m) (Nat.le_refl _) (.inr (Nat.le_refl _))
  have hN1_5 : szPathPart z1_5 n1_5 ≤ 1048576 := by omega
  have hN1_11 : n1_11 ≤ 1048576 := by omega
  go_region_held3 (fun w' => Mk0 w2 w' ∧ w'.cell? ⟨w.heap.size, 0, none⟩ = some (.int .i64 a0_0) ∧ w'.cell? ⟨w.heap.size, 1, none⟩ = some (.int .i64 a0_1) ∧ w'.cell? ⟨w.heap.size, 2, none⟩ = some (.int .i64 a0_2) ∧ w'.cell? ⟨w.heap.size, 3, none⟩ = some (.int .i64 a0_3) ∧ w'.cell? ⟨w.heap.size, 4, none⟩ = some (.int .i64 a0_4) ∧ w'.cell? ⟨w.heap.size, 5, none⟩ = some (.slice a0_5 n0_5 c0_5) ∧ w'.cell? ⟨w.heap.size, 6, none⟩ = some (.int .i64 a0_6) ∧ w'.cell? ⟨w.heap.size, 7, none⟩ = some (.int .i64 a0_7) ∧ w'.cell? ⟨w.heap.size, 8, none⟩ = some (.int .i64 a0_8) ∧ w'.cell? ⟨w.heap.size, 9, none⟩ = some (.int .i64 a0_9) ∧ w'.cell? ⟨w.heap.size, 10, none⟩ = some (.int .i64 a0_10) ∧ w'.cell? ⟨w.heap.size, 11, none⟩ = some (.slice a0_11 n0_11 c0_11) ∧ w'.cell? ⟨w.heap.size + 1, 0, none⟩ = some (.int .i64 a1_0) ∧ w'.cell? ⟨w.heap.size + 1, 1, none⟩ = some (.int .i64 a1_1) ∧ w'.cell? ⟨w.heap.size + 1, 2, none⟩ = some (.int .i64 a1_2) ∧ w'.cell? ⟨w.heap.size + 1, 3, none⟩ = some (.int .i64 a1_3) ∧ w'.cell? ⟨w.heap.size + 1, 4, none⟩ = some (.int .i64 a1_4) ∧ w'.cell? ⟨w.heap.size + 1, 5, none⟩ = some (.slice a1_5 n1_5 c1_5) ∧ w'.cell? ⟨w.heap.size + 1, 6, none⟩ = some (.int .i64 a1_6) ∧ w'.cell? ⟨w.heap.size + 1, 7, none⟩ = some (.int .i64 a1_7) ∧ w'.cell? ⟨w.heap.size + 1, 8, none⟩ = some (.int .i64 a1_8) ∧ w'.cell? ⟨w.heap.size + 1, 9, none⟩ = some (.int .i64 a1_9) ∧ w'.cell? ⟨w.heap.size + 1, 10, none⟩ = some (.int .i64 a1_10) ∧ w'.cell? ⟨w.heap.size + 1, 11, none⟩ = some (.slice a1_11 n1_11 c1_11)) (first | exact ⟨Mk.drew1 _, k0_0, k0_1, k0_2, k0_3, k0_4, k0_5, k0_6, k0_7, k0_8, k0_9, k0_10, k0_11, k1_0, k1_1, k1_2, k1_3, k1_4, k1_5, k1_6, k1_7, k1_8, k1_9, k1_10, k1_11⟩ | (obtain ⟨s0, s1, s2, s3, s4, s5, s6, s7, s8, s9, s10, s11, s12, s13, s14, s15, s16, s17, s18, s19, s20, s21, s22, s23, s24⟩ := ‹Mk0 w2 _ ∧ _›; exact ⟨s0.trans mm, mm.cellAt s1, mm.cellAt s2, mm.cellAt s3, mm.cellAt s4, mm.cellAt s5, mm.cellAt s6, mm.cellAt s7, mm.cellAt s8, mm.cellAt s9, mm.cellAt s10, mm.cellAt s11, mm.cellAt s12, mm.cellAt s13, mm.cellAt s14, mm.cellAt s15, mm.cellAt s16, mm.cellAt s17, mm.cellAt s18, mm.cellAt s19, mm.cellAt s20, mm.cellAt s21, mm.cellAt s22, mm.cellAt s23, mm.cellAt s24⟩)) (first | (go_at_call 34; with_reducible refine (toVerdictC a0_0 a0_1 a0_2 a0_3 a0_4 a0_6 a0_7 a0_8 a0_9 a0_10 a0_5 n0_5 c0_5 z0_5 a0_11 n0_11 c0_11 z0_11 w.heap.size _ (e1 _ (‹Mk0 w2 _ ∧ _›).1) (e2 _ (‹Mk0 w2 _ ∧ _›).1) (M2.trans (‹Mk0 w2 _ ∧ _›).1).size hN0_5 hN0_11).mono ?_; rintro e wc0 ⟨bc0_0, bc0_1, dc0_0, rfl, oc0_0, oc0_1, gc0_0, gc0_1, mc0⟩; have mm := mc0) | (go_at_call 34; with_reducible refine (toVerdictC a1_0 a1_1 a1_2 a1_3 a1_4 a1_6 a1_7 a1_8 a1_9 a1_10 a1_5 n1_5 c1_5 z1_5 a1_11 n1_11 c1_11 z1_11 w.heap.size _ (e3 _ (‹Mk0 w2 _ ∧ _›).1) (e4 _ (‹Mk0 w2 _ ∧ _›).1) (M2.trans (‹Mk0 w2 _ ∧ _›).1).size hN1_5 hN1_11).mono ?_; rintro e wc1 ⟨bc1_0, bc1_1, dc1_0, rfl, oc1_0, oc1_1, gc1_0, gc1_1, mc1⟩; have mm := mc1) | (go_at_call 33; refine (specEqVd a0_0 a0_1 a1_0 a1_1 a0_2 a0_3 a0_4 a0_6 a0_7 a0_8 a0_9 a0_10 a1_2 a1_3 a1_4 a1_6 a1_7 a1_8 a1_9 a1_10 _ _ n0_5 n1_5 _ _ z0_5 z1_5 _ _ n0_11 n1_11 _ _ z0_11 z1_11 _ _ _ (by first | exact (oc0_0.has.mono gc0_1) | exact (oc0_0.has.mono gc0_1).mk mc1 (Nat.le_refl _) (.inr (Nat.le_refl _))) (by first | exact (oc0_1.has.mono (Nat.le_refl _)) | exact (oc0_1.has.mono (Nat.le_refl _)).mk mc1 (Nat.le_refl _) (.inr (Nat.le_refl _))) (by first | exact (oc1_0.has.mono gc1_1) | exact (oc1_0.has.mono gc1_1).mk mc0 (Nat.le_refl _) (.inr (Nat.le_refl _))) (by first | exact (oc1_1.has.mono (Nat.le_refl _)) | exact (oc1_1.has.mono (Nat.le_refl _)).mk mc0 (Nat.le_refl _) (.inr (Nat.le_refl _))) (by first | exact Nat.le_refl _ | exact mc1.size) (by first | exact Nat.le_refl _ | exact mc0.size) hN0_5 hN0_11 hN1_5 hN1_11 f0_11 f1_11).mono ?_; rintro e wz3 ⟨rfl, mm⟩))
  all_goals (
    obtain ⟨m3, k0_0, k0_1, k0_2, k0_3, k0_4, k0_5, k0_6, k0_7, k0_8, k0_9, k0_10, k0_11, k1_0, k1_1, k1_2, k1_3, k1_4, k1_5, k1_6, k1_7, k1_8, k1_9, k1_10, k1_11⟩ := ‹Mk0 w2 _ ∧ _›
    refine ‹∀ (a : Act) (w : World), _ → _› _ _ ?_
    clear e1 e2 hN0_5 hN0_11 e3 e4 hN1_5 hN1_11
    have M3 := M2.trans m3
    have z3 := m3.size
    go_wp2_with fail
    refine (toVerdictC _ _ _ _ _ _ _ _ _ _ _ _ _ _ _ _ _ _ w.heap.size _ (h0_5.mk M3 (Nat.le_refl _) (.inr (Nat.le_refl _))) (h0_11.mk M3 (Nat.le_refl _) (.inr (Nat.le_refl _))) (by omega) (by omega) (by omega)).mono ?_
    rintro e w4 ⟨b5, b6, d7, rfl, o8, o9, g10, g11, m4⟩
    have M4 := M3.trans m4
    have z4 := m4.size
    replace k0_0 := m4.cellAt k0_0
    replace k0_1 := m4.cellAt k0_1
    replace k0_2 := m4.cellAt k0_2
    replace k0_3 := m4.cellAt k0_3
    replace k0_4 := m4.cellAt k0_4
    replace k0_5 := m4.cellAt k0_5
    replace k0_6 := m4.cellAt k0_6
    replace k0_7 := m4.cellAt k0_7
    replace k0_8 := m4.cellAt k0_8
    replace k0_9 := m4.cellAt k0_9
    replace k0_10 := m4.cellAt k0_10
    replace k0_11 := m4.cellAt k0_11
    replace k1_0 := m4.cellAt k1_0
    replace k1_1 := m4.cellAt k1_1
    replace k1_2 := m4.cellAt k1_2
    replace k1_3 := m4.cellAt k1_3
    replace k1_4 := m4.cellAt k1_4
    replace k1_5 := m4.cellAt k1_5
    replace k1_6 := m4.cellAt k1_6
    replace k1_7 := m4.cellAt k1_7
    replace k1_8 := m4.cellAt k1_8
    replace k1_9 := m4.cellAt k1_9
    replace k1_10 := m4.cellAt k1_10
    replace k1_11 := m4.cellAt k1_11
    have h12 := o8.has.mono (B' := w4.heap.size) (by omega)
    clear o8
    have h13 := o9.has.mono (B' := w4.heap.size) (by omega)
    clear o9
    have yb14 : w.heap.size < w4.heap.size := by omega
    have yb15 : w.heap.size + 1 < w4.heap.size := by omega
    go_wp2_with fail
    have xx0_0 : (w4.alloc (Obj.cells #[Value.int .i64 a0_0, Value.int .i64 a0_1, Value.int .i64 a0_2, Value.int .i64 a0_3, Value.int .i64 a0_4, Value.slice (some ⟨b5, 0, none⟩) n0_5 n0_5, Value.int .i64 a0_6, Value.int .i64 a0_7, Value.int .i64 a0_8, Value.int .i64 a0_9, Value.int .i64 a0_10, Value.slice (some ⟨b6, 0, none⟩) n0_11 n0_11] 53)).cell? ⟨w4.heap.size, 0, none⟩ = some (.int .i64 a0_0) := by rw [World.cell?_alloc_at _ _ _ _ rfl]; rfl
    have xx0_1 : (w4.alloc (Obj.cells #[Value.int .i64 a0_0, Value.int .i64 a0_1, Value.int .i64 a0_2, Value.int .i64 a0_3, Value.int .i64 a0_4, Value.slice (some ⟨b5, 0, none⟩) n0_5 n0_5, Value.int .i64 a0_6, Value.int .i64 a0_7, Value.int .i64 a0_8, Value.int .i64 a0_9, Value.int .i64 a0_10, Value.slice (some ⟨b6, 0, none⟩) n0_11 n0_11] 53)).cell? ⟨w4.heap.size, 1, none⟩ = some (.int .i64 a0_1) := by rw [World.cell?_alloc_at _ _ _ _ rfl]; rfl
    have xx0_2 : (w4.alloc (Obj.cells #[Value.int .i64 a0_0, Value.int .i64 a0_1, Value.int .i64 a0_2, Value.int .i64 a0_3, Value.int .i64 a0_4, Value.slice (some ⟨b5, 0, none⟩) n0_5 n0_5, Value.int .i64 a0_6, Value.int .i64 a0_7, Value.int .i64 a0_8, Value.int .i64 a0_9, Value.int .i64 a0_10, Value.slice (some ⟨b6, 0, none⟩) n0_11 n0_11] 53)).cell? ⟨w4.heap.size, 2, none⟩ = some (.int .i64 a0_2) := by rw [World.cell?_alloc_at _ _ _ _ rfl]; rfl
    have xx0_3 : (w4.alloc (Obj.cells #[Value.int .i64 a0_0, Value.int .i64 a0_1, Value.int .i64 a0_2, Value.int .i64 a0_3, Value.int .i64 a0_4, Value.slice (some ⟨b5, 0, none⟩) n0_5 n0_5, Value.int .i64 a0_6, Value.int .i64 a0_7, Value.int .i64 a0_8, Value.int .i64 a0_9, Value.int .i64 a0_10, Value.slice (some ⟨b6, 0, none⟩) n0_11 n0_11] 53)).cell? ⟨w4.heap.size, 3, none⟩ = some (.int .i64 a0_3) := by rw [World.cell?_alloc_at _ _ _ _ rfl]; rfl
    have xx0_4 : (w4.alloc (Obj.cells #[Value.int .i64 a0_0, Value.int .i64 a0_1, Value.int .i64 a0_2, Value.int .i64 a0_3, Value.int .i64 a0_4, Value.slice (some ⟨b5, 0, none⟩) n0_5 n0_5, Value.int .i64 a0_6, Value.int .i64 a0_7, Value.int .i64 a0_8, Value.int .i64 a0_9, Value.int .i64 a0_10, Value.slice (some ⟨b6, 0, none⟩) n0_11 n0_11] 53)).cell? ⟨w4.heap.size, 4, none⟩ = some (.int .i64 a0_4) := by rw [World.cell?_alloc_at _ _ _ _ rfl]; rfl
    have xx0_5 : (w4.alloc (Obj.cells #[Value.int .i64 a0_0, Value.int .i64 a0_1, Value.int .i64 a0_2, Value.int .i64 a0_3, Value.int .i64 a0_4, Value.slice (some ⟨b5, 0, none⟩) n0_5 n0_5, Value.int .i64 a0_6, Value.int .i64 a0_7, Value.int .i64 a0_8, Value.int .i64 a0_9, Value.int .i64 a0_10, Value.slice (some ⟨b6, 0, none⟩) n0_11 n0_11] 53)).cell? ⟨w4.heap.size, 5, none⟩ = some (.slice (some ⟨b5, 0, none⟩) n0_5 n0_5) := by rw [World.cell?_alloc_at _ _ _ _ rfl]; rfl
    have xx0_6 : (w4.alloc (Obj.cells #[Value.int .i64 a0_0, Value.int .i64 a0_1, Value.int .i64 a0_2, Value.int .i64 a0_3, Value.int .i64 a0_4, Value.slice (some ⟨b5, 0, none⟩) n0_5 n0_5, Value.int .i64 a0_6, Value.int .i64 a0_7, Value.int .i64 a0_8, Value.int .i64 a0_9, Value.int .i64 a0_10, Value.slice (some ⟨b6, 0, none⟩) n0_11 n0_11] 53)).cell? ⟨w4.heap.size, 6, none⟩ = some (.int .i64 a0_6) := by rw [World.cell?_alloc_at _ _ _ _ rfl]; rfl
    have xx0_7 : (w4.alloc (Obj.cells #[Value.int .i64 a0_0, Value.int .i64 a0_1, Value.int .i64 a0_2, Value.int .i64 a0_3, Value.int .i64 a0_4, Value.slice (some ⟨b5, 0, none⟩) n0_5 n0_5, Value.int .i64 a0_6, Value.int .i64 a0_7, Value.int .i64 a0_8, Value.int .i64 a0_9, Value.int .i64 a0_10, Value.slice (some ⟨b6, 0, none⟩) n0_11 n0_11] 53)).cell? ⟨w4.heap.size, 7, none⟩ = some (.int .i64 a0_7) := by rw [World.cell?_alloc_at _ _ _ _ rfl]; rfl
    have xx0_8 : (w4.alloc (Obj.cells #[Value.int .i64 a0_0, Value.int .i64 a0_1, Value.int .i64 a0_2, Value.int .i64 a0_3, Value.int .i64 a0_4, Value.slice (some ⟨b5, 0, none⟩) n0_5 n0_5, Value.int .i64 a0_6, Value.int .i64 a0_7, Value.int .i64 a0_8, Value.int .i64 a0_9, Value.int .i64 a0_10, Value.slice (some ⟨b6, 0, none⟩) n0_11 n0_11] 53)).cell? ⟨w4.heap.size, 8, none⟩ = some (.int .i64 a0_8) := by rw [World.cell?_alloc_at _ _ _ _ rfl]; rfl
    have xx0_9 : (w4.alloc (Obj.cells #[Value.int .i64 a0_0, Value.int .i64 a0_1, Value.int .i64 a0_2, Value.int .i64 a0_3, Value.int .i64 a0_4, Value.slice (some ⟨b5, 0, none⟩) n0_5 n0_5, Value.int .i64 a0_6, Value.int .i64 a0_7, Value.int .i64 a0_8, Value.int .i64 a0_9, Value.int .i64 a0_10, Value.slice (some ⟨b6, 0, none⟩) n0_11 n0_11] 53)).cell? ⟨w4.heap.size, 9, none⟩ = some (.int .i64 a0_9) := by rw [World.cell?_alloc_at _ _ _ _ rfl]; rfl
    have xx0_10 : (w4.alloc (Obj.cells #[Value.int .i64 a0_0, Value.int .i64 a0_1, Value.int .i64 a0_2, Value.int .i64 a0_3, Value.int .i64 a0_4, Value.slice (some ⟨b5, 0, none⟩) n0_5 n0_5, Value.int .i64 a0_6, Value.int .i64 a0_7, Value.int .i64 a0_8, Value.int .i64 a0_9, Value.int .i64 a0_10, Value.slice (some ⟨b6, 0, none⟩) n0_11 n0_11] 53)).cell? ⟨w4.heap.size, 10, none⟩ = some (.int .i64 a0_10) := by rw [World.cell?_alloc_at _ _ _ _ rfl]; rfl
    have xx0_11 : (w4.alloc (Obj.cells #[Value.int .i64 a0_0, Value.int .i64 a0_1, Value.int .i64 a0_2, Value.int .i64 a0_3, Value.int .i64 a0_4, Value.slice (some ⟨b5, 0, none⟩) n0_5 n0_5, Value.int .i64 a0_6, Value.int .i64 a0_7, Value.int .i64 a0_8, Value.int .i64 a0_9, Value.int .i64 a0_10, Value.slice (some ⟨b6, 0, none⟩) n0_11 n0_11] 53)).cell? ⟨w4.heap.size, 11, none⟩ = some (.slice (some ⟨b6, 0, none⟩) n0_11 n0_11) := by rw [World.cell?_alloc_at _ _ _ _ rfl]; rfl
    have m5 := Mk.alloc w4 (Obj.cells #[Value.int .i64 a0_0, Value.int .i64 a0_1, Value.int .i64 a0_2, Value.int .i64 a0_3, Value.int .i64 a0_4, Value.slice (some ⟨b5, 0, none⟩) n0_5 n0_5, Value.int .i64 a0_6, Value.int .i64 a0_7, Value.int .i64 a0_8, Value.int .i64 a0_9, Value.int .i64 a0_10, Value.slice (some ⟨b6, 0, none⟩) n0_11 n0_11] 53)
    replace k0_0 := m5.cellAt k0_0
    replace k0_1 := m5.cellAt k0_1
    replace k0_2 := m5.cellAt k0_2
    replace k0_3 := m5.cellAt k0_3
    replace k0_4 := m5.cellAt k0_4
    replace k0_5 := m5.cellAt k0_5
    replace k0_6 := m5.cellAt k0_6
    replace k0_7 := m5.cellAt k0_7
    replace k0_8 := m5.cellAt k0_8
    replace k0_9 := m5.cellAt k0_9
    replace k0_10 := m5.cellAt k0_10
    replace k0_11 := m5.cellAt k0_11
    replace k1_0 := m5.cellAt k1_0
    replace k1_1 := m5.cellAt k1_1
    replace k1_2 := m5.cellAt k1_2
    replace k1_3 := m5.cellAt k1_3
    replace k1_4 := m5.cellAt k1_4
    replace k1_5 := m5.cellAt k1_5
    replace k1_6 := m5.cellAt k1_6
    replace k1_7 := m5.cellAt k1_7
    replace k1_8 := m5.cellAt k1_8
    replace k1_9 := m5.cellAt k1_9
    replace k1_10 := m5.cellAt k1_10
    replace k1_11 := m5.cellAt k1_11
    replace h12 := h12.mk m5 (by omega) (.inr (Nat.le_refl _))
    replace h13 := h13.mk m5 (by omega) (.inr (Nat.le_refl _))
    have M5 := M4.trans m5
    have z5 := m5.size
    have zz5 : w4.heap.size < (w4.alloc (Obj.cells #[Value.int .i64 a0_0, Value.int .i64 a0_1, Value.int .i64 a0_2, Value.int .i64 a0_3, Value.int .i64 a0_4, Value.slice (some ⟨b5, 0, none⟩) n0_5 n0_5, Value.int .i64 a0_6, Value.int .i64 a0_7, Value.int .i64 a0_8, Value.int .i64 a0_9, Value.int .i64 a0_10, Value.slice (some ⟨b6, 0, none⟩) n0_11 n0_11] 53)).heap.size := by rw [World.size_alloc]; omega
    generalize (w4.alloc (Obj.cells #[Value.int .i64 a0_0, Value.int .i64 a0_1, Value.int .i64 a0_2, Value.int .i64 a0_3, Value.int .i64 a0_4, Value.slice (some ⟨b5, 0, none⟩) n0_5 n0_5, Value.int .i64 a0_6, Value.int .i64 a0_7, Value.int .i64 a0_8, Value.int .i64 a0_9, Value.int .i64 a0_10, Value.slice (some ⟨b6, 0, none⟩) n0_11 n0_11] 53)) = w5 at *
    refine (toVerdictC _ _ _ _ _ _ _ _ _ _ _ _ _ _ _ _ _ _ w.heap.size _ (h1_5.mk M5 (Nat.le_refl _) (.inr (Nat.le_refl _))) (h1_11.mk M5 (Nat.le_refl _) (.inr (Nat.le_refl _))) (by omega) (by omega) (by omega)).mono ?_
    rintro e w6 ⟨b16, b17, d18, rfl, o19, o20, g21, g22, m6⟩
    have M6 := M5.trans m6
    have z6 := m6.size
    replace k0_0 := m6.cellAt k0_0
    replace k0_1 := m6.cellAt k0_1
    replace k0_2 := m6.cellAt k0_2
    replace k0_3 := m6.cellAt k0_3
    replace k0_4 := m6.cellAt k0_4
    replace k0_5 := m6.cellAt k0_5
    replace k0_6 := m6.cellAt k0_6
    replace k0_7 := m6.cellAt k0_7
    replace k0_8 := m6.cellAt k0_8
    replace k0_9 := m6.cellAt k0_9
    replace k0_10 := m6.cellAt k0_10
    replace k0_11 := m6.cellAt k0_11
    replace k1_0 := m6.cellAt k1_0
    replace k1_1 := m6.cellAt k1_1
    replace k1_2 := m6.cellAt k1_2
    replace k1_3 := m6.cellAt k1_3
    replace k1_4 := m6.cellAt k1_4
    replace k1_5 := m6.cellAt k1_5
    replace k1_6 := m6.cellAt k1_6
    replace k1_7 := m6.cellAt k1_7
    replace k1_8 := m6.cellAt k1_8
    replace k1_9 := m6.cellAt k1_9
    replace k1_10 := m6.cellAt k1_10
    replace k1_11 := m6.cellAt k1_11
    replace xx0_0 := m6.cellAt xx0_0
    replace xx0_1 := m6.cellAt xx0_1
    replace xx0_2 := m6.cellAt xx0_2
    replace xx0_3 := m6.cellAt xx0_3
    replace xx0_4 := m6.cellAt xx0_4
    replace xx0_5 := m6.cellAt xx0_5
    replace xx0_6 := m6.cellAt xx0_6
    replace xx0_7 := m6.cellAt xx0_7
    replace xx0_8 := m6.cellAt xx0_8
    replace xx0_9 := m6.cellAt xx0_9
    replace xx0_10 := m6.cellAt xx0_10
    replace xx0_11 := m6.cellAt xx0_11
    replace h12 := h12.mk m6 (by omega) (.inr (Nat.le_refl _))
    replace h13 := h13.mk m6 (by omega) (.inr (Nat.le_refl _))
    have h23 := o19.has.mono (B' := w6.heap.size) (by omega)
    clear o19
    have h24 := o20.has.mono (B' := w6.heap.size) (by omega)
    clear o20
    have yb25 : w.heap.size < w6.heap.size := by omega
    have yb26 : w.heap.size + 1 < w6.heap.size := by omega
    have yb27 : w4.heap.size < w6.heap.size := by omega
    go_wp2_with fail
    have xx1_0 : (w6.alloc (Obj.cells #[Value.int .i64 a1_0, Value.int .i64 a1_1, Value.int .i64 a1_2, Value.int .i64 a1_3, Value.int .i64 a1_4, Value.slice (some ⟨b16, 0, none⟩) n1_5 n1_5, Value.int .i64 a1_6, Value.int .i64 a1_7, Value.int .i64 a1_8, Value.int .i64 a1_9, Value.int .i64 a1_10, Value.slice (some ⟨b17, 0, none⟩) n1_11 n1_11] 53)).cell? ⟨w6.heap.size, 0, none⟩ = some (.int .i64 a1_0) := by rw [World.cell?_alloc_at _ _ _ _ rfl]; rfl
    have xx1_1 : (w6.alloc (Obj.cells #[Value.int .i64 a1_0, Value.int .i64 a1_1, Value.int .i64 a1_2, Value.int .i64 a1_3, Value.int .i64 a1_4, Value.slice (some ⟨b16, 0, none⟩) n1_5 n1_5, Value.int .i64 a1_6, Value.int .i64 a1_7, Value.int .i64 a1_8, Value.int .i64 a1_9, Value.int .i64 a1_10, Value.slice (some ⟨b17, 0, none⟩) n1_11 n1_11] 53)).cell? ⟨w6.heap.size, 1, none⟩ = some (.int .i64 a1_1) := by rw [World.cell?_alloc_at _ _ _ _ rfl]; rfl
    have xx1_2 : (w6.alloc (Obj.cells #[Value.int .i64 a1_0, Value.int .i64 a1_1, Value.int .i64 a1_2, Value.int .i64 a1_3, Value.int .i64 a1_4, Value.slice (some ⟨b16, 0, none⟩) n1_5 n1_5, Value.int .i64 a1_6, Value.int .i64 a1_7, Value.int .i64 a1_8, Value.int .i64 a1_9, Value.int .i64 a1_10, Value.slice (some ⟨b17, 0, none⟩) n1_11 n1_11] 53)).cell? ⟨w6.heap.size, 2, none⟩ = some (.int .i64 a1_2) := by rw [World.cell?_alloc_at _ _ _ _ rfl]; rfl
    have xx1_3 : (w6.alloc (Obj.cells #[Value.int .i64 a1_0, Value.int .i64 a1_1, Value.int .i64 a1_2, Value.int .i64 a1_3, Value.int .i64 a1_4, Value.slice (some ⟨b16, 0, none⟩) n1_5 n1_5, Value.int .i64 a1_6, Value.int .i64 a1_7, Value.int .i64 a1_8, Value.int .i64 a1_9, Value.int .i64 a1_10, Value.slice (some ⟨b17, 0, none⟩) n1_11 n1_11] 53)).cell? ⟨w6.heap.size, 3, none⟩ = some (.int .i64 a1_3) := by rw [World.cell?_alloc_at _ _ _ _ rfl]; rfl
    have xx1_4 : (w6.alloc (Obj.cells #[Value.int .i64 a1_0, Value.int .i64 a1_1, Value.int .i64 a1_2, Value.int .i64 a1_3, Value.int .i64 a1_4, Value.slice (some ⟨b16, 0, none⟩) n1_5 n1_5, Value.int .i64 a1_6, Value.int .i64 a1_7, Value.int .i64 a1_8, Value.int .i64 a1_9, Value.int .i64 a1_10, Value.slice (some ⟨b17, 0, none⟩) n1_11 n1_11] 53)).cell? ⟨w6.heap.size, 4, none⟩ = some (.int .i64 a1_4) := by rw [World.cell?_alloc_at _ _ _ _ rfl]; rfl
    have xx1_5 : (w6.alloc (Obj.cells #[Value.int .i64 a1_0, Value.int .i64 a1_1, Value.int .i64 a1_2, Value.int .i64 a1_3, Value.int .i64 a1_4, Value.slice (some ⟨b16, 0, none⟩) n1_5 n1_5, Value.int .i64 a1_6, Value.int .i64 a1_7, Value.int .i64 a1_8, Value.int .i64 a1_9, Value.int .i64 a1_10, Value.slice (some ⟨b17, 0, none⟩) n1_11 n1_11] 53)).cell? ⟨w6.heap.size, 5, none⟩ = some (.slice (some ⟨b16, 0, none⟩) n1_5 n1_5) := by rw [World.cell?_alloc_at _ _ _ _ rfl]; rfl
    have xx1_6 : (w6.alloc (Obj.cells #[Value.int .i64 a1_0, Value.int .i64 a1_1, Value.int .i64 a1_2, Value.int .i64 a1_3, Value.int .i64 a1_4, Value.slice (some ⟨b16, 0, none⟩) n1_5 n1_5, Value.int .i64 a1_6, Value.int .i64 a1_7, Value.int .i64 a1_8, Value.int .i64 a1_9, Value.int .i64 a1_10, Value.slice (some ⟨b17, 0, none⟩) n1_11 n1_11] 53)).cell? ⟨w6.heap.size, 6, none⟩ = some (.int .i64 a1_6) := by rw [World.cell?_alloc_at _ _ _ _ rfl]; rfl
    have xx1_7 : (w6.alloc (Obj.cells #[Value.int .i64 a1_0, Value.int .i64 a1_1, Value.int .i64 a1_2, Value.int .i64 a1_3, Value.int .i64 a1_4, Value.slice (some ⟨b16, 0, none⟩) n1_5 n1_5, Value.int .i64 a1_6, Value.int .i64 a1_7, Value.int .i64 a1_8, Value.int .i64 a1_9, Value.int .i64 a1_10, Value.slice (some ⟨b17, 0, none⟩) n1_11 n1_11] 53)).cell? ⟨w6.heap.size, 7, none⟩ = some (.int .i64 a1_7) := by rw [World.cell?_alloc_at _ _ _ _ rfl]; rfl
    have xx1_8 : (w6.alloc (Obj.cells #[Value.int .i64 a1_0, Value.int .i64 a1_1, Value.int .i64 a1_2, Value.int .i64 a1_3, Value.int .i64 a1_4, Value.slice (some ⟨b16, 0, none⟩) n1_5 n1_5, Value.int .i64 a1_6, Value.int .i64 a1_7, Value.int .i64 a1_8, Value.int .i64 a1_9, Value.int .i64 a1_10, Value.slice (some ⟨b17, 0, none⟩) n1_11 n1_11] 53)).cell? ⟨w6.heap.size, 8, none⟩ = some (.int .i64 a1_8) := by rw [World.cell?_alloc_at _ _ _ _ rfl]; rfl
    have xx1_9 : (w6.alloc (Obj.cells #[Value.int .i64 a1_0, Value.int .i64 a1_1, Value.int .i64 a1_2, Value.int .i64 a1_3, Value.int .i64 a1_4, Value.slice (some ⟨b16, 0, none⟩) n1_5 n1_5, Value.int .i64 a1_6, Value.int .i64 a1_7, Value.int .i64 a1_8, Value.int .i64 a1_9, Value.int .i64 a1_10, Value.slice (some ⟨b17, 0, none⟩) n1_11 n1_11] 53)).cell? ⟨w6.heap.size, 9, none⟩ = some (.int .i64 a1_9) := by rw [World.cell?_alloc_at _ _ _ _ rfl]; rfl
    have xx1_10 : (w6.alloc (Obj.cells #[Value.int .i64 a1_0, Value.int .i64 a1_1, Value.int .i64 a1_2, Value.int .i64 a1_3, Value.int .i64 a1_4, Value.slice (some ⟨b16, 0, none⟩) n1_5 n1_5, Value.int .i64 a1_6, Value.int .i64 a1_7, Value.int .i64 a1_8, Value.int .i64 a1_9, Value.int .i64 a1_10, Value.slice (some ⟨b17, 0, none⟩) n1_11 n1_11] 53)).cell? ⟨w6.heap.size, 10, none⟩ = some (.int .i64 a1_10) := by rw [World.cell?_alloc_at _ _ _ _ rfl]; rfl
    have xx1_11 : (w6.alloc (Obj.cells #[Value.int .i64 a1_0, Value.int .i64 a1_1, Value.int .i64 a1_2, Value.int .i64 a1_3, Value.int .i64 a1_4, Value.slice (some ⟨b16, 0, none⟩) n1_5 n1_5, Value.int .i64 a1_6, Value.int .i64 a1_7, Value.int .i64 a1_8, Value.int .i64 a1_9, Value.int .i64 a1_10, Value.slice (some ⟨b17, 0, none⟩) n1_11 n1_11] 53)).cell? ⟨w6.heap.size, 11, none⟩ = some (.slice (some ⟨b17, 0, none⟩) n1_11 n1_11) := by rw [World.cell?_alloc_at _ _ _ _ rfl]; rfl
    have m7 := Mk.alloc w6 (Obj.cells #[Value.int .i64 a1_0, Value.int .i64 a1_1, Value.int .i64 a1_2, Value.int .i64 a1_3, Value.int .i64 a1_4, Value.slice (some ⟨b16, 0, none⟩) n1_5 n1_5, Value.int .i64 a1_6, Value.int .i64 a1_7, Value.int .i64 a1_8, Value.int .i64 a1_9, Value.int .i64 a1_10, Value.slice (some ⟨b17, 0, none⟩) n1_11 n1_11] 53)
    replace k0_0 := m7.cellAt k0_0
    replace k0_1 := m7.cellAt k0_1
    replace k0_2 := m7.cellAt k0_2
    replace k0_3 := m7.cellAt k0_3
    replace k0_4 := m7.cellAt k0_4
    replace k0_5 := m7.cellAt k0_5
    replace k0_6 := m7.cellAt k0_6
    replace k0_7 := m7.cellAt k0_7
    replace k0_8 := m7.cellAt k0_8
    replace k0_9 := m7.cellAt k0_9
    replace k0_10 := m7.cellAt k0_10
    replace k0_11 := m7.cellAt k0_11
    replace k1_0 := m7.cellAt k1_0
    replace k1_1 := m7.cellAt k1_1
    replace k1_2 := m7.cellAt k1_2
    replace k1_3 := m7.cellAt k1_3
    replace k1_4 := m7.cellAt k1_4
    replace k1_5 := m7.cellAt k1_5
    replace k1_6 := m7.cellAt k1_6
    replace k1_7 := m7.cellAt k1_7
    replace k1_8 := m7.cellAt k1_8
    replace k1_9 := m7.cellAt k1_9
    replace k1_10 := m7.cellAt k1_10
    replace k1_11 := m7.cellAt k1_11
    replace xx0_0 := m7.cellAt xx0_0
    replace xx0_1 := m7.cellAt xx0_1
    replace xx0_2 := m7.cellAt xx0_2
    replace xx0_3 := m7.cellAt xx0_3
    replace xx0_4 := m7.cellAt xx0_4
    replace xx0_5 := m7.cellAt xx0_5
    replace xx0_6 := m7.cellAt xx0_6
    replace xx0_7 := m7.cellAt xx0_7
    replace xx0_8 := m7.cellAt xx0_8
    replace xx0_9 := m7.cellAt xx0_9
    replace xx0_10 := m7.cellAt xx0_10
    replace xx0_11 := m7.cellAt xx0_11
    replace h12 := h12.mk m7 (by omega) (.inr (Nat.le_refl _))
    replace h13 := h13.mk m7 (by omega) (.inr (Nat.le_refl _))
    replace h23 := h23.mk m7 (by omega) (.inr (Nat.le_refl _))
    replace h24 := h24.mk m7 (by omega) (.inr (Nat.le_refl _))
    have M7 := M6.trans m7
    have z7 := m7.size
    have zz7 : w6.heap.size < (w6.alloc (Obj.cells #[Value.int .i64 a1_0, Value.int .i64 a1_1, Value.int .i64 a1_2, Value.int .i64 a1_3, Value.int .i64 a1_4, Value.slice (some ⟨b16, 0, none⟩) n1_5 n1_5, Value.int .i64 a1_6, Value.int .i64 a1_7, Value.int .i64 a1_8, Value.int .i64 a1_9, Value.int .i64 a1_10, Value.slice (some ⟨b17, 0, none⟩) n1_11 n1_11] 53)).heap.size := by rw [World.size_alloc]; omega
    generalize (w6.alloc (Obj.cells #[Value.int .i64 a1_0, Value.int .i64 a1_1, Value.int .i64 a1_2, Value.int .i64 a1_3, Value.int .i64 a1_4, Value.slice (some ⟨b16, 0, none⟩) n1_5 n1_5, Value.int .i64 a1_6, Value.int .i64 a1_7, Value.int .i64 a1_8, Value.int .i64 a1_9, Value.int .i64 a1_10, Value.slice (some ⟨b17, 0, none⟩) n1_11 n1_11] 53)) = w7 at *
    have hN0_5 : szPathPart z0_5 n0_5 ≤ 1048576 := by omega
    have hN0_11 : n0_11 ≤ 1048576 := by omega
    have hN1_5 : szPathPart z1_5 n1_5 ≤ 1048576 := by omega
    have hN1_11 : n1_11 ≤ 1048576 := by omega
    refine (implEqVd a0_0 a0_1 a1_0 a1_1 a0_2 a0_3 a0_4 a0_6 a0_7 a0_8 a0_9 a0_10 a1_2 a1_3 a1_4 a1_6 a1_7 a1_8 a1_9 a1_10 _ _ n0_5 n1_5 _ _ z0_5 z1_5 _ _ n0_11 n1_11 _ _ z0_11 z1_11 _ _ _ h12 h13 h23 h24 (by omega) (by omega) hN0_5 hN0_11 hN1_5 hN1_11).mono ?_
    rintro e w8 ⟨rfl, m8⟩
    have M8 := M7.trans m8
    have z8 := m8.size
    replace k0_0 := m8.cellAt k0_0
    replace k0_1 := m8.cellAt k0_1
    replace k0_2 := m8.cellAt k0_2
    replace k0_3 := m8.cellAt k0_3
    replace k0_4 := m8.cellAt k0_4
    replace k0_5 := m8.cellAt k0_5
    replace k0_6 := m8.cellAt k0_6
    replace k0_7 := m8.cellAt k0_7
    replace k0_8 := m8.cellAt k0_8
    replace k0_9 := m8.cellAt k0_9
    replace k0_10 := m8.cellAt k0_10
    replace k0_11 := m8.cellAt k0_11
    replace k1_0 := m8.cellAt k1_0
    replace k1_1 := m8.cellAt k1_1
    replace k1_2 := m8.cellAt k1_2
    replace k1_3 := m8.cellAt k1_3
    replace k1_4 := m8.cellAt k1_4
    replace k1_5 := m8.cellAt k1_5
    replace k1_6 := m8.cellAt k1_6
    replace k1_7 := m8.cellAt k1_7
    replace k1_8 := m8.cellAt k1_8
    replace k1_9 := m8.cellAt k1_9
    replace k1_10 := m8.cellAt k1_10
    replace k1_11 := m8.cellAt k1_11
    replace xx0_0 := m8.cellAt xx0_0
    replace xx0_1 := m8.cellAt xx0_1
    replace xx0_2 := m8.cellAt xx0_2
    replace xx0_3 := m8.cellAt xx0_3
    replace xx0_4 := m8.cellAt xx0_4
    replace xx0_5 := m8.cellAt xx0_5
    replace xx0_6 := m8.cellAt xx0_6
    replace xx0_7 := m8.cellAt xx0_7
    replace xx0_8 := m8.cellAt xx0_8
    replace xx0_9 := m8.cellAt xx0_9
    replace xx0_10 := m8.cellAt xx0_10
    replace xx0_11 := m8.cellAt xx0_11
    replace xx1_0 := m8.cellAt xx1_0
    replace xx1_1 := m8.cellAt xx1_1
    replace xx1_2 := m8.cellAt xx1_2
    replace xx1_3 := m8.cellAt xx1_3
    replace xx1_4 := m8.cellAt xx1_4
    replace xx1_5 := m8.cellAt xx1_5
    replace xx1_6 := m8.cellAt xx1_6
    replace xx1_7 := m8.cellAt xx1_7
    replace xx1_8 := m8.cellAt xx1_8
    replace xx1_9 := m8.cellAt xx1_9
    replace xx1_10 := m8.cellAt xx1_10
    replace xx1_11 := m8.cellAt xx1_11
    replace h12 := h12.mk m8 (by omega) (.inr (Nat.le_refl _))
    replace h13 := h13.mk m8 (by omega) (.inr (Nat.le_refl _))
    replace h23 := h23.mk m8 (by omega) (.inr (Nat.le_refl _))
    replace h24 := h24.mk m8 (by omega) (.inr (Nat.le_refl _))
    go_wp2_with fail
    have e28 : ∀ w', Mk0 w8 w' → HasPathPart w' w4.heap.size (some ⟨b5, 0, none⟩) n0_5 z0_5 := fun w' m => h12.mk m (by omega) (.inr (Nat.le_refl _))
    have e29 : ∀ w', Mk0 w8 w' → HasByte w' w4.heap.size (some ⟨b6, 0, none⟩) n0_11 z0_11 := fun w' m => h13.mk m (by omega) (.inr (Nat.le_refl _))
    have e30 : ∀ w', Mk0 w8 w' → w4.heap.size ≤ w'.heap.size := fun w' m => Nat.le_trans (by omega) m.size
    have e31 : ∀ w', Mk0 w8 w' → HasPathPart w' w.heap.size a0_5 n0_5 z0_5 := fun w' m => h0_5.mk (M8.trans m) (Nat.le_refl _) (.inr (Nat.le_refl _))
    have e32 : ∀ w', Mk0 w8 w' → HasByte w' w.heap.size a0_11 n0_11 z0_11 := fun w' m => h0_11.mk (M8.trans m) (Nat.le_refl _) (.inr (Nat.le_refl _))
    have hN0_5 : szPathPart z0_5 n0_5 ≤ 1048576 := by omega
    have hN0_11 : n0_11 ≤ 1048576 := by omega
    go_region_held3 (fun w' => Mk0 w8 w' ∧ w'.cell? ⟨w.heap.size, 0, none⟩ = some (.int .i64 a0_0) ∧ w'.cell? ⟨w.heap.size, 1, none⟩ = some (.int .i64 a0_1) ∧ w'.cell? ⟨w.heap.size, 2, none⟩ = some (.int .i64 a0_2) ∧ w'.cell? ⟨w.heap.size, 3, none⟩ = some (.int .i64 a0_3) ∧ w'.cell? ⟨w.heap.size, 4, none⟩ = some (.int .i64 a0_4) ∧ w'.cell? ⟨w.heap.size, 5, none⟩ = some (.slice a0_5 n0_5 c0_5) ∧ w'.cell? ⟨w.heap.size, 6, none⟩ = some (.int .i64 a0_6) ∧ w'.cell? ⟨w.heap.size, 7, none⟩ = some (.int .i64 a0_7) ∧ w'.cell? ⟨w.heap.size, 8, none⟩ = some (.int .i64 a0_8) ∧ w'.cell? ⟨w.heap.size, 9, none⟩ = some (.int .i64 a0_9) ∧ w'.cell? ⟨w.heap.size, 10, none⟩ = some (.int .i64 a0_10) ∧ w'.cell? ⟨w.heap.size, 11, none⟩ = some (.slice a0_11 n0_11 c0_11) ∧ w'.cell? ⟨w.heap.size + 1, 0, none⟩ = some (.int .i64 a1_0) ∧ w'.cell? ⟨w.heap.size + 1, 1, none⟩ = some (.int .i64 a1_1) ∧ w'.cell? ⟨w.heap.size + 1, 2, none⟩ = some (.int .i64 a1_2) ∧ w'.cell? ⟨w.heap.size + 1, 3, none⟩ = some (.int .i64 a1_3) ∧ w'.cell? ⟨w.heap.size + 1, 4, none⟩ = some (.int .i64 a1_4) ∧ w'.cell? ⟨w.heap.size + 1, 5, none⟩ = some (.slice a1_5 n1_5 c1_5) ∧ w'.cell? ⟨w.heap.size + 1, 6, none⟩ = some (.int .i64 a1_6) ∧ w'.cell? ⟨w.heap.size + 1, 7, none⟩ = some (.int .i64 a1_7) ∧ w'.cell? ⟨w.heap.size + 1, 8, none⟩ = some (.int .i64 a1_8) ∧ w'.cell? ⟨w.heap.size + 1, 9, none⟩ = some (.int .i64 a1_9) ∧ w'.cell? ⟨w.heap.size + 1, 10, none⟩ = some (.int .i64 a1_10) ∧ w'.cell? ⟨w.heap.size + 1, 11, none⟩ = some (.slice a1_11 n1_11 c1_11) ∧ w'.cell? ⟨w4.heap.size, 0, none⟩ = some (.int .i64 a0_0) ∧ w'.cell? ⟨w4.heap.size, 1, none⟩ = some (.int .i64 a0_1) ∧ w'.cell? ⟨w4.heap.size, 2, none⟩ = some (.int .i64 a0_2) ∧ w'.cell? ⟨w4.heap.size, 3, none⟩ = some (.int .i64 a0_3) ∧ w'.cell? ⟨w4.heap.size, 4, none⟩ = some (.int .i64 a0_4) ∧ w'.cell? ⟨w4.heap.size, 5, none⟩ = some (.slice (some ⟨b5, 0, none⟩) n0_5 n0_5) ∧ w'.cell? ⟨w4.heap.size, 6, none⟩ = some (.int .i64 a0_6) ∧ w'.cell? ⟨w4.heap.size, 7, none⟩ = some (.int .i64 a0_7) ∧ w'.cell? ⟨w4.heap.size, 8, none⟩ = some (.int .i64 a0_8) ∧ w'.cell? ⟨w4.heap.size, 9, none⟩ = some (.int .i64 a0_9) ∧ w'.cell? ⟨w4.heap.size, 10, none⟩ = some (.int .i64 a0_10) ∧ w'.cell? ⟨w4.heap.size, 11, none⟩ = some (.slice (some ⟨b6, 0, none⟩) n0_11 n0_11) ∧ w'.cell? ⟨w6.heap.size, 0, none⟩ = some (.int .i64 a1_0) ∧ w'.cell? ⟨w6.heap.size, 1, none⟩ = some (.int .i64 a1_1) ∧ w'.cell? ⟨w6.heap.size, 2, none⟩ = some (.int .i64 a1_2) ∧ w'.cell? ⟨w6.heap.size, 3, none⟩ = some (.int .i64 a1_3) ∧ w'.cell? ⟨w6.heap.size, 4, none⟩ = some (.int .i64 a1_4) ∧ w'.cell? ⟨w6.heap.size, 5, none⟩ = some (.slice (some ⟨b16, 0, none⟩) n1_5 n1_5) ∧ w'.cell? ⟨w6.heap.size, 6, none⟩ = some (.int .i64 a1_6) ∧ w'.cell? ⟨w6.heap.size, 7, none⟩ = some (.int .i64 a1_7) ∧ w'.cell? ⟨w6.heap.size, 8, none⟩ = some (.int .i64 a1_8) ∧ w'.cell? ⟨w6.heap.size, 9, none⟩ = some (.int .i64 a1_9) ∧ w'.cell? ⟨w6.heap.size, 10, none⟩ = some (.int .i64 a1_10) ∧ w'.cell? ⟨w6.heap.size, 11, none⟩ = some (.slice (some ⟨b17, 0, none⟩) n1_11 n1_11)) (first | exact ⟨Mk.drew1 _, k0_0, k0_1, k0_2, k0_3, k0_4, k0_5, k0_6, k0_7, k0_8, k0_9, k0_10, k0_11, k1_0, k1_1, k1_2, k1_3, k1_4, k1_5, k1_6, k1_7, k1_8, k1_9, k1_10, k1_11, xx0_0, xx0_1, xx0_2, xx0_3, xx0_4, xx0_5, xx0_6, xx0_7, xx0_8, xx0_9, xx0_10, xx0_11, xx1_0, xx1_1, xx1_2, xx1_3, xx1_4, xx1_5, xx1_6, xx1_7, xx1_8, xx1_9, xx1_10, xx1_11⟩ | (obtain ⟨s0, s1, s2, s3, s4, s5, s6, s7, s8, s9, s10, s11, s12, s13, s14, s15, s16, s17, s18, s19, s20, s21, s22, s23, s24, s25, s26, s27, s28, s29, s30, s31, s32, s33, s34, s35, s36, s37, s38, s39, s40, s41, s42, s43, s44, s45, s46, s47, s48⟩ := ‹Mk0 w8 _ ∧ _›; exact ⟨s0.trans mm, mm.cellAt s1, mm.cellAt s2, mm.cellAt s3, mm.cellAt s4, mm.cellAt s5, mm.cellAt s6, mm.cellAt s7, mm.cellAt s8, mm.cellAt s9, mm.cellAt s10, mm.cellAt s11, mm.cellAt s12, mm.cellAt s13, mm.cellAt s14, mm.cellAt s15, mm.cellAt s16, mm.cellAt s17, mm.cellAt s18, mm.cellAt s19, mm.cellAt s20, mm.cellAt s21, mm.cellAt s22, mm.cellAt s23, mm.cellAt s24, mm.cellAt s25, mm.cellAt s26, mm.cellAt s27, mm.cellAt s28, mm.cellAt s29, mm.cellAt s30, mm.cellAt s31, mm.cellAt s32, mm.cellAt s33, mm.cellAt s34, mm.cellAt s35, mm.cellAt s36, mm.cellAt s37, mm.cellAt s38, mm.cellAt s39, mm.cellAt s40, mm.cellAt s41, mm.cellAt s42, mm.cellAt s43, mm.cellAt s44, mm.cellAt s45, mm.cellAt s46, mm.cellAt s47, mm.cellAt s48⟩)) (first | (go_at_call 34; refine (toVerdictC _ _ _ _ _ _ _ _ _ _ _ _ _ _ _ _ _ _ w.heap.size _ (e31 _ (‹Mk0 w8 _ ∧ _›).1) (e32 _ (‹Mk0 w8 _ ∧ _›).1) (M8.trans (‹Mk0 w8 _ ∧ _›).1).size hN0_5 hN0_11).mono ?_; rintro e wa ⟨bb0, bb1, dd0, rfl, oo0, oo1, gg0, gg1, mm⟩) | (go_at_call 36; refine (eqVerdictC _ _ _ _ _ _ _ _ _ _ _ _ _ _ _ _ _ _ _ _ _ _ _ _ _ (e28 _ (‹Mk0 w8 _ ∧ _›).1) (e29 _ (‹Mk0 w8 _ ∧ _›).1) (oo0.has.mono gg1) (oo1.has.mono (Nat.le_refl _)) (e30 _ (‹Mk0 w8 _ ∧ _›).1) (Nat.le_refl _) hN0_5 hN0_11).mono ?_; rintro e wb9 ⟨rfl, mm⟩))
    obtain ⟨m9, k0_0, k0_1, k0_2, k0_3, k0_4, k0_5, k0_6, k0_7, k0_8, k0_9, k0_10, k0_11, k1_0, k1_1, k1_2, k1_3, k1_4, k1_5, k1_6, k1_7, k1_8, k1_9, k1_10, k1_11, xx0_0, xx0_1, xx0_2, xx0_3, xx0_4, xx0_5, xx0_6, xx0_7, xx0_8, xx0_9, xx0_10, xx0_11, xx1_0, xx1_1, xx1_2, xx1_3, xx1_4, xx1_5, xx1_6, xx1_7, xx1_8, xx1_9, xx1_10, xx1_11⟩ := ‹Mk0 w8 _ ∧ _›
    clear e28 e29 e30 e31 e32 hN0_5 hN0_11
    refine ‹∀ (a : Act) (w : World), _ → _› _ _ ?_
    have M9 := M8.trans m9
    have z9 := m9.size
    replace h12 := h12.mk m9 (by omega) (.inr (Nat.le_refl _))
    replace h13 := h13.mk m9 (by omega) (.inr (Nat.le_refl _))
    replace h23 := h23.mk m9 (by omega) (.inr (Nat.le_refl _))
    replace h24 := h24.mk m9 (by omega) (.inr (Nat.le_refl _))
    go_wp2_with fail
    have e33 : ∀ w', Mk0 wb9 w' → HasPathPart w' w6.heap.size (some ⟨b16, 0, none⟩) n1_5 z1_5 := fun w' m => h23.mk m (by omega) (.inr (Nat.le_refl _))
    have e34 : ∀ w', Mk0 wb9 w' → HasByte w' w6.heap.size (some ⟨b17, 0, none⟩) n1_11 z1_11 := fun w' m => h24.mk m (by omega) (.inr (Nat.le_refl _))
    have e35 : ∀ w', Mk0 wb9 w' → w6.heap.size ≤ w'.heap.size := fun w' m => Nat.le_trans (by omega) m.size
    have e36 : ∀ w', Mk0 wb9 w' → HasPathPart w' w.heap.size a1_5 n1_5 z1_5 := fun w' m => h1_5.mk (M9.trans m) (Nat.le_refl _) (.inr (Nat.le_refl _))
    have e37 : ∀ w', Mk0 wb9 w' → HasByte w' w.heap.size a1_11 n1_11 z1_11 := fun w' m => h1_11.mk (M9.trans m) (Nat.le_refl _) (.inr (Nat.le_refl _))
    have hN1_5 : szPathPart z1_5 n1_5 ≤ 1048576 := by omega
    have hN1_11 : n1_11 ≤ 1048576 := by omega
    go_region_held3 (fun w' => Mk0 wb9 w' ∧ w'.cell? ⟨w.heap.size, 0, none⟩ = some (.int .i64 a0_0) ∧ w'.cell? ⟨w.heap.size, 1, none⟩ = some (.int .i64 a0_1) ∧ w'.cell? ⟨w.heap.size, 2, none⟩ = some (.int .i64 a0_2) ∧ w'.cell? ⟨w.heap.size, 3, none⟩ = some (.int .i64 a0_3) ∧ w'.cell? ⟨w.heap.size, 4, none⟩ = some (.int .i64 a0_4) ∧ w'.cell? ⟨w.heap.size, 5, none⟩ = some (.slice a0_5 n0_5 c0_5) ∧ w'.cell? ⟨w.heap.size, 6, none⟩ = some (.int .i64 a0_6) ∧ w'.cell? ⟨w.heap.size, 7, none⟩ = some (.int .i64 a0_7) ∧ w'.cell? ⟨w.heap.size, 8, none⟩ = some (.int .i64 a0_8) ∧ w'.cell? ⟨w.heap.size, 9, none⟩ = some (.int .i64 a0_9) ∧ w'.cell? ⟨w.heap.size, 10, none⟩ = some (.int .i64 a0_10) ∧ w'.cell? ⟨w.heap.size, 11, none⟩ = some (.slice a0_11 n0_11 c0_11) ∧ w'.cell? ⟨w.heap.size + 1, 0, none⟩ = some (.int .i64 a1_0) ∧ w'.cell? ⟨w.heap.size + 1, 1, none⟩ = some (.int .i64 a1_1) ∧ w'.cell? ⟨w.heap.size + 1, 2, none⟩ = some (.int .i64 a1_2) ∧ w'.cell? ⟨w.heap.size + 1, 3, none⟩ = some (.int .i64 a1_3) ∧ w'.cell? ⟨w.heap.size + 1, 4, none⟩ = some (.int .i64 a1_4) ∧ w'.cell? ⟨w.heap.size + 1, 5, none⟩ = some (.slice a1_5 n1_5 c1_5) ∧ w'.cell? ⟨w.heap.size + 1, 6, none⟩ = some (.int .i64 a1_6) ∧ w'.cell? ⟨w.heap.size + 1, 7, none⟩ = some (.int .i64 a1_7) ∧ w'.cell? ⟨w.heap.size + 1, 8, none⟩ = some (.int .i64 a1_8) ∧ w'.cell? ⟨w.heap.size + 1, 9, none⟩ = some (.int .i64 a1_9) ∧ w'.cell? ⟨w.heap.size + 1, 10, none⟩ = some (.int .i64 a1_10) ∧ w'.cell? ⟨w.heap.size + 1, 11, none⟩ = some (.slice a1_11 n1_11 c1_11) ∧ w'.cell? ⟨w4.heap.size, 0, none⟩ = some (.int .i64 a0_0) ∧ w'.cell? ⟨w4.heap.size, 1, none⟩ = some (.int .i64 a0_1) ∧ w'.cell? ⟨w4.heap.size, 2, none⟩ = some (.int .i64 a0_2) ∧ w'.cell? ⟨w4.heap.size, 3, none⟩ = some (.int .i64 a0_3) ∧ w'.cell? ⟨w4.heap.size, 4, none⟩ = some (.int .i64 a0_4) ∧ w'.cell? ⟨w4.heap.size, 5, none⟩ = some (.slice (some ⟨b5, 0, none⟩) n0_5 n0_5) ∧ w'.cell? ⟨w4.heap.size, 6, none⟩ = some (.int .i64 a0_6) ∧ w'.cell? ⟨w4.heap.size, 7, none⟩ = some (.int .i64 a0_7) ∧ w'.cell? ⟨w4.heap.size, 8, none⟩ = some (.int .i64 a0_8) ∧ w'.cell? ⟨w4.heap.size, 9, none⟩ = some (.int .i64 a0_9) ∧ w'.cell? ⟨w4.heap.size, 10, none⟩ = some (.int .i64 a0_10) ∧ w'.cell? ⟨w4.heap.size, 11, none⟩ = some (.slice (some ⟨b6, 0, none⟩) n0_11 n0_11) ∧ w'.cell? ⟨w6.heap.size, 0, none⟩ = some (.int .i64 a1_0) ∧ w'.cell? ⟨w6.heap.size, 1, none⟩ = some (.int .i64 a1_1) ∧ w'.cell? ⟨w6.heap.size, 2, none⟩ = some (.int .i64 a1_2) ∧ w'.cell? ⟨w6.heap.size, 3, none⟩ = some (.int .i64 a1_3) ∧ w'.cell? ⟨w6.heap.size, 4, none⟩ = some (.int .i64 a1_4) ∧ w'.cell? ⟨w6.heap.size, 5, none⟩ = some (.slice (some ⟨b16, 0, none⟩) n1_5 n1_5) ∧ w'.cell? ⟨w6.heap.size, 6, none⟩ = some (.int .i64 a1_6) ∧ w'.cell? ⟨w6.heap.size, 7, none⟩ = some (.int .i64 a1_7) ∧ w'.cell? ⟨w6.heap.size, 8, none⟩ = some (.int .i64 a1_8) ∧ w'.cell? ⟨w6.heap.size, 9, none⟩ = some (.int .i64 a1_9) ∧ w'.cell? ⟨w6.heap.size, 10, none⟩ = some (.int .i64 a1_10) ∧ w'.cell? ⟨w6.heap.size, 11, none⟩ = some (.slice (some ⟨b17, 0, none⟩) n1_11 n1_11)) (first | exact ⟨Mk.drew1 _, k0_0, k0_1, k0_2, k0_3, k0_4, k0_5, k0_6, k0_7, k0_8, k0_9, k0_10, k0_11, k1_0, k1_1, k1_2, k1_3, k1_4, k1_5, k1_6, k1_7, k1_8, k1_9, k1_10, k1_11, xx0_0, xx0_1, xx0_2, xx0_3, xx0_4, xx0_5, xx0_6, xx0_7, xx0_8, xx0_9, xx0_10, xx0_11, xx1_0, xx1_1, xx1_2, xx1_3, xx1_4, xx1_5, xx1_6, xx1_7, xx1_8, xx1_9, xx1_10, xx1_11⟩ | (obtain ⟨s0, s1, s2, s3, s4, s5, s6, s7, s8, s9, s10, s11, s12, s13, s14, s15, s16, s17, s18, s19, s20, s21, s22, s23, s24, s25, s26, s27, s28, s29, s30, s31, s32, s33, s34, s35, s36, s37, s38, s39, s40, s41, s42, s43, s44, s45, s46, s47, s48⟩ := ‹Mk0 wb9 _ ∧ _›; exact ⟨s0.trans mm, mm.cellAt s1, mm.cellAt s2, mm.cellAt s3, mm.cellAt s4, mm.cellAt s5, mm.cellAt s6, mm.cellAt s7, mm.cellAt s8, mm.cellAt s9, mm.cellAt s10, mm.cellAt s11, mm.cellAt s12, mm.cellAt s13, mm.cellAt s14, mm.cellAt s15, mm.cellAt s16, mm.cellAt s17, mm.cellAt s18, mm.cellAt s19, mm.cellAt s20, mm.cellAt s21, mm.cellAt s22, mm.cellAt s23, mm.cellAt s24, mm.cellAt s25, mm.cellAt s26, mm.cellAt s27, mm.cellAt s28, mm.cellAt s29, mm.cellAt s30, mm.cellAt s31, mm.cellAt s32, mm.cellAt s33, mm.cellAt s34, mm.cellAt s35, mm.cellAt s36, mm.cellAt s37, mm.cellAt s38, mm.cellAt s39, mm.cellAt s40, mm.cellAt s41, mm.cellAt s42, mm.cellAt s43, mm.cellAt s44, mm.cellAt s45, mm.cellAt s46, mm.cellAt s47, mm.cellAt s48⟩)) (first | (go_at_call 34; refine (toVerdictC _ _ _ _ _ _ _ _ _ _ _ _ _ _ _ _ _ _ w.heap.size _ (e36 _ (‹Mk0 wb9 _ ∧ _›).1) (e37 _ (‹Mk0 wb9 _ ∧ _›).1) (M9.trans (‹Mk0 wb9 _ ∧ _›).1).size hN1_5 hN1_11).mono ?_; rintro e wa ⟨bb0, bb1, dd0, rfl, oo0, oo1, gg0, gg1, mm⟩) | (go_at_call 36; refine (eqVerdictC _ _ _ _ _ _ _ _ _ _ _ _ _ _ _ _ _ _ _ _ _ _ _ _ _ (e33 _ (‹Mk0 wb9 _ ∧ _›).1) (e34 _ (‹Mk0 wb9 _ ∧ _›).1) (oo0.has.mono gg1) (oo1.has.mono (Nat.le_refl _)) (e35 _ (‹Mk0 wb9 _ ∧ _›).1) (Nat.le_refl _) hN1_5 hN1_11).mono ?_; rintro e wb10 ⟨rfl, mm⟩))
    obtain ⟨m10, k0_0, k0_1, k0_2, k0_3, k0_4, k0_5, k0_6, k0_7, k0_8, k0_9, k0_10, k0_11, k1_0, k1_1, k1_2, k1_3, k1_4, k1_5, k1_6, k1_7, k1_8, k1_9, k1_10, k1_11, xx0_0, xx0_1, xx0_2, xx0_3, xx0_4, xx0_5, xx0_6, xx0_7, xx0_8, xx0_9, xx0_10, xx0_11, xx1_0, xx1_1, xx1_2, xx1_3, xx1_4, xx1_5, xx1_6, xx1_7, xx1_8, xx1_9, xx1_10, xx1_11⟩ := ‹Mk0 wb9 _ ∧ _›
    clear e33 e34 e35 e36 e37 hN1_5 hN1_11
    refine ‹∀ (a : Act) (w : World), _ → _› _ _ ?_
    have M10 := M9.trans m10
    have z10 := m10.size
    replace h23 := h23.mk m10 (by omega) (.inr (Nat.le_refl _))
    replace h24 := h24.mk m10 (by omega) (.inr (Nat.le_refl _))
    go_wp2_with fail
    go_ret
    exact ⟨rfl, M10.below0⟩)

set_option maxRecDepth 100000 in
theorem lifted (os : Os) (started : os.Started) (H : Type) (enc : TypeId × Value → H) :
    ReturnsInHanded {} Try.checked os 9 .any (Rows.fnExactEqualVerdictsSpec.pre6 enc Try.prog Try.f9 Rows.fnExactEqualVerdictsRow.domain false) (Rows.fnExactEqualVerdictsSpec.post enc Try.prog Try.f9 false true false false) := by
  refine returnsInHanded_of_change (C := Try.checked) own started (by kernel_rfl) Try.func9
    (ChangeSpec.witness6 (enc := enc) (C := Try.checked) false ⟨#[], #[.agg #[.int .i64 0, .int .i64 0, .int .i64 0, .int .i64 0, .int .i64 0, .slice none 0 0, .int .i64 0, .int .i64 0, .int .i64 0, .int .i64 0, .int .i64 0, .slice none 0 0], .agg #[.int .i64 0, .int .i64 0, .int .i64 0, .int .i64 0, .int .i64 0, .slice none 0 0, .int .i64 0, .int .i64 0, .int .i64 0, .int .i64 0, .int .i64 0, .slice none 0 0]], []⟩ 8 (by kernel_rfl) (by kernel_rfl) (by kernel_rfl) (by kernel_rfl)) ?_
  intro W base args ds gs before hval0 hW hcnd _
  have hval : ∀ (j : Nat) t v, Try.f9.params[j]? = some t → args[j]? = some v → Value.okWide Try.prog W .any base t v := hval0
  have hW' := hW
  obtain ⟨p, q, hA0, hV, rfl, hfz, hnd⟩ := hW
  have hA : DataW.TrodAll enc Try.prog W 0 (fun _ => true) true Try.f9.params.toList args.toList ds p := hA0
  rw [Try.params9] at hA hval
  obtain ⟨v0, vs0, d0, ds0, p0, q0, hargs, rfl, rfl, h0, r0⟩ := trodAll_cons hA
  obtain ⟨v1, vs1, d1, ds1, p1, q1, rfl, rfl, rfl, h1, r1⟩ := trodAll_cons r0
  obtain ⟨rfl, rfl, rfl⟩ := trodAll_nil r1
  obtain rfl : args = #[v0, v1] := by cases args; simp_all
  obtain ⟨rfl, rfl⟩ := trodVars_none hV
  have k0 := h0
  have lt0 : ∀ x ∈ p0, x.block < W.heap.size := by obtain ⟨m, hm⟩ := k0; exact DataW.trod_lt m _ _ _ hm
  obtain ⟨cs0, rfl, hcs0, hl0⟩ := lf_open 12 Try.underlying49 (by kernel_rfl) (hval 0 49 v0 rfl rfl) h0
  have L0_0 := lf_field (a := 0) (b := 1) 0 _ Try.underlying49 rfl rfl (by kernel_rfl) (by decide) hl0
  obtain ⟨_, _, _, e0_0, q0_0⟩ := lf_leaf (o := 0) (by rw [hcs0]; decide) L0_0
  have L0_1 := lf_field (a := 1) (b := 1) 1 _ Try.underlying49 rfl rfl (by kernel_rfl) (by decide) hl0
  obtain ⟨_, _, _, e0_1, q0_1⟩ := lf_leaf (o := 1) (by rw [hcs0]; decide) L0_1
  have L0_2 := lf_field (a := 2) (b := 10) 2 _ Try.underlying49 rfl rfl (by kernel_rfl) (by decide) hl0
  have L0_2x0 := lf_field (a := 0) (b := 1) 0 _ Try.underlying36 rfl rfl (by kernel_rfl) (by decide) L0_2
  obtain ⟨_, _, _, e0_2, q0_2⟩ := lf_leaf (o := 2) (by rw [hcs0]; decide) L0_2x0
  have L0_2x1 := lf_field (a := 1) (b := 1) 1 _ Try.underlying36 rfl rfl (by kernel_rfl) (by decide) L0_2
  obtain ⟨_, _, _, e0_3, q0_3⟩ := lf_leaf (o := 3) (by rw [hcs0]; decide) L0_2x1
  have L0_2x2 := lf_field (a := 2) (b := 1) 2 _ Try.underlying36 rfl rfl (by kernel_rfl) (by decide) L0_2
  obtain ⟨_, _, _, e0_4, q0_4⟩ := lf_leaf (o := 4) (by rw [hcs0]; decide) L0_2x2
  have L0_2x3 := lf_field (a := 3) (b := 1) 3 _ Try.underlying36 rfl rfl (by kernel_rfl) (by decide) L0_2
  have L0_2x3x0 := lf_field (a := 0) (b := 1) 0 _ Try.underlying24 rfl rfl (by kernel_rfl) (by decide) L0_2x3
  obtain ⟨_, _, _, e0_5, q0_5⟩ := lf_leaf (o := 5) (by rw [hcs0]; decide) L0_2x3x0
  have L0_2x4 := lf_field (a := 4) (b := 1) 4 _ Try.underlying36 rfl rfl (by kernel_rfl) (by decide) L0_2
  obtain ⟨_, _, _, e0_6, q0_6⟩ := lf_leaf (o := 6) (by rw [hcs0]; decide) L0_2x4
  have L0_2x5 := lf_field (a := 5) (b := 1) 5 _ Try.underlying36 rfl rfl (by kernel_rfl) (by decide) L0_2
  obtain ⟨_, _, _, e0_7, q0_7⟩ := lf_leaf (o := 7) (by rw [hcs0]; decide) L0_2x5
  have L0_2x6 := lf_field (a := 6) (b := 1) 6 _ Try.underlying36 rfl rfl (by kernel_rfl) (by decide) L0_2
  obtain ⟨_, _, _, e0_8, q0_8⟩ := lf_leaf (o := 8) (by rw [hcs0]; decide) L0_2x6
  have L0_2x7 := lf_field (a := 7) (b := 1) 7 _ Try.underlying36 rfl rfl (by kernel_rfl) (by decide) L0_2
  obtain ⟨_, _, _, e0_9, q0_9⟩ := lf_leaf (o := 9) (by rw [hcs0]; decide) L0_2x7
  have L0_2x8 := lf_field (a := 8) (b := 1) 8 _ Try.underlying36 rfl rfl (by kernel_rfl) (by decide) L0_2
  obtain ⟨_, _, _, e0_10, q0_10⟩ := lf_leaf (o := 10) (by rw [hcs0]; decide) L0_2x8
  have L0_2x9 := lf_field (a := 9) (b := 1) 9 _ Try.underlying36 rfl rfl (by kernel_rfl) (by decide) L0_2
  obtain ⟨_, _, _, e0_11, q0_11⟩ := lf_leaf (o := 11) (by rw [hcs0]; decide) L0_2x9
  obtain ⟨a0_0, rfl, w0_0⟩ := one_int Try.underlying3 q0_0
  obtain ⟨a0_1, rfl, w0_1⟩ := one_int Try.underlying3 q0_1
  obtain ⟨a0_2, rfl, w0_2⟩ := one_int Try.underlying3 q0_2
  obtain ⟨a0_3, rfl, w0_3⟩ := one_int Try.underlying3 q0_3
  obtain ⟨a0_4, rfl, w0_4⟩ := one_int Try.underlying3 q0_4
  obtain ⟨a0_5, n0_5, c0_5, z0_5, rfl, m0_5, h0_5, f0_5⟩ := openPathPartS q0_5
  obtain ⟨a0_6, rfl, w0_6⟩ := one_int Try.underlying3 q0_6
  obtain ⟨a0_7, rfl, w0_7⟩ := one_int Try.underlying3 q0_7
  obtain ⟨a0_8, rfl, w0_8⟩ := one_int Try.underlying3 q0_8
  obtain ⟨a0_9, rfl, w0_9⟩ := one_int Try.underlying3 q0_9
  obtain ⟨a0_10, rfl, w0_10⟩ := one_int Try.underlying3 q0_10
  obtain ⟨a0_11, n0_11, c0_11, z0_11, rfl, m0_11, h0_11, f0_11⟩ := openByteS q0_11
  obtain rfl : cs0 = #[.int .i64 a0_0, .int .i64 a0_1, .int .i64 a0_2, .int .i64 a0_3, .int .i64 a0_4, .slice a0_5 n0_5 c0_5, .int .i64 a0_6, .int .i64 a0_7, .int .i64 a0_8, .int .i64 a0_9, .int .i64 a0_10, .slice a0_11 n0_11 c0_11] := arr_of [.int .i64 a0_0, .int .i64 a0_1, .int .i64 a0_2, .int .i64 a0_3, .int .i64 a0_4, .slice a0_5 n0_5 c0_5, .int .i64 a0_6, .int .i64 a0_7, .int .i64 a0_8, .int .i64 a0_9, .int .i64 a0_10, .slice a0_11 n0_11 c0_11] hcs0 (fun j hj => by match j, hj with | 0, _ => exact e0_0 | 1, _ => exact e0_1 | 2, _ => exact e0_2 | 3, _ => exact e0_3 | 4, _ => exact e0_4 | 5, _ => exact e0_5 | 6, _ => exact e0_6 | 7, _ => exact e0_7 | 8, _ => exact e0_8 | 9, _ => exact e0_9 | 10, _ => exact e0_10 | 11, _ => exact e0_11)
  have k1 := h1
  have lt1 : ∀ x ∈ p1, x.block < W.heap.size := by obtain ⟨m, hm⟩ := k1; exact DataW.trod_lt m _ _ _ hm
  obtain ⟨cs1, rfl, hcs1, hl1⟩ := lf_open 12 Try.underlying49 (by kernel_rfl) (hval 1 49 v1 rfl rfl) h1
  have L1_0 := lf_field (a := 0) (b := 1) 0 _ Try.underlying49 rfl rfl (by kernel_rfl) (by decide) hl1
  obtain ⟨_, _, _, e1_0, q1_0⟩ := lf_leaf (o := 0) (by rw [hcs1]; decide) L1_0
  have L1_1 := lf_field (a := 1) (b := 1) 1 _ Try.underlying49 rfl rfl (by kernel_rfl) (by decide) hl1
  obtain ⟨_, _, _, e1_1, q1_1⟩ := lf_leaf (o := 1) (by rw [hcs1]; decide) L1_1
  have L1_2 := lf_field (a := 2) (b := 10) 2 _ Try.underlying49 rfl rfl (by kernel_rfl) (by decide) hl1
  have L1_2x0 := lf_field (a := 0) (b := 1) 0 _ Try.underlying36 rfl rfl (by kernel_rfl) (by decide) L1_2
  obtain ⟨_, _, _, e1_2, q1_2⟩ := lf_leaf (o := 2) (by rw [hcs1]; decide) L1_2x0
  have L1_2x1 := lf_field (a := 1) (b := 1) 1 _ Try.underlying36 rfl rfl (by kernel_rfl) (by decide) L1_2
  obtain ⟨_, _, _, e1_3, q1_3⟩ := lf_leaf (o := 3) (by rw [hcs1]; decide) L1_2x1
  have L1_2x2 := lf_field (a := 2) (b := 1) 2 _ Try.underlying36 rfl rfl (by kernel_rfl) (by decide) L1_2
  obtain ⟨_, _, _, e1_4, q1_4⟩ := lf_leaf (o := 4) (by rw [hcs1]; decide) L1_2x2
  have L1_2x3 := lf_field (a := 3) (b := 1) 3 _ Try.underlying36 rfl rfl (by kernel_rfl) (by decide) L1_2
  have L1_2x3x0 := lf_field (a := 0) (b := 1) 0 _ Try.underlying24 rfl rfl (by kernel_rfl) (by decide) L1_2x3
  obtain ⟨_, _, _, e1_5, q1_5⟩ := lf_leaf (o := 5) (by rw [hcs1]; decide) L1_2x3x0
  have L1_2x4 := lf_field (a := 4) (b := 1) 4 _ Try.underlying36 rfl rfl (by kernel_rfl) (by decide) L1_2
  obtain ⟨_, _, _, e1_6, q1_6⟩ := lf_leaf (o := 6) (by rw [hcs1]; decide) L1_2x4
  have L1_2x5 := lf_field (a := 5) (b := 1) 5 _ Try.underlying36 rfl rfl (by kernel_rfl) (by decide) L1_2
  obtain ⟨_, _, _, e1_7, q1_7⟩ := lf_leaf (o := 7) (by rw [hcs1]; decide) L1_2x5
  have L1_2x6 := lf_field (a := 6) (b := 1) 6 _ Try.underlying36 rfl rfl (by kernel_rfl) (by decide) L1_2
  obtain ⟨_, _, _, e1_8, q1_8⟩ := lf_leaf (o := 8) (by rw [hcs1]; decide) L1_2x6
  have L1_2x7 := lf_field (a := 7) (b := 1) 7 _ Try.underlying36 rfl rfl (by kernel_rfl) (by decide) L1_2
  obtain ⟨_, _, _, e1_9, q1_9⟩ := lf_leaf (o := 9) (by rw [hcs1]; decide) L1_2x7
  have L1_2x8 := lf_field (a := 8) (b := 1) 8 _ Try.underlying36 rfl rfl (by kernel_rfl) (by decide) L1_2
  obtain ⟨_, _, _, e1_10, q1_10⟩ := lf_leaf (o := 10) (by rw [hcs1]; decide) L1_2x8
  have L1_2x9 := lf_field (a := 9) (b := 1) 9 _ Try.underlying36 rfl rfl (by kernel_rfl) (by decide) L1_2
  obtain ⟨_, _, _, e1_11, q1_11⟩ := lf_leaf (o := 11) (by rw [hcs1]; decide) L1_2x9
  obtain ⟨a1_0, rfl, w1_0⟩ := one_int Try.underlying3 q1_0
  obtain ⟨a1_1, rfl, w1_1⟩ := one_int Try.underlying3 q1_1
  obtain ⟨a1_2, rfl, w1_2⟩ := one_int Try.underlying3 q1_2
  obtain ⟨a1_3, rfl, w1_3⟩ := one_int Try.underlying3 q1_3
  obtain ⟨a1_4, rfl, w1_4⟩ := one_int Try.underlying3 q1_4
  obtain ⟨a1_5, n1_5, c1_5, z1_5, rfl, m1_5, h1_5, f1_5⟩ := openPathPartS q1_5
  obtain ⟨a1_6, rfl, w1_6⟩ := one_int Try.underlying3 q1_6
  obtain ⟨a1_7, rfl, w1_7⟩ := one_int Try.underlying3 q1_7
  obtain ⟨a1_8, rfl, w1_8⟩ := one_int Try.underlying3 q1_8
  obtain ⟨a1_9, rfl, w1_9⟩ := one_int Try.underlying3 q1_9
  obtain ⟨a1_10, rfl, w1_10⟩ := one_int Try.underlying3 q1_10
  obtain ⟨a1_11, n1_11, c1_11, z1_11, rfl, m1_11, h1_11, f1_11⟩ := openByteS q1_11
  obtain rfl : cs1 = #[.int .i64 a1_0, .int .i64 a1_1, .int .i64 a1_2, .int .i64 a1_3, .int .i64 a1_4, .slice a1_5 n1_5 c1_5, .int .i64 a1_6, .int .i64 a1_7, .int .i64 a1_8, .int .i64 a1_9, .int .i64 a1_10, .slice a1_11 n1_11 c1_11] := arr_of [.int .i64 a1_0, .int .i64 a1_1, .int .i64 a1_2, .int .i64 a1_3, .int .i64 a1_4, .slice a1_5 n1_5 c1_5, .int .i64 a1_6, .int .i64 a1_7, .int .i64 a1_8, .int .i64 a1_9, .int .i64 a1_10, .slice a1_11 n1_11 c1_11] hcs1 (fun j hj => by match j, hj with | 0, _ => exact e1_0 | 1, _ => exact e1_1 | 2, _ => exact e1_2 | 3, _ => exact e1_3 | 4, _ => exact e1_4 | 5, _ => exact e1_5 | 6, _ => exact e1_6 | 7, _ => exact e1_7 | 8, _ => exact e1_8 | 9, _ => exact e1_9 | 10, _ => exact e1_10 | 11, _ => exact e1_11)
  clear hA0 hval0
  refine (walk a0_0 a0_1 a0_2 a0_3 a0_4 a0_5 n0_5 c0_5 z0_5 a0_6 a0_7 a0_8 a0_9 a0_10 a0_11 n0_11 c0_11 z0_11 a1_0 a1_1 a1_2 a1_3 a1_4 a1_5 n1_5 c1_5 z1_5 a1_6 a1_7 a1_8 a1_9 a1_10 a1_11 n1_11 c1_11 z1_11 W w0_0 w0_1 w0_2 w0_3 w0_4 h0_5 m0_5 f0_5 w0_6 w0_7 w0_8 w0_9 w0_10 h0_11 m0_11 f0_11 w1_0 w1_1 w1_2 w1_3 w1_4 h1_5 m1_5 f1_5 w1_6 w1_7 w1_8 w1_9 w1_10 h1_11 m1_11 f1_11).mono fun e W' ⟨he, bel⟩ => ?_
  subst he
  exact ⟨_, rfl, _, _, _, [], _, [], hW', trodAll_mk1 (shut_bool Try.underlying4 _), (trodAll_cons_mk (Below.trod laidOut (by kernel_rfl) (of_decide_eq_true (by kernel_rfl)) k0 bel lt0) (trodAll_cons_mk (Below.trod laidOut (by kernel_rfl) (of_decide_eq_true (by kernel_rfl)) k1 bel lt1) trodAll_mk0)), rfl, bel.frame _, fun h => by cases h⟩

theorem over : Rows.fnExactEqualVerdictsRow.holds Try.pinned (OpenSpec.ofChange Rows.fnExactEqualVerdictsSpec) :=
  OpenClaim.holds_of_wide 9 Try.f9 rfl rfl rfl rfl rfl rfl rfl ⟨rfl, rfl, rfl, rfl, rfl⟩ rfl rfl rfl rfl rfl (by kernel_rfl) Try.func9 (by kernel_rfl)
    (of_decide_eq_true (by kernel_rfl)) (by unfold Func.isWrapper; first | (rw [if_pos (by decide +kernel)]; kernel_rfl) | (rw [if_neg (by decide +kernel)]; exact ⟨rfl, rfl⟩))
    (fun os started H enc _ => lifted os started H enc)

theorem proved : Rows.FnExactEqualVerdictsSaid := over
#print axioms proved
end Go.Proofs.Ytbjfcjjfhnjaiaa.fnExactEqualVerdicts
