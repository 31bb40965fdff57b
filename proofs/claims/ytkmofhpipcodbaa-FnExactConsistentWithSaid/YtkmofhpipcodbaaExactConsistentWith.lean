
/- For every flow and every inbox, the law on ConsistentWith returns true; no further condition. -/
import Derived.Test.YtkmofhpipcodbaaRows
import Derived.WalkKit
import Derived.ProofKit
import Derived.OpenShut
import Derived.ShutString
import Derived.ChangeOld
import Derived.Below
import Derived.Test.YtkmofhpipcodbaaOMessage
import Derived.Test.YtkmofhpipcodbaaOPath
import Derived.Test.YtkmofhpipcodbaaORevocation
import Derived.Test.YtkmofhpipcodbaaZRevocation
import Derived.Test.YtkmofhpipcodbaaStruct
import Derived.Deep.RegionHeld3
import Derived.Test.YtkmofhpipcodbaaCons
namespace Go.Proofs.Ytkmofhpipcodbaa.fnExactConsistentWith
open Go.ChangeShapes Go.WideShapes Go.ChangeAt Go.RowKit
open Go.ChangeMaps (open_string shut_string)
set_option linter.unusedVariables false

theorem own : ownKnob Try.prog.godebug = none := by kernel_rfl
theorem laidOut : laidOutB Try.prog = true := by kernel_rfl

set_option maxRecDepth 100000 in
set_option maxHeartbeats 4000000 in
theorem walk (a0_0 : Int) (a0_1 : Int) (a0_2 : Int) (a0_3 : Int) (a0_4 : Option Addr) (n0_4 c0_4 : Nat) (z0_4 : List TMessage) (a0_5 : Option Addr) (n0_5 c0_5 : Nat) (z0_5 : List TPath) (a0_6 : Int) (a0_7 : Int) (a0_8 : Option Addr) (n0_8 c0_8 : Nat) (z0_8 : List TRevocation) (a1_0 : Int) (a1_1 : Int) (a1_2 : Int) (a1_3 : Option Addr) (n1_3 c1_3 : Nat) (z1_3 : List TMessage) (w : World) (w0_0 : (Lit.int .i64 a0_0).wf = true) (w0_1 : (Lit.int .i64 a0_1).wf = true) (w0_2 : (Lit.int .i64 a0_2).wf = true) (w0_3 : (Lit.int .i64 a0_3).wf = true) (h0_4 : HasMessage w w.heap.size a0_4 n0_4 z0_4) (m0_4 : n0_4 ≤ 9223372036854775807) (f0_4 : ∀ x ∈ z0_4, TMessage.fits x) (h0_5 : HasPath w w.heap.size a0_5 n0_5 z0_5) (m0_5 : n0_5 ≤ 9223372036854775807) (f0_5 : ∀ x ∈ z0_5, TPath.fits x) (w0_6 : (Lit.int .i64 a0_6).wf = true) (w0_7 : (Lit.int .i64 a0_7).wf = true) (h0_8 : HasRevocation w w.heap.size a0_8 n0_8 z0_8) (m0_8 : n0_8 ≤ 9223372036854775807) (f0_8 : ∀ x ∈ z0_8, TRevocation.fits x) (w1_0 : (Lit.int .i64 a1_0).wf = true) (w1_1 : (Lit.int .i64 a1_1).wf = true) (w1_2 : (Lit.int .i64 a1_2).wf = true) (h1_3 : HasMessage w w.heap.size a1_3 n1_3 z1_3) (m1_3 : n1_3 ≤ 9223372036854775807) (f1_3 : ∀ x ∈ z1_3, TMessage.fits x) :
    Calls Try.prog 8 #[.agg #[.int .i64 a0_0, .int .i64 a0_1, .int .i64 a0_2, .int .i64 a0_3, .slice a0_4 n0_4 c0_4, .slice a0_5 n0_5 c0_5, .int .i64 a0_6, .int .i64 a0_7, .slice a0_8 n0_8 c0_8], .agg #[.int .i64 a1_0, .int .i64 a1_1, .int .i64 a1_2, .slice a1_3 n1_3 c1_3]] w fun e w' => e = .returned (.bool true) ∧ Below w.heap.size w w' := by
  by_cases hbig0 : (1048576 : Int) < ((szMessage z0_4 n0_4 : Nat) : Int) + ((szPath z0_5 n0_5 : Nat) : Int) + (n0_8 : Int)
  · go_enter Try.func8, Try.ntmps8
    go_wp2_with fail
    have M0 : Mk0 w ((w.alloc (Obj.cells #[Value.int .i64 a0_0, Value.int .i64 a0_1, Value.int .i64 a0_2, Value.int .i64 a0_3, Value.slice a0_4 n0_4 c0_4, Value.slice a0_5 n0_5 c0_5, Value.int .i64 a0_6, Value.int .i64 a0_7, Value.slice a0_8 n0_8 c0_8] 77)).alloc (Obj.cells #[Value.int .i64 a1_0, Value.int .i64 a1_1, Value.int .i64 a1_2, Value.slice a1_3 n1_3 c1_3] 88)) := ((Mk.alloc w _).new _)
    have k0_0 : ((w.alloc (Obj.cells #[Value.int .i64 a0_0, Value.int .i64 a0_1, Value.int .i64 a0_2, Value.int .i64 a0_3, Value.slice a0_4 n0_4 c0_4, Value.slice a0_5 n0_5 c0_5, Value.int .i64 a0_6, Value.int .i64 a0_7, Value.slice a0_8 n0_8 c0_8] 77)).alloc (Obj.cells #[Value.int .i64 a1_0, Value.int .i64 a1_1, Value.int .i64 a1_2, Value.slice a1_3 n1_3 c1_3] 88)).cell? ⟨w.heap.size, 0, none⟩ = some (.int .i64 a0_0) := by simp [go_sem]
    have k0_1 : ((w.alloc (Obj.cells #[Value.int .i64 a0_0, Value.int .i64 a0_1, Value.int .i64 a0_2, Value.int .i64 a0_3, Value.slice a0_4 n0_4 c0_4, Value.slice a0_5 n0_5 c0_5, Value.int .i64 a0_6, Value.int .i64 a0_7, Value.slice a0_8 n0_8 c0_8] 77)).alloc (Obj.cells #[Value.int .i64 a1_0, Value.int .i64 a1_1, Value.int .i64 a1_2, Value.slice a1_3 n1_3 c1_3] 88)).cell? ⟨w.heap.size, 1, none⟩ = some (.int .i64 a0_1) := by simp [go_sem]
    have k0_2 : ((w.alloc (Obj.cells #[Value.int .i64 a0_0, Value.int .i64 a0_1, Value.int .i64 a0_2, Value.int .i64 a0_3, Value.slice a0_4 n0_4 c0_4, Value.slice a0_5 n0_5 c0_5, Value.int .i64 a0_6, Value.int .i64 a0_7, Value.slice a0_8 n0_8 c0_8] 77)).alloc (Obj.cells #[Value.int .i64 a1_0, Value.int .i64 a1_1, Value.int .i64 a1_2, Value.slice a1_3 n1_3 c1_3] 88)).cell? ⟨w.heap.size, 2, none⟩ = some (.int .i64 a0_2) := by simp [go_sem]
    have k0_3 : ((w.alloc (Obj.cells #[Value.int .i64 a0_0, Value.int .i64 a0_1, Value.int .i64 a0_2, Value.int .i64 a0_3, Value.slice a0_4 n0_4 c0_4, Value.slice a0_5 n0_5 c0_5, Value.int .i64 a0_6, Value.int .i64 a0_7, Value.slice a0_8 n0_8 c0_8] 77)).alloc (Obj.cells #[Value.int .i64 a1_0, Value.int .i64 a1_1, Value.int .i64 a1_2, Value.slice a1_3 n1_3 c1_3] 88)).cell? ⟨w.heap.size, 3, none⟩ = some (.int .i64 a0_3) := by simp [go_sem]
    have k0_4 : ((w.alloc (Obj.cells #[Value.int .i64 a0_0, Value.int .i64 a0_1, Value.int .i64 a0_2, Value.int .i64 a0_3, Value.slice a0_4 n0_4 c0_4, Value.slice a0_5 n0_5 c0_5, Value.int .i64 a0_6, Value.int .i64 a0_7, Value.slice a0_8 n0_8 c0_8] 77)).alloc (Obj.cells #[Value.int .i64 a1_0, Value.int .i64 a1_1, Value.int .i64 a1_2, Value.slice a1_3 n1_3 c1_3] 88)).cell? ⟨w.heap.size, 4, none⟩ = some (.slice a0_4 n0_4 c0_4) := by simp [go_sem]
    have k0_5 : ((w.alloc (Obj.cells #[Value.int .i64 a0_0, Value.int .i64 a0_1, Value.int .i64 a0_2, Value.int .i64 a0_3, Value.slice a0_4 n0_4 c0_4, Value.slice a0_5 n0_5 c0_5, Value.int .i64 a0_6, Value.int .i64 a0_7, Value.slice a0_8 n0_8 c0_8] 77)).alloc (Obj.cells #[Value.int .i64 a1_0, Value.int .i64 a1_1, Value.int .i64 a1_2, Value.slice a1_3 n1_3 c1_3] 88)).cell? ⟨w.heap.size, 5, none⟩ = some (.slice a0_5 n0_5 c0_5) := by simp [go_sem]
    have k0_6 : ((w.alloc (Obj.cells #[Value.int .i64 a0_0, Value.int .i64 a0_1, Value.int .i64 a0_2, Value.int .i64 a0_3, Value.slice a0_4 n0_4 c0_4, Value.slice a0_5 n0_5 c0_5, Value.int .i64 a0_6, Value.int .i64 a0_7, Value.slice a0_8 n0_8 c0_8] 77)).alloc (Obj.cells #[Value.int .i64 a1_0, Value.int .i64 a1_1, Value.int .i64 a1_2, Value.slice a1_3 n1_3 c1_3] 88)).cell? ⟨w.heap.size, 6, none⟩ = some (.int .i64 a0_6) := by simp [go_sem]
    have k0_7 : ((w.alloc (Obj.cells #[Value.int .i64 a0_0, Value.int .i64 a0_1, Value.int .i64 a0_2, Value.int .i64 a0_3, Value.slice a0_4 n0_4 c0_4, Value.slice a0_5 n0_5 c0_5, Value.int .i64 a0_6, Value.int .i64 a0_7, Value.slice a0_8 n0_8 c0_8] 77)).alloc (Obj.cells #[Value.int .i64 a1_0, Value.int .i64 a1_1, Value.int .i64 a1_2, Value.slice a1_3 n1_3 c1_3] 88)).cell? ⟨w.heap.size, 7, none⟩ = some (.int .i64 a0_7) := by simp [go_sem]
    have k0_8 : ((w.alloc (Obj.cells #[Value.int .i64 a0_0, Value.int .i64 a0_1, Value.int .i64 a0_2, Value.int .i64 a0_3, Value.slice a0_4 n0_4 c0_4, Value.slice a0_5 n0_5 c0_5, Value.int .i64 a0_6, Value.int .i64 a0_7, Value.slice a0_8 n0_8 c0_8] 77)).alloc (Obj.cells #[Value.int .i64 a1_0, Value.int .i64 a1_1, Value.int .i64 a1_2, Value.slice a1_3 n1_3 c1_3] 88)).cell? ⟨w.heap.size, 8, none⟩ = some (.slice a0_8 n0_8 c0_8) := by simp [go_sem]
    have k1_0 : ((w.alloc (Obj.cells #[Value.int .i64 a0_0, Value.int .i64 a0_1, Value.int .i64 a0_2, Value.int .i64 a0_3, Value.slice a0_4 n0_4 c0_4, Value.slice a0_5 n0_5 c0_5, Value.int .i64 a0_6, Value.int .i64 a0_7, Value.slice a0_8 n0_8 c0_8] 77)).alloc (Obj.cells #[Value.int .i64 a1_0, Value.int .i64 a1_1, Value.int .i64 a1_2, Value.slice a1_3 n1_3 c1_3] 88)).cell? ⟨w.heap.size + 1, 0, none⟩ = some (.int .i64 a1_0) := by simp [go_sem]
    have k1_1 : ((w.alloc (Obj.cells #[Value.int .i64 a0_0, Value.int .i64 a0_1, Value.int .i64 a0_2, Value.int .i64 a0_3, Value.slice a0_4 n0_4 c0_4, Value.slice a0_5 n0_5 c0_5, Value.int .i64 a0_6, Value.int .i64 a0_7, Value.slice a0_8 n0_8 c0_8] 77)).alloc (Obj.cells #[Value.int .i64 a1_0, Value.int .i64 a1_1, Value.int .i64 a1_2, Value.slice a1_3 n1_3 c1_3] 88)).cell? ⟨w.heap.size + 1, 1, none⟩ = some (.int .i64 a1_1) := by simp [go_sem]
    have k1_2 : ((w.alloc (Obj.cells #[Value.int .i64 a0_0, Value.int .i64 a0_1, Value.int .i64 a0_2, Value.int .i64 a0_3, Value.slice a0_4 n0_4 c0_4, Value.slice a0_5 n0_5 c0_5, Value.int .i64 a0_6, Value.int .i64 a0_7, Value.slice a0_8 n0_8 c0_8] 77)).alloc (Obj.cells #[Value.int .i64 a1_0, Value.int .i64 a1_1, Value.int .i64 a1_2, Value.slice a1_3 n1_3 c1_3] 88)).cell? ⟨w.heap.size + 1, 2, none⟩ = some (.int .i64 a1_2) := by simp [go_sem]
    have k1_3 : ((w.alloc (Obj.cells #[Value.int .i64 a0_0, Value.int .i64 a0_1, Value.int .i64 a0_2, Value.int .i64 a0_3, Value.slice a0_4 n0_4 c0_4, Value.slice a0_5 n0_5 c0_5, Value.int .i64 a0_6, Value.int .i64 a0_7, Value.slice a0_8 n0_8 c0_8] 77)).alloc (Obj.cells #[Value.int .i64 a1_0, Value.int .i64 a1_1, Value.int .i64 a1_2, Value.slice a1_3 n1_3 c1_3] 88)).cell? ⟨w.heap.size + 1, 3, none⟩ = some (.slice a1_3 n1_3 c1_3) := by simp [go_sem]
    refine (szFlowB _ _ _ _ _ _ _ _ _ _ _ _ _ _ _ z0_4 z0_5 w.heap.size _ _ (h0_4.mk M0 (Nat.le_refl _) (.inr (Nat.le_refl _))) (h0_5.mk M0 (Nat.le_refl _) (.inr (Nat.le_refl _))) M0.size (by omega) (by omega) (by omega) m0_4 m0_5 m0_8).mono ?_
    rintro e w1 ⟨rfl, m1⟩
    go_wp2_with fail
    go_ret
    exact ⟨rfl, (M0.trans m1).below0⟩
  have hn0 : ((szMessage z0_4 n0_4 : Nat) : Int) + ((szPath z0_5 n0_5 : Nat) : Int) + (n0_8 : Int) ≤ (1048576 : Int) := by omega
  clear hbig0
  by_cases hbig1 : (1048576 - ((szMessage z0_4 n0_4 : Nat) : Int) - ((szPath z0_5 n0_5 : Nat) : Int) - n0_8 : Int) < ((szMessage z1_3 n1_3 : Nat) : Int)
  · go_enter Try.func8, Try.ntmps8
    go_wp2_with fail
    have M0 : Mk0 w ((w.alloc (Obj.cells #[Value.int .i64 a0_0, Value.int .i64 a0_1, Value.int .i64 a0_2, Value.int .i64 a0_3, Value.slice a0_4 n0_4 c0_4, Value.slice a0_5 n0_5 c0_5, Value.int .i64 a0_6, Value.int .i64 a0_7, Value.slice a0_8 n0_8 c0_8] 77)).alloc (Obj.cells #[Value.int .i64 a1_0, Value.int .i64 a1_1, Value.int .i64 a1_2, Value.slice a1_3 n1_3 c1_3] 88)) := ((Mk.alloc w _).new _)
    have k0_0 : ((w.alloc (Obj.cells #[Value.int .i64 a0_0, Value.int .i64 a0_1, Value.int .i64 a0_2, Value.int .i64 a0_3, Value.slice a0_4 n0_4 c0_4, Value.slice a0_5 n0_5 c0_5, Value.int .i64 a0_6, Value.int .i64 a0_7, Value.slice a0_8 n0_8 c0_8] 77)).alloc (Obj.cells #[Value.int .i64 a1_0, Value.int .i64 a1_1, Value.int .i64 a1_2, Value.slice a1_3 n1_3 c1_3] 88)).cell? ⟨w.heap.size, 0, none⟩ = some (.int .i64 a0_0) := by simp [go_sem]
    have k0_1 : ((w.alloc (Obj.cells #[Value.int .i64 a0_0, Value.int .i64 a0_1, Value.int .i64 a0_2, Value.int .i64 a0_3, Value.slice a0_4 n0_4 c0_4, Value.slice a0_5 n0_5 c0_5, Value.int .i64 a0_6, Value.int .i64 a0_7, Value.slice a0_8 n0_8 c0_8] 77)).alloc (Obj.cells #[Value.int .i64 a1_0, Value.int .i64 a1_1, Value.int .i64 a1_2, Value.slice a1_3 n1_3 c1_3] 88)).cell? ⟨w.heap.size, 1, none⟩ = some (.int .i64 a0_1) := by simp [go_sem]
    have k0_2 : ((w.alloc (Obj.cells #[Value.int .i64 a0_0, Value.int .i64 a0_1, Value.int .i64 a0_2, Value.int .i64 a0_3, Value.slice a0_4 n0_4 c0_4, Value.slice a0_5 n0_5 c0_5, Value.int .i64 a0_6, Value.int .i64 a0_7, Value.slice a0_8 n0_8 c0_8] 77)).alloc (Obj.cells #[Value.int .i64 a1_0, Value.int .i64 a1_1, Value.int .i64 a1_2, Value.slice a1_3 n1_3 c1_3] 88)).cell? ⟨w.heap.size, 2, none⟩ = some (.int .i64 a0_2) := by simp [go_sem]
    have k0_3 : ((w.alloc (Obj.cells #[Value.int .i64 a0_0, Value.int .i64 a0_1, Value.int .i64 a0_2, Value.int .i64 a0_3, Value.slice a0_4 n0_4 c0_4, Value.slice a0_5 n0_5 c0_5, Value.int .i64 a0_6, Value.int .i64 a0_7, Value.slice a0_8 n0_8 c0_8] 77)).alloc (Obj.cells #[Value.int .i64 a1_0, Value.int .i64 a1_1, Value.int .i64 a1_2, Value.slice a1_3 n1_3 c1_3] 88)).cell? ⟨w.heap.size, 3, none⟩ = some (.int .i64 a0_3) := by simp [go_sem]
    have k0_4 : ((w.alloc (Obj.cells #[Value.int .i64 a0_0, Value.int .i64 a0_1, Value.int .i64 a0_2, Value.int .i64 a0_3, Value.slice a0_4 n0_4 c0_4, Value.slice a0_5 n0_5 c0_5, Value.int .i64 a0_6, Value.int .i64 a0_7, Value.slice a0_8 n0_8 c0_8] 77)).alloc (Obj.cells #[Value.int .i64 a1_0, Value.int .i64 a1_1, Value.int .i64 a1_2, Value.slice a1_3 n1_3 c1_3] 88)).cell? ⟨w.heap.size, 4, none⟩ = some (.slice a0_4 n0_4 c0_4) := by simp [go_sem]
    have k0_5 : ((w.alloc (Obj.cells #[Value.int .i64 a0_0, Value.int .i64 a0_1, Value.int .i64 a0_2, Value.int .i64 a0_3, Value.slice a0_4 n0_4 c0_4, Value.slice a0_5 n0_5 c0_5, Value.int .i64 a0_6, Value.int .i64 a0_7, Value.slice a0_8 n0_8 c0_8] 77)).alloc (Obj.cells #[Value.int .i64 a1_0, Value.int .i64 a1_1, Value.int .i64 a1_2, Value.slice a1_3 n1_3 c1_3] 88)).cell? ⟨w.heap.size, 5, none⟩ = some (.slice a0_5 n0_5 c0_5) := by simp [go_sem]
    have k0_6 : ((w.alloc (Obj.cells #[Value.int .i64 a0_0, Value.int .i64 a0_1, Value.int .i64 a0_2, Value.int .i64 a0_3, Value.slice a0_4 n0_4 c0_4, Value.slice a0_5 n0_5 c0_5, Value.int .i64 a0_6, Value.int .i64 a0_7, Value.slice a0_8 n0_8 c0_8] 77)).alloc (Obj.cells #[Value.int .i64 a1_0, Value.int .i64 a1_1, Value.int .i64 a1_2, Value.slice a1_3 n1_3 c1_3] 88)).cell? ⟨w.heap.size, 6, none⟩ = some (.int .i64 a0_6) := by simp [go_sem]
    have k0_7 : ((w.alloc (Obj.cells #[Value.int .i64 a0_0, Value.int .i64 a0_1, Value.int .i64 a0_2, Value.int .i64 a0_3, Value.slice a0_4 n0_4 c0_4, Value.slice a0_5 n0_5 c0_5, Value.int .i64 a0_6, Value.int .i64 a0_7, Value.slice a0_8 n0_8 c0_8] 77)).alloc (Obj.cells #[Value.int .i64 a1_0, Value.int .i64 a1_1, Value.int .i64 a1_2, Value.slice a1_3 n1_3 c1_3] 88)).cell? ⟨w.heap.size, 7, none⟩ = some (.int .i64 a0_7) := by simp [go_sem]
    have k0_8 : ((w.alloc (Obj.cells #[Value.int .i64 a0_0, Value.int .i64 a0_1, Value.int .i64 a0_2, Value.int .i64 a0_3, Value.slice a0_4 n0_4 c0_4, Value.slice a0_5 n0_5 c0_5, Value.int .i64 a0_6, Value.int .i64 a0_7, Value.slice a0_8 n0_8 c0_8] 77)).alloc (Obj.cells #[Value.int .i64 a1_0, Value.int .i64 a1_1, Value.int .i64 a1_2, Value.slice a1_3 n1_3 c1_3] 88)).cell? ⟨w.heap.size, 8, none⟩ = some (.slice a0_8 n0_8 c0_8) := by simp [go_sem]
    have k1_0 : ((w.alloc (Obj.cells #[Value.int .i64 a0_0, Value.int .i64 a0_1, Value.int .i64 a0_2, Value.int .i64 a0_3, Value.slice a0_4 n0_4 c0_4, Value.slice a0_5 n0_5 c0_5, Value.int .i64 a0_6, Value.int .i64 a0_7, Value.slice a0_8 n0_8 c0_8] 77)).alloc (Obj.cells #[Value.int .i64 a1_0, Value.int .i64 a1_1, Value.int .i64 a1_2, Value.slice a1_3 n1_3 c1_3] 88)).cell? ⟨w.heap.size + 1, 0, none⟩ = some (.int .i64 a1_0) := by simp [go_sem]
    have k1_1 : ((w.alloc (Obj.cells #[Value.int .i64 a0_0, Value.int .i64 a0_1, Value.int .i64 a0_2, Value.int .i64 a0_3, Value.slice a0_4 n0_4 c0_4, Value.slice a0_5 n0_5 c0_5, Value.int .i64 a0_6, Value.int .i64 a0_7, Value.slice a0_8 n0_8 c0_8] 77)).alloc (Obj.cells #[Value.int .i64 a1_0, Value.int .i64 a1_1, Value.int .i64 a1_2, Value.slice a1_3 n1_3 c1_3] 88)).cell? ⟨w.heap.size + 1, 1, none⟩ = some (.int .i64 a1_1) := by simp [go_sem]
    have k1_2 : ((w.alloc (Obj.cells #[Value.int .i64 a0_0, Value.int .i64 a0_1, Value.int .i64 a0_2, Value.int .i64 a0_3, Value.slice a0_4 n0_4 c0_4, Value.slice a0_5 n0_5 c0_5, Value.int .i64 a0_6, Value.int .i64 a0_7, Value.slice a0_8 n0_8 c0_8] 77)).alloc (Obj.cells #[Value.int .i64 a1_0, Value.int .i64 a1_1, Value.int .i64 a1_2, Value.slice a1_3 n1_3 c1_3] 88)).cell? ⟨w.heap.size + 1, 2, none⟩ = some (.int .i64 a1_2) := by simp [go_sem]
    have k1_3 : ((w.alloc (Obj.cells #[Value.int .i64 a0_0, Value.int .i64 a0_1, Value.int .i64 a0_2, Value.int .i64 a0_3, Value.slice a0_4 n0_4 c0_4, Value.slice a0_5 n0_5 c0_5, Value.int .i64 a0_6, Value.int .i64 a0_7, Value.slice a0_8 n0_8 c0_8] 77)).alloc (Obj.cells #[Value.int .i64 a1_0, Value.int .i64 a1_1, Value.int .i64 a1_2, Value.slice a1_3 n1_3 c1_3] 88)).cell? ⟨w.heap.size + 1, 3, none⟩ = some (.slice a1_3 n1_3 c1_3) := by simp [go_sem]
    refine (szFlowC _ _ _ _ _ _ _ _ _ _ _ _ _ _ _ z0_4 z0_5 w.heap.size _ _ (h0_4.mk M0 (Nat.le_refl _) (.inr (Nat.le_refl _))) (h0_5.mk M0 (Nat.le_refl _) (.inr (Nat.le_refl _))) M0.size (by omega) (by omega) (by omega)).mono ?_
    rintro e w1 ⟨l1, hl1, rfl, m1⟩
    have M1 := M0.trans m1
    replace k0_0 := m1.cellAt k0_0
    replace k0_1 := m1.cellAt k0_1
    replace k0_2 := m1.cellAt k0_2
    replace k0_3 := m1.cellAt k0_3
    replace k0_4 := m1.cellAt k0_4
    replace k0_5 := m1.cellAt k0_5
    replace k0_6 := m1.cellAt k0_6
    replace k0_7 := m1.cellAt k0_7
    replace k0_8 := m1.cellAt k0_8
    replace k1_0 := m1.cellAt k1_0
    replace k1_1 := m1.cellAt k1_1
    replace k1_2 := m1.cellAt k1_2
    replace k1_3 := m1.cellAt k1_3
    have z1 := m1.size
    simp only [World.size_alloc] at z1
    go_wp2_with fail
    refine (szInboxB _ _ _ _ _ _ z1_3 w.heap.size _ _ (h1_3.mk M1 (Nat.le_refl _) (.inr (Nat.le_refl _))) M1.size (by omega) (by omega) (by omega) m1_3).mono ?_
    rintro e w2 ⟨rfl, m2⟩
    go_wp2_with fail
    go_ret
    exact ⟨rfl, (M1.trans m2).below0⟩
  have hn1 : ((szMessage z1_3 n1_3 : Nat) : Int) ≤ (1048576 - ((szMessage z0_4 n0_4 : Nat) : Int) - ((szPath z0_5 n0_5 : Nat) : Int) - n0_8 : Int) := by omega
  clear hbig1
  go_enter Try.func8, Try.ntmps8
  go_wp2_with fail
  have M0 : Mk0 w ((w.alloc (Obj.cells #[Value.int .i64 a0_0, Value.int .i64 a0_1, Value.int .i64 a0_2, Value.int .i64 a0_3, Value.slice a0_4 n0_4 c0_4, Value.slice a0_5 n0_5 c0_5, Value.int .i64 a0_6, Value.int .i64 a0_7, Value.slice a0_8 n0_8 c0_8] 77)).alloc (Obj.cells #[Value.int .i64 a1_0, Value.int .i64 a1_1, Value.int .i64 a1_2, Value.slice a1_3 n1_3 c1_3] 88)) := ((Mk.alloc w _).new _)
  have k0_0 : ((w.alloc (Obj.cells #[Value.int .i64 a0_0, Value.int .i64 a0_1, Value.int .i64 a0_2, Value.int .i64 a0_3, Value.slice a0_4 n0_4 c0_4, Value.slice a0_5 n0_5 c0_5, Value.int .i64 a0_6, Value.int .i64 a0_7, Value.slice a0_8 n0_8 c0_8] 77)).alloc (Obj.cells #[Value.int .i64 a1_0, Value.int .i64 a1_1, Value.int .i64 a1_2, Value.slice a1_3 n1_3 c1_3] 88)).cell? ⟨w.heap.size, 0, none⟩ = some (.int .i64 a0_0) := by simp [go_sem]
  have k0_1 : ((w.alloc (Obj.cells #[Value.int .i64 a0_0, Value.int .i64 a0_1, Value.int .i64 a0_2, Value.int .i64 a0_3, Value.slice a0_4 n0_4 c0_4, Value.slice a0_5 n0_5 c0_5, Value.int .i64 a0_6, Value.int .i64 a0_7, Value.slice a0_8 n0_8 c0_8] 77)).alloc (Obj.cells #[Value.int .i64 a1_0, Value.int .i64 a1_1, Value.int .i64 a1_2, Value.slice a1_3 n1_3 c1_3] 88)).cell? ⟨w.heap.size, 1, none⟩ = some (.int .i64 a0_1) := by simp [go_sem]
  have k0_2 : ((w.alloc (Obj.cells #[Value.int .i64 a0_0, Value.int .i64 a0_1, Value.int .i64 a0_2, Value.int .i64 a0_3, Value.slice a0_4 n0_4 c0_4, Value.slice a0_5 n0_5 c0_5, Value.int .i64 a0_6, Value.int .i64 a0_7, Value.slice a0_8 n0_8 c0_8] 77)).alloc (Obj.cells #[Value.int .i64 a1_0, Value.int .i64 a1_1, Value.int .i64 a1_2, Value.slice a1_3 n1_3 c1_3] 88)).cell? ⟨w.heap.size, 2, none⟩ = some (.int .i64 a0_2) := by simp [go_sem]
  have k0_3 : ((w.alloc (Obj.cells #[Value.int .i64 a0_0, Value.int .i64 a0_1, Value.int .i64 a0_2, Value.int .i64 a0_3, Value.slice a0_4 n0_4 c0_4, Value.slice a0_5 n0_5 c0_5, Value.int .i64 a0_6, Value.int .i64 a0_7, Value.slice a0_8 n0_8 c0_8] 77)).alloc (Obj.cells #[Value.int .i64 a1_0, Value.int .i64 a1_1, Value.int .i64 a1_2, Value.slice a1_3 n1_3 c1_3] 88)).cell? ⟨w.heap.size, 3, none⟩ = some (.int .i64 a0_3) := by simp [go_sem]
  have k0_4 : ((w.alloc (Obj.cells #[Value.int .i64 a0_0, Value.int .i64 a0_1, Value.int .i64 a0_2, Value.int .i64 a0_3, Value.slice a0_4 n0_4 c0_4, Value.slice a0_5 n0_5 c0_5, Value.int .i64 a0_6, Value.int .i64 a0_7, Value.slice a0_8 n0_8 c0_8] 77)).alloc (Obj.cells #[Value.int .i64 a1_0, Value.int .i64 a1_1, Value.int .i64 a1_2, Value.slice a1_3 n1_3 c1_3] 88)).cell? ⟨w.heap.size, 4, none⟩ = some (.slice a0_4 n0_4 c0_4) := by simp [go_sem]
  have k0_5 : ((w.alloc (Obj.cells #[Value.int .i64 a0_0, Value.int .i64 a0_1, Value.int .i64 a0_2, Value.int .i64 a0_3, Value.slice a0_4 n0_4 c0_4, Value.slice a0_5 n0_5 c0_5, Value.int .i64 a0_6, Value.int .i64 a0_7, Value.slice a0_8 n0_8 c0_8] 77)).alloc (Obj.cells #[Value.int .i64 a1_0, Value.int .i64 a1_1, Value.int .i64 a1_2, Value.slice a1_3 n1_3 c1_3] 88)).cell? ⟨w.heap.size, 5, none⟩ = some (.slice a0_5 n0_5 c0_5) := by simp [go_sem]
  have k0_6 : ((w.alloc (Obj.cells #[Value.int .i64 a0_0, Value.int .i64 a0_1, Value.int .i64 a0_2, Value.int .i64 a0_3, Value.slice a0_4 n0_4 c0_4, Value.slice a0_5 n0_5 c0_5, Value.int .i64 a0_6, Value.int .i64 a0_7, Value.slice a0_8 n0_8 c0_8] 77)).alloc (Obj.cells #[Value.int .i64 a1_0, Value.int .i64 a1_1, Value.int .i64 a1_2, Value.slice a1_3 n1_3 c1_3] 88)).cell? ⟨w.heap.size, 6, none⟩ = some (.int .i64 a0_6) := by simp [go_sem]
  have k0_7 : ((w.alloc (Obj.cells #[Value.int .i64 a0_0, Value.int .i64 a0_1, Value.int .i64 a0_2, Value.int .i64 a0_3, Value.slice a0_4 n0_4 c0_4, Value.slice a0_5 n0_5 c0_5, Value.int .i64 a0_6, Value.int .i64 a0_7, Value.slice a0_8 n0_8 c0_8] 77)).alloc (Obj.cells #[Value.int .i64 a1_0, Value.int .i64 a1_1, Value.int .i64 a1_2, Value.slice a1_3 n1_3 c1_3] 88)).cell? ⟨w.heap.size, 7, none⟩ = some (.int .i64 a0_7) := by simp [go_sem]
  have k0_8 : ((w.alloc (Obj.cells #[Value.int .i64 a0_0, Value.int .i64 a0_1, Value.int .i64 a0_2, Value.int .i64 a0_3, Value.slice a0_4 n0_4 c0_4, Value.slice a0_5 n0_5 c0_5, Value.int .i64 a0_6, Value.int .i64 a0_7, Value.slice a0_8 n0_8 c0_8] 77)).alloc (Obj.cells #[Value.int .i64 a1_0, Value.int .i64 a1_1, Value.int .i64 a1_2, Value.slice a1_3 n1_3 c1_3] 88)).cell? ⟨w.heap.size, 8, none⟩ = some (.slice a0_8 n0_8 c0_8) := by simp [go_sem]
  have k1_0 : ((w.alloc (Obj.cells #[Value.int .i64 a0_0, Value.int .i64 a0_1, Value.int .i64 a0_2, Value.int .i64 a0_3, Value.slice a0_4 n0_4 c0_4, Value.slice a0_5 n0_5 c0_5, Value.int .i64 a0_6, Value.int .i64 a0_7, Value.slice a0_8 n0_8 c0_8] 77)).alloc (Obj.cells #[Value.int .i64 a1_0, Value.int .i64 a1_1, Value.int .i64 a1_2, Value.slice a1_3 n1_3 c1_3] 88)).cell? ⟨w.heap.size + 1, 0, none⟩ = some (.int .i64 a1_0) := by simp [go_sem]
  have k1_1 : ((w.alloc (Obj.cells #[Value.int .i64 a0_0, Value.int .i64 a0_1, Value.int .i64 a0_2, Value.int .i64 a0_3, Value.slice a0_4 n0_4 c0_4, Value.slice a0_5 n0_5 c0_5, Value.int .i64 a0_6, Value.int .i64 a0_7, Value.slice a0_8 n0_8 c0_8] 77)).alloc (Obj.cells #[Value.int .i64 a1_0, Value.int .i64 a1_1, Value.int .i64 a1_2, Value.slice a1_3 n1_3 c1_3] 88)).cell? ⟨w.heap.size + 1, 1, none⟩ = some (.int .i64 a1_1) := by simp [go_sem]
  have k1_2 : ((w.alloc (Obj.cells #[Value.int .i64 a0_0, Value.int .i64 a0_1, Value.int .i64 a0_2, Value.int .i64 a0_3, Value.slice a0_4 n0_4 c0_4, Value.slice a0_5 n0_5 c0_5, Value.int .i64 a0_6, Value.int .i64 a0_7, Value.slice a0_8 n0_8 c0_8] 77)).alloc (Obj.cells #[Value.int .i64 a1_0, Value.int .i64 a1_1, Value.int .i64 a1_2, Value.slice a1_3 n1_3 c1_3] 88)).cell? ⟨w.heap.size + 1, 2, none⟩ = some (.int .i64 a1_2) := by simp [go_sem]
  have k1_3 : ((w.alloc (Obj.cells #[Value.int .i64 a0_0, Value.int .i64 a0_1, Value.int .i64 a0_2, Value.int .i64 a0_3, Value.slice a0_4 n0_4 c0_4, Value.slice a0_5 n0_5 c0_5, Value.int .i64 a0_6, Value.int .i64 a0_7, Value.slice a0_8 n0_8 c0_8] 77)).alloc (Obj.cells #[Value.int .i64 a1_0, Value.int .i64 a1_1, Value.int .i64 a1_2, Value.slice a1_3 n1_3 c1_3] 88)).cell? ⟨w.heap.size + 1, 3, none⟩ = some (.slice a1_3 n1_3 c1_3) := by simp [go_sem]
  refine (szFlowC _ _ _ _ _ _ _ _ _ _ _ _ _ _ _ z0_4 z0_5 w.heap.size _ _ (h0_4.mk M0 (Nat.le_refl _) (.inr (Nat.le_refl _))) (h0_5.mk M0 (Nat.le_refl _) (.inr (Nat.le_refl _))) M0.size (by omega) (by omega) (by omega)).mono ?_
  rintro e w1 ⟨l1, hl1, rfl, m1⟩
  have M1 := M0.trans m1
  replace k0_0 := m1.cellAt k0_0
  replace k0_1 := m1.cellAt k0_1
  replace k0_2 := m1.cellAt k0_2
  replace k0_3 := m1.cellAt k0_3
  replace k0_4 := m1.cellAt k0_4
  replace k0_5 := m1.cellAt k0_5
  replace k0_6 := m1.cellAt k0_6
  replace k0_7 := m1.cellAt k0_7
  replace k0_8 := m1.cellAt k0_8
  replace k1_0 := m1.cellAt k1_0
  replace k1_1 := m1.cellAt k1_1
  replace k1_2 := m1.cellAt k1_2
  replace k1_3 := m1.cellAt k1_3
  have z1 := m1.size
  simp only [World.size_alloc] at z1
  go_wp2_with fail
  refine (szInboxC _ _ _ _ _ _ z1_3 w.heap.size _ _ (h1_3.mk M1 (Nat.le_refl _) (.inr (Nat.le_refl _))) M1.size (by omega) (by omega) (by omega)).mono ?_
  rintro e w2 ⟨l2, hl2, rfl, m2⟩
  have M2 := M1.trans m2
  have z2 := m2.size
  replace k0_0 := m2.cellAt k0_0
  replace k0_1 := m2.cellAt k0_1
  replace k0_2 := m2.cellAt k0_2
  replace k0_3 := m2.cellAt k0_3
  replace k0_4 := m2.cellAt k0_4
  replace k0_5 := m2.cellAt k0_5
  replace k0_6 := m2.cellAt k0_6
  replace k0_7 := m2.cellAt k0_7
  replace k0_8 := m2.cellAt k0_8
  replace k1_0 := m2.cellAt k1_0
  replace k1_1 := m2.cellAt k1_1
  replace k1_2 := m2.cellAt k1_2
  replace k1_3 := m2.cellAt k1_3
  go_wp2_with fail
  have e1 : ∀ w', Mk0 w2 w' → HasMessage w' w.heap.size a0_4 n0_4 z0_4 := fun w' m => h0_4.mk (M2.trans m) (Nat.le_refl _) (.inr (Nat.le_refl _))
  have e2 : ∀ w', Mk0 w2 w' → HasPath w' w.heap.size a0_5 n0_5 z0_5 := fun w' m => h0_5.mk (M2.trans m) (Nat.le_refl _) (.inr (Nat.le_refl _))
  have e3 : ∀ w', Mk0 w2 w' → HasRevocation w' w.heap.size a0_8 n0_8 z0_8 := fun w' m => h0_8.mk (M2.trans m) (Nat.le_refl _) (.inr (Nat.le_refl _))
  have hN0_4 : szMessage z0_4 n0_4 ≤ 1048576 := by omega
  have hN0_5 : szPath z0_5 n0_5 ≤ 1048576 := by omega
  have hN0_8 : n0_8 ≤ 1048576 := by omega
  have e4 : ∀ w', Mk0 w2 w' → HasMessage w' w.heap.size a1_3 n1_3 z1_3 := fun w' m => h1_3.mk (M2.trans m) (Nat.le_refl _) (.inr (Nat.le_refl _))
  have hN1_3 : szMessage z1_3 n1_3 ≤ 1048576 := by omega
  go_region_held3 (fun w' => Mk0 w2 w' ∧ w'.cell? ⟨w.heap.size, 0, none⟩ = some (.int .i64 a0_0) ∧ w'.cell? ⟨w.heap.size, 1, none⟩ = some (.int .i64 a0_1) ∧ w'.cell? ⟨w.heap.size, 2, none⟩ = some (.int .i64 a0_2) ∧ w'.cell? ⟨w.heap.size, 3, none⟩ = some (.int .i64 a0_3) ∧ w'.cell? ⟨w.heap.size, 4, none⟩ = some (.slice a0_4 n0_4 c0_4) ∧ w'.cell? ⟨w.heap.size, 5, none⟩ = some (.slice a0_5 n0_5 c0_5) ∧ w'.cell? ⟨w.heap.size, 6, none⟩ = some (.int .i64 a0_6) ∧ w'.cell? ⟨w.heap.size, 7, none⟩ = some (.int .i64 a0_7) ∧ w'.cell? ⟨w.heap.size, 8, none⟩ = some (.slice a0_8 n0_8 c0_8) ∧ w'.cell? ⟨w.heap.size + 1, 0, none⟩ = some (.int .i64 a1_0) ∧ w'.cell? ⟨w.heap.size + 1, 1, none⟩ = some (.int .i64 a1_1) ∧ w'.cell? ⟨w.heap.size + 1, 2, none⟩ = some (.int .i64 a1_2) ∧ w'.cell? ⟨w.heap.size + 1, 3, none⟩ = some (.slice a1_3 n1_3 c1_3)) (first | exact ⟨Mk.drew1 _, k0_0, k0_1, k0_2, k0_3, k0_4, k0_5, k0_6, k0_7, k0_8, k1_0, k1_1, k1_2, k1_3⟩ | (obtain ⟨s0, s1, s2, s3, s4, s5, s6, s7, s8, s9, s10, s11, s12, s13⟩ := ‹Mk0 w2 _ ∧ _›; exact ⟨s0.trans mm, mm.cellAt s1, mm.cellAt s2, mm.cellAt s3, mm.cellAt s4, mm.cellAt s5, mm.cellAt s6, mm.cellAt s7, mm.cellAt s8, mm.cellAt s9, mm.cellAt s10, mm.cellAt s11, mm.cellAt s12, mm.cellAt s13⟩)) (first | (go_at_call 36; with_reducible refine (toFlowC a0_0 a0_1 a0_2 a0_3 a0_6 a0_7 a0_4 n0_4 c0_4 z0_4 a0_5 n0_5 c0_5 z0_5 a0_8 n0_8 c0_8 z0_8 w.heap.size _ (e1 _ (‹Mk0 w2 _ ∧ _›).1) (e2 _ (‹Mk0 w2 _ ∧ _›).1) (e3 _ (‹Mk0 w2 _ ∧ _›).1) (M2.trans (‹Mk0 w2 _ ∧ _›).1).size hN0_4 hN0_5 hN0_8).mono ?_; rintro e wc0 ⟨bc0_0, bc0_1, bc0_2, dc0_0, dc0_1, rfl, oc0_0, oc0_1, oc0_2, gc0_0, gc0_1, gc0_2, mc0⟩; have mm := mc0) | (go_at_call 41; with_reducible refine (toInboxC a1_0 a1_1 a1_2 a1_3 n1_3 c1_3 z1_3 w.heap.size _ (e4 _ (‹Mk0 w2 _ ∧ _›).1) (M2.trans (‹Mk0 w2 _ ∧ _›).1).size hN1_3).mono ?_; rintro e wc1 ⟨bc1_0, rfl, oc1_0, gc1_0, mc1⟩; have mm := mc1) | (go_at_call 40; refine (specCons a0_0 a0_1 a0_2 a0_3 a0_6 a0_7 a1_0 a1_1 a1_2 _ _ _ _ _ _ _ _ n1_3 n0_4 _ _ _ _ z1_3 z0_4 _ (by first | exact (oc1_0.has.mono (Nat.le_refl _)) | exact (oc1_0.has.mono (Nat.le_refl _)).mk mc0 (Nat.le_refl _) (.inr (Nat.le_refl _))) (by first | exact (oc0_0.has.mono (Nat.le_trans gc0_1 gc0_2)) | exact (oc0_0.has.mono (Nat.le_trans gc0_1 gc0_2)).mk mc1 (Nat.le_refl _) (.inr (Nat.le_refl _))) (by first | exact Nat.le_refl _ | exact mc0.size) (by first | exact Nat.le_refl _ | exact mc1.size) hN1_3 hN0_4 f1_3 f0_4 (Nat.le_refl _) (by omega)).mono ?_; rintro e wz3 ⟨rfl, mm⟩))
  all_goals (
    obtain ⟨m3, k0_0, k0_1, k0_2, k0_3, k0_4, k0_5, k0_6, k0_7, k0_8, k1_0, k1_1, k1_2, k1_3⟩ := ‹Mk0 w2 _ ∧ _›
    refine ‹∀ (a : Act) (w : World), _ → _› _ _ ?_
    clear e1 e2 e3 hN0_4 hN0_5 hN0_8 e4 hN1_3
    have M3 := M2.trans m3
    have z3 := m3.size
    go_wp2_with fail
    refine (toFlowC _ _ _ _ _ _ _ _ _ _ _ _ _ _ _ _ _ _ w.heap.size _ (h0_4.mk M3 (Nat.le_refl _) (.inr (Nat.le_refl _))) (h0_5.mk M3 (Nat.le_refl _) (.inr (Nat.le_refl _))) (h0_8.mk M3 (Nat.le_refl _) (.inr (Nat.le_refl _))) (by omega) (by omega) (by omega) (by omega)).mono ?_
    rintro e w4 ⟨b5, b6, b7, d8, d9, rfl, o10, o11, o12, g13, g14, g15, m4⟩
    have M4 := M3.trans m4
    have z4 := m4.size
    replace k0_0 := m4.cellAt k0_0
    replace k0_1 := m4.cellAt k0_1
    replace k0_2 := m4.cellAt k0_2
    replace k0_3 := m4.cellAt k0_3
    replace k0_4 := m4.cellAt k0_4
    replace k0_5 := m4.cellAt k0_5
    replace k0_6 := m4.cellAt k0_6
    replace k0_7 := m4.cellAt k0_7
    replace k0_8 := m4.cellAt k0_8
    replace k1_0 := m4.cellAt k1_0
    replace k1_1 := m4.cellAt k1_1
    replace k1_2 := m4.cellAt k1_2
    replace k1_3 := m4.cellAt k1_3
    have h16 := o10.has.mono (B' := w4.heap.size) (by omega)
    clear o10
    have h17 := o11.has.mono (B' := w4.heap.size) (by omega)
    clear o11
    have h18 := o12.has.mono (B' := w4.heap.size) (by omega)
    clear o12
    have yb19 : w.heap.size < w4.heap.size := by omega
    have yb20 : w.heap.size + 1 < w4.heap.size := by omega
    go_wp2_with fail
    have xx0_0 : (w4.alloc (Obj.cells #[Value.int .i64 a0_0, Value.int .i64 a0_1, Value.int .i64 a0_2, Value.int .i64 a0_3, Value.slice (some ⟨b5, 0, none⟩) n0_4 n0_4, Value.slice (some ⟨b6, 0, none⟩) n0_5 n0_5, Value.int .i64 a0_6, Value.int .i64 a0_7, Value.slice (some ⟨b7, 0, none⟩) n0_8 n0_8] 83)).cell? ⟨w4.heap.size, 0, none⟩ = some (.int .i64 a0_0) := by rw [World.cell?_alloc_at _ _ _ _ rfl]; rfl
    have xx0_1 : (w4.alloc (Obj.cells #[Value.int .i64 a0_0, Value.int .i64 a0_1, Value.int .i64 a0_2, Value.int .i64 a0_3, Value.slice (some ⟨b5, 0, none⟩) n0_4 n0_4, Value.slice (some ⟨b6, 0, none⟩) n0_5 n0_5, Value.int .i64 a0_6, Value.int .i64 a0_7, Value.slice (some ⟨b7, 0, none⟩) n0_8 n0_8] 83)).cell? ⟨w4.heap.size, 1, none⟩ = some (.int .i64 a0_1) := by rw [World.cell?_alloc_at _ _ _ _ rfl]; rfl
    have xx0_2 : (w4.alloc (Obj.cells #[Value.int .i64 a0_0, Value.int .i64 a0_1, Value.int .i64 a0_2, Value.int .i64 a0_3, Value.slice (some ⟨b5, 0, none⟩) n0_4 n0_4, Value.slice (some ⟨b6, 0, none⟩) n0_5 n0_5, Value.int .i64 a0_6, Value.int .i64 a0_7, Value.slice (some ⟨b7, 0, none⟩) n0_8 n0_8] 83)).cell? ⟨w4.heap.size, 2, none⟩ = some (.int .i64 a0_2) := by rw [World.cell?_alloc_at _ _ _ _ rfl]; rfl
    have xx0_3 : (w4.alloc (Obj.cells #[Value.int .i64 a0_0, Value.int .i64 a0_1, Value.int .i64 a0_2, Value.int .i64 a0_3, Value.slice (some ⟨b5, 0, none⟩) n0_4 n0_4, Value.slice (some ⟨b6, 0, none⟩) n0_5 n0_5, Value.int .i64 a0_6, Value.int .i64 a0_7, Value.slice (some ⟨b7, 0, none⟩) n0_8 n0_8] 83)).cell? ⟨w4.heap.size, 3, none⟩ = some (.int .i64 a0_3) := by rw [World.cell?_alloc_at _ _ _ _ rfl]; rfl
    have xx0_4 : (w4.alloc (Obj.cells #[Value.int .i64 a0_0, Value.int .i64 a0_1, Value.int .i64 a0_2, Value.int .i64 a0_3, Value.slice (some ⟨b5, 0, none⟩) n0_4 n0_4, Value.slice (some ⟨b6, 0, none⟩) n0_5 n0_5, Value.int .i64 a0_6, Value.int .i64 a0_7, Value.slice (some ⟨b7, 0, none⟩) n0_8 n0_8] 83)).cell? ⟨w4.heap.size, 4, none⟩ = some (.slice (some ⟨b5, 0, none⟩) n0_4 n0_4) := by rw [World.cell?_alloc_at _ _ _ _ rfl]; rfl
    have xx0_5 : (w4.alloc (Obj.cells #[Value.int .i64 a0_0, Value.int .i64 a0_1, Value.int .i64 a0_2, Value.int .i64 a0_3, Value.slice (some ⟨b5, 0, none⟩) n0_4 n0_4, Value.slice (some ⟨b6, 0, none⟩) n0_5 n0_5, Value.int .i64 a0_6, Value.int .i64 a0_7, Value.slice (some ⟨b7, 0, none⟩) n0_8 n0_8] 83)).cell? ⟨w4.heap.size, 5, none⟩ = some (.slice (some ⟨b6, 0, none⟩) n0_5 n0_5) := by rw [World.cell?_alloc_at _ _ _ _ rfl]; rfl
    have xx0_6 : (w4.alloc (Obj.cells #[Value.int .i64 a0_0, Value.int .i64 a0_1, Value.int .i64 a0_2, Value.int .i64 a0_3, Value.slice (some ⟨b5, 0, none⟩) n0_4 n0_4, Value.slice (some ⟨b6, 0, none⟩) n0_5 n0_5, Value.int .i64 a0_6, Value.int .i64 a0_7, Value.slice (some ⟨b7, 0, none⟩) n0_8 n0_8] 83)).cell? ⟨w4.heap.size, 6, none⟩ = some (.int .i64 a0_6) := by rw [World.cell?_alloc_at _ _ _ _ rfl]; rfl
    have xx0_7 : (w4.alloc (Obj.cells #[Value.int .i64 a0_0, Value.int .i64 a0_1, Value.int .i64 a0_2, Value.int .i64 a0_3, Value.slice (some ⟨b5, 0, none⟩) n0_4 n0_4, Value.slice (some ⟨b6, 0, none⟩) n0_5 n0_5, Value.int .i64 a0_6, Value.int .i64 a0_7, Value.slice (some ⟨b7, 0, none⟩) n0_8 n0_8] 83)).cell? ⟨w4.heap.size, 7, none⟩ = some (.int .i64 a0_7) := by rw [World.cell?_alloc_at _ _ _ _ rfl]; rfl
    have xx0_8 : (w4.alloc (Obj.cells #[Value.int .i64 a0_0, Value.int .i64 a0_1, Value.int .i64 a0_2, Value.int .i64 a0_3, Value.slice (some ⟨b5, 0, none⟩) n0_4 n0_4, Value.slice (some ⟨b6, 0, none⟩) n0_5 n0_5, Value.int .i64 a0_6, Value.int .i64 a0_7, Value.slice (some ⟨b7, 0, none⟩) n0_8 n0_8] 83)).cell? ⟨w4.heap.size, 8, none⟩ = some (.slice (some ⟨b7, 0, none⟩) n0_8 n0_8) := by rw [World.cell?_alloc_at _ _ _ _ rfl]; rfl
    have m5 := Mk.alloc w4 (Obj.cells #[Value.int .i64 a0_0, Value.int .i64 a0_1, Value.int .i64 a0_2, Value.int .i64 a0_3, Value.slice (some ⟨b5, 0, none⟩) n0_4 n0_4, Value.slice (some ⟨b6, 0, none⟩) n0_5 n0_5, Value.int .i64 a0_6, Value.int .i64 a0_7, Value.slice (some ⟨b7, 0, none⟩) n0_8 n0_8] 83)
    replace k0_0 := m5.cellAt k0_0
    replace k0_1 := m5.cellAt k0_1
    replace k0_2 := m5.cellAt k0_2
    replace k0_3 := m5.cellAt k0_3
    replace k0_4 := m5.cellAt k0_4
    replace k0_5 := m5.cellAt k0_5
    replace k0_6 := m5.cellAt k0_6
    replace k0_7 := m5.cellAt k0_7
    replace k0_8 := m5.cellAt k0_8
    replace k1_0 := m5.cellAt k1_0
    replace k1_1 := m5.cellAt k1_1
    replace k1_2 := m5.cellAt k1_2
    replace k1_3 := m5.cellAt k1_3
    replace h16 := h16.mk m5 (by omega) (.inr (Nat.le_refl _))
    replace h17 := h17.mk m5 (by omega) (.inr (Nat.le_refl _))
    replace h18 := h18.mk m5 (by omega) (.inr (Nat.le_refl _))
    have M5 := M4.trans m5
    have z5 := m5.size
    have zz5 : w4.heap.size < (w4.alloc (Obj.cells #[Value.int .i64 a0_0, Value.int .i64 a0_1, Value.int .i64 a0_2, Value.int .i64 a0_3, Value.slice (some ⟨b5, 0, none⟩) n0_4 n0_4, Value.slice (some ⟨b6, 0, none⟩) n0_5 n0_5, Value.int .i64 a0_6, Value.int .i64 a0_7, Value.slice (some ⟨b7, 0, none⟩) n0_8 n0_8] 83)).heap.size := by rw [World.size_alloc]; omega
    generalize (w4.alloc (Obj.cells #[Value.int .i64 a0_0, Value.int .i64 a0_1, Value.int .i64 a0_2, Value.int .i64 a0_3, Value.slice (some ⟨b5, 0, none⟩) n0_4 n0_4, Value.slice (some ⟨b6, 0, none⟩) n0_5 n0_5, Value.int .i64 a0_6, Value.int .i64 a0_7, Value.slice (some ⟨b7, 0, none⟩) n0_8 n0_8] 83)) = w5 at *
    refine (toInboxC _ _ _ _ _ _ _ w.heap.size _ (h1_3.mk M5 (Nat.le_refl _) (.inr (Nat.le_refl _))) (by omega) (by omega)).mono ?_
    rintro e w6 ⟨b21, rfl, o22, g23, m6⟩
    have M6 := M5.trans m6
    have z6 := m6.size
    replace k0_0 := m6.cellAt k0_0
    replace k0_1 := m6.cellAt k0_1
    replace k0_2 := m6.cellAt k0_2
    replace k0_3 := m6.cellAt k0_3
    replace k0_4 := m6.cellAt k0_4
    replace k0_5 := m6.cellAt k0_5
    replace k0_6 := m6.cellAt k0_6
    replace k0_7 := m6.cellAt k0_7
    replace k0_8 := m6.cellAt k0_8
    replace k1_0 := m6.cellAt k1_0
    replace k1_1 := m6.cellAt k1_1
    replace k1_2 := m6.cellAt k1_2
    replace k1_3 := m6.cellAt k1_3
    replace xx0_0 := m6.cellAt xx0_0
    replace xx0_1 := m6.cellAt xx0_1
    replace xx0_2 := m6.cellAt xx0_2
    replace xx0_3 := m6.cellAt xx0_3
    replace xx0_4 := m6.cellAt xx0_4
    replace xx0_5 := m6.cellAt xx0_5
    replace xx0_6 := m6.cellAt xx0_6
    replace xx0_7 := m6.cellAt xx0_7
    replace xx0_8 := m6.cellAt xx0_8
    replace h16 := h16.mk m6 (by omega) (.inr (Nat.le_refl _))
    replace h17 := h17.mk m6 (by omega) (.inr (Nat.le_refl _))
    replace h18 := h18.mk m6 (by omega) (.inr (Nat.le_refl _))
    have h24 := o22.has.mono (B' := w6.heap.size) (by omega)
    clear o22
    have yb25 : w.heap.size < w6.heap.size := by omega
    have yb26 : w.heap.size + 1 < w6.heap.size := by omega
    have yb27 : w4.heap.size < w6.heap.size := by omega
    go_wp2_with fail
    have xx1_0 : (w6.alloc (Obj.cells #[Value.int .i64 a1_0, Value.int .i64 a1_1, Value.int .i64 a1_2, Value.slice (some ⟨b21, 0, none⟩) n1_3 n1_3] 92)).cell? ⟨w6.heap.size, 0, none⟩ = some (.int .i64 a1_0) := by rw [World.cell?_alloc_at _ _ _ _ rfl]; rfl
    have xx1_1 : (w6.alloc (Obj.cells #[Value.int .i64 a1_0, Value.int .i64 a1_1, Value.int .i64 a1_2, Value.slice (some ⟨b21, 0, none⟩) n1_3 n1_3] 92)).cell? ⟨w6.heap.size, 1, none⟩ = some (.int .i64 a1_1) := by rw [World.cell?_alloc_at _ _ _ _ rfl]; rfl
    have xx1_2 : (w6.alloc (Obj.cells #[Value.int .i64 a1_0, Value.int .i64 a1_1, Value.int .i64 a1_2, Value.slice (some ⟨b21, 0, none⟩) n1_3 n1_3] 92)).cell? ⟨w6.heap.size, 2, none⟩ = some (.int .i64 a1_2) := by rw [World.cell?_alloc_at _ _ _ _ rfl]; rfl
    have xx1_3 : (w6.alloc (Obj.cells #[Value.int .i64 a1_0, Value.int .i64 a1_1, Value.int .i64 a1_2, Value.slice (some ⟨b21, 0, none⟩) n1_3 n1_3] 92)).cell? ⟨w6.heap.size, 3, none⟩ = some (.slice (some ⟨b21, 0, none⟩) n1_3 n1_3) := by rw [World.cell?_alloc_at _ _ _ _ rfl]; rfl
    have m7 := Mk.alloc w6 (Obj.cells #[Value.int .i64 a1_0, Value.int .i64 a1_1, Value.int .i64 a1_2, Value.slice (some ⟨b21, 0, none⟩) n1_3 n1_3] 92)
    replace k0_0 := m7.cellAt k0_0
    replace k0_1 := m7.cellAt k0_1
    replace k0_2 := m7.cellAt k0_2
    replace k0_3 := m7.cellAt k0_3
    replace k0_4 := m7.cellAt k0_4
    replace k0_5 := m7.cellAt k0_5
    replace k0_6 := m7.cellAt k0_6
    replace k0_7 := m7.cellAt k0_7
    replace k0_8 := m7.cellAt k0_8
    replace k1_0 := m7.cellAt k1_0
    replace k1_1 := m7.cellAt k1_1
    replace k1_2 := m7.cellAt k1_2
    replace k1_3 := m7.cellAt k1_3
    replace xx0_0 := m7.cellAt xx0_0
    replace xx0_1 := m7.cellAt xx0_1
    replace xx0_2 := m7.cellAt xx0_2
    replace xx0_3 := m7.cellAt xx0_3
    replace xx0_4 := m7.cellAt xx0_4
    replace xx0_5 := m7.cellAt xx0_5
    replace xx0_6 := m7.cellAt xx0_6
    replace xx0_7 := m7.cellAt xx0_7
    replace xx0_8 := m7.cellAt xx0_8
    replace h16 := h16.mk m7 (by omega) (.inr (Nat.le_refl _))
    replace h17 := h17.mk m7 (by omega) (.inr (Nat.le_refl _))
    replace h18 := h18.mk m7 (by omega) (.inr (Nat.le_refl _))
    replace h24 := h24.mk m7 (by omega) (.inr (Nat.le_refl _))
    have M7 := M6.trans m7
    have z7 := m7.size
    have zz7 : w6.heap.size < (w6.alloc (Obj.cells #[Value.int .i64 a1_0, Value.int .i64 a1_1, Value.int .i64 a1_2, Value.slice (some ⟨b21, 0, none⟩) n1_3 n1_3] 92)).heap.size := by rw [World.size_alloc]; omega
    generalize (w6.alloc (Obj.cells #[Value.int .i64 a1_0, Value.int .i64 a1_1, Value.int .i64 a1_2, Value.slice (some ⟨b21, 0, none⟩) n1_3 n1_3] 92)) = w7 at *
    have hN0_4 : szMessage z0_4 n0_4 ≤ 1048576 := by omega
    have hN0_5 : szPath z0_5 n0_5 ≤ 1048576 := by omega
    have hN0_8 : n0_8 ≤ 1048576 := by omega
    have hN1_3 : szMessage z1_3 n1_3 ≤ 1048576 := by omega
    refine (implCons a0_0 a0_1 a0_2 a0_3 a0_6 a0_7 a1_0 a1_1 a1_2 _ _ _ _ _ _ _ _ n1_3 n0_4 _ _ _ _ z1_3 z0_4 _ h24 h16 (by omega) (by omega) hN1_3 hN0_4 f1_3 f0_4 (Nat.le_refl _) (by omega)).mono ?_
    rintro e w8 ⟨rfl, m8⟩
    have M8 := M7.trans m8
    have z8 := m8.size
    replace k0_0 := m8.cellAt k0_0
    replace k0_1 := m8.cellAt k0_1
    replace k0_2 := m8.cellAt k0_2
    replace k0_3 := m8.cellAt k0_3
    replace k0_4 := m8.cellAt k0_4
    replace k0_5 := m8.cellAt k0_5
    replace k0_6 := m8.cellAt k0_6
    replace k0_7 := m8.cellAt k0_7
    replace k0_8 := m8.cellAt k0_8
    replace k1_0 := m8.cellAt k1_0
    replace k1_1 := m8.cellAt k1_1
    replace k1_2 := m8.cellAt k1_2
    replace k1_3 := m8.cellAt k1_3
    replace xx0_0 := m8.cellAt xx0_0
    replace xx0_1 := m8.cellAt xx0_1
    replace xx0_2 := m8.cellAt xx0_2
    replace xx0_3 := m8.cellAt xx0_3
    replace xx0_4 := m8.cellAt xx0_4
    replace xx0_5 := m8.cellAt xx0_5
    replace xx0_6 := m8.cellAt xx0_6
    replace xx0_7 := m8.cellAt xx0_7
    replace xx0_8 := m8.cellAt xx0_8
    replace xx1_0 := m8.cellAt xx1_0
    replace xx1_1 := m8.cellAt xx1_1
    replace xx1_2 := m8.cellAt xx1_2
    replace xx1_3 := m8.cellAt xx1_3
    replace h16 := h16.mk m8 (by omega) (.inr (Nat.le_refl _))
    replace h17 := h17.mk m8 (by omega) (.inr (Nat.le_refl _))
    replace h18 := h18.mk m8 (by omega) (.inr (Nat.le_refl _))
    replace h24 := h24.mk m8 (by omega) (.inr (Nat.le_refl _))
    go_wp2_with fail
    have e28 : ∀ w', Mk0 w8 w' → HasMessage w' w4.heap.size (some ⟨b5, 0, none⟩) n0_4 z0_4 := fun w' m => h16.mk m (by omega) (.inr (Nat.le_refl _))
    have e29 : ∀ w', Mk0 w8 w' → HasPath w' w4.heap.size (some ⟨b6, 0, none⟩) n0_5 z0_5 := fun w' m => h17.mk m (by omega) (.inr (Nat.le_refl _))
    have e30 : ∀ w', Mk0 w8 w' → HasRevocation w' w4.heap.size (some ⟨b7, 0, none⟩) n0_8 z0_8 := fun w' m => h18.mk m (by omega) (.inr (Nat.le_refl _))
    have e31 : ∀ w', Mk0 w8 w' → w4.heap.size ≤ w'.heap.size := fun w' m => Nat.le_trans (by omega) m.size
    have e32 : ∀ w', Mk0 w8 w' → HasMessage w' w.heap.size a0_4 n0_4 z0_4 := fun w' m => h0_4.mk (M8.trans m) (Nat.le_refl _) (.inr (Nat.le_refl _))
    have e33 : ∀ w', Mk0 w8 w' → HasPath w' w.heap.size a0_5 n0_5 z0_5 := fun w' m => h0_5.mk (M8.trans m) (Nat.le_refl _) (.inr (Nat.le_refl _))
    have e34 : ∀ w', Mk0 w8 w' → HasRevocation w' w.heap.size a0_8 n0_8 z0_8 := fun w' m => h0_8.mk (M8.trans m) (Nat.le_refl _) (.inr (Nat.le_refl _))
    have hN0_4 : szMessage z0_4 n0_4 ≤ 1048576 := by omega
    have hN0_5 : szPath z0_5 n0_5 ≤ 1048576 := by omega
    have hN0_8 : n0_8 ≤ 1048576 := by omega
    go_region_held3 (fun w' => Mk0 w8 w' ∧ w'.cell? ⟨w.heap.size, 0, none⟩ = some (.int .i64 a0_0) ∧ w'.cell? ⟨w.heap.size, 1, none⟩ = some (.int .i64 a0_1) ∧ w'.cell? ⟨w.heap.size, 2, none⟩ = some (.int .i64 a0_2) ∧ w'.cell? ⟨w.heap.size, 3, none⟩ = some (.int .i64 a0_3) ∧ w'.cell? ⟨w.heap.size, 4, none⟩ = some (.slice a0_4 n0_4 c0_4) ∧ w'.cell? ⟨w.heap.size, 5, none⟩ = some (.slice a0_5 n0_5 c0_5) ∧ w'.cell? ⟨w.heap.size, 6, none⟩ = some (.int .i64 a0_6) ∧ w'.cell? ⟨w.heap.size, 7, none⟩ = some (.int .i64 a0_7) ∧ w'.cell? ⟨w.heap.size, 8, none⟩ = some (.slice a0_8 n0_8 c0_8) ∧ w'.cell? ⟨w.heap.size + 1, 0, none⟩ = some (.int .i64 a1_0) ∧ w'.cell? ⟨w.heap.size + 1, 1, none⟩ = some (.int .i64 a1_1) ∧ w'.cell? ⟨w.heap.size + 1, 2, none⟩ = some (.int .i64 a1_2) ∧ w'.cell? ⟨w.heap.size + 1, 3, none⟩ = some (.slice a1_3 n1_3 c1_3) ∧ w'.cell? ⟨w4.heap.size, 0, none⟩ = some (.int .i64 a0_0) ∧ w'.cell? ⟨w4.heap.size, 1, none⟩ = some (.int .i64 a0_1) ∧ w'.cell? ⟨w4.heap.size, 2, none⟩ = some (.int .i64 a0_2) ∧ w'.cell? ⟨w4.heap.size, 3, none⟩ = some (.int .i64 a0_3) ∧ w'.cell? ⟨w4.heap.size, 4, none⟩ = some (.slice (some ⟨b5, 0, none⟩) n0_4 n0_4) ∧ w'.cell? ⟨w4.heap.size, 5, none⟩ = some (.slice (some ⟨b6, 0, none⟩) n0_5 n0_5) ∧ w'.cell? ⟨w4.heap.size, 6, none⟩ = some (.int .i64 a0_6) ∧ w'.cell? ⟨w4.heap.size, 7, none⟩ = some (.int .i64 a0_7) ∧ w'.cell? ⟨w4.heap.size, 8, none⟩ = some (.slice (some ⟨b7, 0, none⟩) n0_8 n0_8) ∧ w'.cell? ⟨w6.heap.size, 0, none⟩ = some (.int .i64 a1_0) ∧ w'.cell? ⟨w6.heap.size, 1, none⟩ = some (.int .i64 a1_1) ∧ w'.cell? ⟨w6.heap.size, 2, none⟩ = some (.int .i64 a1_2) ∧ w'.cell? ⟨w6.heap.size, 3, none⟩ = some (.slice (some ⟨b21, 0, none⟩) n1_3 n1_3)) (first | exact ⟨Mk.drew1 _, k0_0, k0_1, k0_2, k0_3, k0_4, k0_5, k0_6, k0_7, k0_8, k1_0, k1_1, k1_2, k1_3, xx0_0, xx0_1, xx0_2, xx0_3, xx0_4, xx0_5, xx0_6, xx0_7, xx0_8, xx1_0, xx1_1, xx1_2, xx1_3⟩ | (obtain ⟨s0, s1, s2, s3, s4, s5, s6, s7, s8, s9, s10, s11, s12, s13, s14, s15, s16, s17, s18, s19, s20, s21, s22, s23, s24, s25, s26⟩ := ‹Mk0 w8 _ ∧ _›; exact ⟨s0.trans mm, mm.cellAt s1, mm.cellAt s2, mm.cellAt s3, mm.cellAt s4, mm.cellAt s5, mm.cellAt s6, mm.cellAt s7, mm.cellAt s8, mm.cellAt s9, mm.cellAt s10, mm.cellAt s11, mm.cellAt s12, mm.cellAt s13, mm.cellAt s14, mm.cellAt s15, mm.cellAt s16, mm.cellAt s17, mm.cellAt s18, mm.cellAt s19, mm.cellAt s20, mm.cellAt s21, mm.cellAt s22, mm.cellAt s23, mm.cellAt s24, mm.cellAt s25, mm.cellAt s26⟩)) (first | (go_at_call 36; refine (toFlowC _ _ _ _ _ _ _ _ _ _ _ _ _ _ _ _ _ _ w.heap.size _ (e32 _ (‹Mk0 w8 _ ∧ _›).1) (e33 _ (‹Mk0 w8 _ ∧ _›).1) (e34 _ (‹Mk0 w8 _ ∧ _›).1) (M8.trans (‹Mk0 w8 _ ∧ _›).1).size hN0_4 hN0_5 hN0_8).mono ?_; rintro e wa ⟨bb0, bb1, bb2, dd0, dd1, rfl, oo0, oo1, oo2, gg0, gg1, gg2, mm⟩) | (go_at_call 38; refine (eqFlowC _ _ _ _ _ _ _ _ _ _ _ _ _ _ _ _ _ _ _ _ _ _ _ _ _ _ _ (e28 _ (‹Mk0 w8 _ ∧ _›).1) (e29 _ (‹Mk0 w8 _ ∧ _›).1) (e30 _ (‹Mk0 w8 _ ∧ _›).1) (oo0.has.mono (Nat.le_trans gg1 gg2)) (oo1.has.mono gg2) (oo2.has.mono (Nat.le_refl _)) (e31 _ (‹Mk0 w8 _ ∧ _›).1) (Nat.le_refl _) hN0_4 hN0_5 hN0_8).mono ?_; rintro e wb9 ⟨rfl, mm⟩))
    obtain ⟨m9, k0_0, k0_1, k0_2, k0_3, k0_4, k0_5, k0_6, k0_7, k0_8, k1_0, k1_1, k1_2, k1_3, xx0_0, xx0_1, xx0_2, xx0_3, xx0_4, xx0_5, xx0_6, xx0_7, xx0_8, xx1_0, xx1_1, xx1_2, xx1_3⟩ := ‹Mk0 w8 _ ∧ _›
    clear e28 e29 e30 e31 e32 e33 e34 hN0_4 hN0_5 hN0_8
    refine ‹∀ (a : Act) (w : World), _ → _› _ _ ?_
    have M9 := M8.trans m9
    have z9 := m9.size
    replace h16 := h16.mk m9 (by omega) (.inr (Nat.le_refl _))
    replace h17 := h17.mk m9 (by omega) (.inr (Nat.le_refl _))
    replace h18 := h18.mk m9 (by omega) (.inr (Nat.le_refl _))
    replace h24 := h24.mk m9 (by omega) (.inr (Nat.le_refl _))
    go_wp2_with fail
    have e35 : ∀ w', Mk0 wb9 w' → HasMessage w' w6.heap.size (some ⟨b21, 0, none⟩) n1_3 z1_3 := fun w' m => h24.mk m (by omega) (.inr (Nat.le_refl _))
    have e36 : ∀ w', Mk0 wb9 w' → w6.heap.size ≤ w'.heap.size := fun w' m => Nat.le_trans (by omega) m.size
    have e37 : ∀ w', Mk0 wb9 w' → HasMessage w' w.heap.size a1_3 n1_3 z1_3 := fun w' m => h1_3.mk (M9.trans m) (Nat.le_refl _) (.inr (Nat.le_refl _))
    have hN1_3 : szMessage z1_3 n1_3 ≤ 1048576 := by omega
    go_region_held3 (fun w' => Mk0 wb9 w' ∧ w'.cell? ⟨w.heap.size, 0, none⟩ = some (.int .i64 a0_0) ∧ w'.cell? ⟨w.heap.size, 1, none⟩ = some (.int .i64 a0_1) ∧ w'.cell? ⟨w.heap.size, 2, none⟩ = some (.int .i64 a0_2) ∧ w'.cell? ⟨w.heap.size, 3, none⟩ = some (.int .i64 a0_3) ∧ w'.cell? ⟨w.heap.size, 4, none⟩ = some (.slice a0_4 n0_4 c0_4) ∧ w'.cell? ⟨w.heap.size, 5, none⟩ = some (.slice a0_5 n0_5 c0_5) ∧ w'.cell? ⟨w.heap.size, 6, none⟩ = some (.int .i64 a0_6) ∧ w'.cell? ⟨w.heap.size, 7, none⟩ = some (.int .i64 a0_7) ∧ w'.cell? ⟨w.heap.size, 8, none⟩ = some (.slice a0_8 n0_8 c0_8) ∧ w'.cell? ⟨w.heap.size + 1, 0, none⟩ = some (.int .i64 a1_0) ∧ w'.cell? ⟨w.heap.size + 1, 1, none⟩ = some (.int .i64 a1_1) ∧ w'.cell? ⟨w.heap.size + 1, 2, none⟩ = some (.int .i64 a1_2) ∧ w'.cell? ⟨w.heap.size + 1, 3, none⟩ = some (.slice a1_3 n1_3 c1_3) ∧ w'.cell? ⟨w4.heap.size, 0, none⟩ = some (.int .i64 a0_0) ∧ w'.cell? ⟨w4.heap.size, 1, none⟩ = some (.int .i64 a0_1) ∧ w'.cell? ⟨w4.heap.size, 2, none⟩ = some (.int .i64 a0_2) ∧ w'.cell? ⟨w4.heap.size, 3, none⟩ = some (.int .i64 a0_3) ∧ w'.cell? ⟨w4.heap.size, 4, none⟩ = some (.slice (some ⟨b5, 0, none⟩) n0_4 n0_4) ∧ w'.cell? ⟨w4.heap.size, 5, none⟩ = some (.slice (some ⟨b6, 0, none⟩) n0_5 n0_5) ∧ w'.cell? ⟨w4.heap.size, 6, none⟩ = some (.int .i64 a0_6) ∧ w'.cell? ⟨w4.heap.size, 7, none⟩ = some (.int .i64 a0_7) ∧ w'.cell? ⟨w4.heap.size, 8, none⟩ = some (.slice (some ⟨b7, 0, none⟩) n0_8 n0_8) ∧ w'.cell? ⟨w6.heap.size, 0, none⟩ = some (.int .i64 a1_0) ∧ w'.cell? ⟨w6.heap.size, 1, none⟩ = some (.int .i64 a1_1) ∧ w'.cell? ⟨w6.heap.size, 2, none⟩ = some (.int .i64 a1_2) ∧ w'.cell? ⟨w6.heap.size, 3, none⟩ = some (.slice (some ⟨b21, 0, none⟩) n1_3 n1_3)) (first | exact ⟨Mk.drew1 _, k0_0, k0_1, k0_2, k0_3, k0_4, k0_5, k0_6, k0_7, k0_8, k1_0, k1_1, k1_2, k1_3, xx0_0, xx0_1, xx0_2, xx0_3, xx0_4, xx0_5, xx0_6, xx0_7, xx0_8, xx1_0, xx1_1, xx1_2, xx1_3⟩ | (obtain ⟨s0, s1, s2, s3, s4, s5, s6, s7, s8, s9, s10, s11, s12, s13, s14, s15, s16, s17, s18, s19, s20, s21, s22, s23, s24, s25, s26⟩ := ‹Mk0 wb9 _ ∧ _›; exact ⟨s0.trans mm, mm.cellAt s1, mm.cellAt s2, mm.cellAt s3, mm.cellAt s4, mm.cellAt s5, mm.cellAt s6, mm.cellAt s7, mm.cellAt s8, mm.cellAt s9, mm.cellAt s10, mm.cellAt s11, mm.cellAt s12, mm.cellAt s13, mm.cellAt s14, mm.cellAt s15, mm.cellAt s16, mm.cellAt s17, mm.cellAt s18, mm.cellAt s19, mm.cellAt s20, mm.cellAt s21, mm.cellAt s22, mm.cellAt s23, mm.cellAt s24, mm.cellAt s25, mm.cellAt s26⟩)) (first | (go_at_call 41; refine (toInboxC _ _ _ _ _ _ _ w.heap.size _ (e37 _ (‹Mk0 wb9 _ ∧ _›).1) (M9.trans (‹Mk0 wb9 _ ∧ _›).1).size hN1_3).mono ?_; rintro e wa ⟨bb0, rfl, oo0, gg0, mm⟩) | (go_at_call 43; refine (eqInboxC _ _ _ _ _ _ _ _ _ _ _ _ (e35 _ (‹Mk0 wb9 _ ∧ _›).1) (oo0.has.mono (Nat.le_refl _)) (e36 _ (‹Mk0 wb9 _ ∧ _›).1) (Nat.le_refl _) hN1_3).mono ?_; rintro e wb10 ⟨rfl, mm⟩))
    obtain ⟨m10, k0_0, k0_1, k0_2, k0_3, k0_4, k0_5, k0_6, k0_7, k0_8, k1_0, k1_1, k1_2, k1_3, xx0_0, xx0_1, xx0_2, xx0_3, xx0_4, xx0_5, xx0_6, xx0_7, xx0_8, xx1_0, xx1_1, xx1_2, xx1_3⟩ := ‹Mk0 wb9 _ ∧ _›
    clear e35 e36 e37 hN1_3
    refine ‹∀ (a : Act) (w : World), _ → _› _ _ ?_
    have M10 := M9.trans m10
    have z10 := m10.size
    replace h24 := h24.mk m10 (by omega) (.inr (Nat.le_refl _))
    go_wp2_with fail
    go_ret
    exact ⟨rfl, M10.below0⟩)

set_option maxRecDepth 100000 in
theorem lifted (os : Os) (started : os.Started) (H : Type) (enc : TypeId × Value → H) :
    ReturnsInHanded {} Try.checked os 8 .any (Rows.fnExactConsistentWithSpec.pre6 enc Try.prog Try.f8 Rows.fnExactConsistentWithRow.domain false) (Rows.fnExactConsistentWithSpec.post enc Try.prog Try.f8 false true false false) := by
  refine returnsInHanded_of_change (C := Try.checked) own started (by kernel_rfl) Try.func8
    (ChangeSpec.witness6 (enc := enc) (C := Try.checked) false ⟨#[], #[.agg #[.int .i64 0, .int .i64 0, .int .i64 0, .int .i64 0, .slice none 0 0, .slice none 0 0, .int .i64 0, .int .i64 0, .slice none 0 0], .agg #[.int .i64 0, .int .i64 0, .int .i64 0, .slice none 0 0]], []⟩ 8 (by kernel_rfl) (by kernel_rfl) (by kernel_rfl) (by kernel_rfl)) ?_
  intro W base args ds gs before hval0 hW hcnd _
  have hval : ∀ (j : Nat) t v, Try.f8.params[j]? = some t → args[j]? = some v → Value.okWide Try.prog W .any base t v := hval0
  have hW' := hW
  obtain ⟨p, q, hA0, hV, rfl, hfz, hnd⟩ := hW
  have hA : DataW.TrodAll enc Try.prog W 0 (fun _ => true) true Try.f8.params.toList args.toList ds p := hA0
  rw [Try.params8] at hA hval
  obtain ⟨v0, vs0, d0, ds0, p0, q0, hargs, rfl, rfl, h0, r0⟩ := trodAll_cons hA
  obtain ⟨v1, vs1, d1, ds1, p1, q1, rfl, rfl, rfl, h1, r1⟩ := trodAll_cons r0
  obtain ⟨rfl, rfl, rfl⟩ := trodAll_nil r1
  obtain rfl : args = #[v0, v1] := by cases args; simp_all
  obtain ⟨rfl, rfl⟩ := trodVars_none hV
  have k0 := h0
  have lt0 : ∀ x ∈ p0, x.block < W.heap.size := by obtain ⟨m, hm⟩ := k0; exact DataW.trod_lt m _ _ _ hm
  obtain ⟨cs0, rfl, hcs0, hf0⟩ := open_agg Try.underlying77 (by kernel_rfl) (by kernel_rfl) (hval 0 77 v0 rfl rfl) h0
  obtain ⟨_, _, _, e0_0, q0_0⟩ := hf0 0 _ rfl
  obtain ⟨a0_0, rfl, w0_0⟩ := one_int Try.underlying3 q0_0
  obtain ⟨_, _, _, e0_1, q0_1⟩ := hf0 1 _ rfl
  obtain ⟨a0_1, rfl, w0_1⟩ := one_int Try.underlying3 q0_1
  obtain ⟨_, _, _, e0_2, q0_2⟩ := hf0 2 _ rfl
  obtain ⟨a0_2, rfl, w0_2⟩ := one_int Try.underlying3 q0_2
  obtain ⟨_, _, _, e0_3, q0_3⟩ := hf0 3 _ rfl
  obtain ⟨a0_3, rfl, w0_3⟩ := one_int Try.underlying3 q0_3
  obtain ⟨_, _, _, e0_4, q0_4⟩ := hf0 4 _ rfl
  obtain ⟨a0_4, n0_4, c0_4, z0_4, rfl, m0_4, h0_4, f0_4⟩ := openMessageS q0_4
  obtain ⟨_, _, _, e0_5, q0_5⟩ := hf0 5 _ rfl
  obtain ⟨a0_5, n0_5, c0_5, z0_5, rfl, m0_5, h0_5, f0_5⟩ := openPathS q0_5
  obtain ⟨_, _, _, e0_6, q0_6⟩ := hf0 6 _ rfl
  obtain ⟨a0_6, rfl, w0_6⟩ := one_int Try.underlying3 q0_6
  obtain ⟨_, _, _, e0_7, q0_7⟩ := hf0 7 _ rfl
  obtain ⟨a0_7, rfl, w0_7⟩ := one_int Try.underlying3 q0_7
  obtain ⟨_, _, _, e0_8, q0_8⟩ := hf0 8 _ rfl
  obtain ⟨a0_8, n0_8, c0_8, z0_8, rfl, m0_8, h0_8, f0_8⟩ := openRevocationS q0_8
  obtain rfl : cs0 = #[.int .i64 a0_0, .int .i64 a0_1, .int .i64 a0_2, .int .i64 a0_3, .slice a0_4 n0_4 c0_4, .slice a0_5 n0_5 c0_5, .int .i64 a0_6, .int .i64 a0_7, .slice a0_8 n0_8 c0_8] := arr_of [.int .i64 a0_0, .int .i64 a0_1, .int .i64 a0_2, .int .i64 a0_3, .slice a0_4 n0_4 c0_4, .slice a0_5 n0_5 c0_5, .int .i64 a0_6, .int .i64 a0_7, .slice a0_8 n0_8 c0_8] hcs0 (fun j hj => by match j, hj with | 0, _ => exact e0_0 | 1, _ => exact e0_1 | 2, _ => exact e0_2 | 3, _ => exact e0_3 | 4, _ => exact e0_4 | 5, _ => exact e0_5 | 6, _ => exact e0_6 | 7, _ => exact e0_7 | 8, _ => exact e0_8)
  have k1 := h1
  have lt1 : ∀ x ∈ p1, x.block < W.heap.size := by obtain ⟨m, hm⟩ := k1; exact DataW.trod_lt m _ _ _ hm
  obtain ⟨cs1, rfl, hcs1, hf1⟩ := open_agg Try.underlying88 (by kernel_rfl) (by kernel_rfl) (hval 1 88 v1 rfl rfl) h1
  obtain ⟨_, _, _, e1_0, q1_0⟩ := hf1 0 _ rfl
  obtain ⟨a1_0, rfl, w1_0⟩ := one_int Try.underlying3 q1_0
  obtain ⟨_, _, _, e1_1, q1_1⟩ := hf1 1 _ rfl
  obtain ⟨a1_1, rfl, w1_1⟩ := one_int Try.underlying3 q1_1
  obtain ⟨_, _, _, e1_2, q1_2⟩ := hf1 2 _ rfl
  obtain ⟨a1_2, rfl, w1_2⟩ := one_int Try.underlying3 q1_2
  obtain ⟨_, _, _, e1_3, q1_3⟩ := hf1 3 _ rfl
  obtain ⟨a1_3, n1_3, c1_3, z1_3, rfl, m1_3, h1_3, f1_3⟩ := openMessageS q1_3
  obtain rfl : cs1 = #[.int .i64 a1_0, .int .i64 a1_1, .int .i64 a1_2, .slice a1_3 n1_3 c1_3] := arr_of [.int .i64 a1_0, .int .i64 a1_1, .int .i64 a1_2, .slice a1_3 n1_3 c1_3] hcs1 (fun j hj => by match j, hj with | 0, _ => exact e1_0 | 1, _ => exact e1_1 | 2, _ => exact e1_2 | 3, _ => exact e1_3)
  clear hA0 hval0
  refine (walk a0_0 a0_1 a0_2 a0_3 a0_4 n0_4 c0_4 z0_4 a0_5 n0_5 c0_5 z0_5 a0_6 a0_7 a0_8 n0_8 c0_8 z0_8 a1_0 a1_1 a1_2 a1_3 n1_3 c1_3 z1_3 W w0_0 w0_1 w0_2 w0_3 h0_4 m0_4 f0_4 h0_5 m0_5 f0_5 w0_6 w0_7 h0_8 m0_8 f0_8 w1_0 w1_1 w1_2 h1_3 m1_3 f1_3).mono fun e W' ⟨he, bel⟩ => ?_
  subst he
  exact ⟨_, rfl, _, _, _, [], _, [], hW', trodAll_mk1 (shut_bool Try.underlying4 _), (trodAll_cons_mk (Below.trod laidOut (by kernel_rfl) (of_decide_eq_true (by kernel_rfl)) k0 bel lt0) (trodAll_cons_mk (Below.trod laidOut (by kernel_rfl) (of_decide_eq_true (by kernel_rfl)) k1 bel lt1) trodAll_mk0)), rfl, bel.frame _, fun h => by cases h⟩

theorem over : Rows.fnExactConsistentWithRow.holds Try.pinned (OpenSpec.ofChange Rows.fnExactConsistentWithSpec) :=
  OpenClaim.holds_of_wide 8 Try.f8 rfl rfl rfl rfl rfl rfl rfl ⟨rfl, rfl, rfl, rfl, rfl⟩ rfl rfl rfl rfl rfl (by kernel_rfl) Try.func8 (by kernel_rfl)
    (of_decide_eq_true (by kernel_rfl)) (by unfold Func.isWrapper; first | (rw [if_pos (by decide +kernel)]; kernel_rfl) | (rw [if_neg (by decide +kernel)]; exact ⟨rfl, rfl⟩))
    (fun os started H enc _ => lifted os started H enc)

theorem proved : Rows.FnExactConsistentWithSaid := over
#print axioms proved
end Go.Proofs.Ytkmofhpipcodbaa.fnExactConsistentWith
