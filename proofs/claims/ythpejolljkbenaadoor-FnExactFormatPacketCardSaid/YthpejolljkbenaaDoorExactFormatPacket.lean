
/- For every topology and every packet, the law on FormatPacket returns true, under the condition of what the row lays: the library's table of powers of ten holds what its text lays. -/
import Derived.Test.YthpejolljkbenaaDoorCards
import Derived.Test.YthpejolljkbenaaDoorTie
import Derived.Deep.DeepHandedRow
import Derived.Lib.LaidTab
import Derived.Test.YthpejolljkbenaaDoorRows
import Derived.WalkKit
import Derived.ProofKit
import Derived.OpenShut
import Derived.ShutString
import Derived.ChangeOld
import Derived.Below
import Derived.Test.YthpejolljkbenaaDoorOAS
import Derived.Test.YthpejolljkbenaaDoorZAS
import Derived.Test.YthpejolljkbenaaDoorOLink
import Derived.Test.YthpejolljkbenaaDoorZLink
import Derived.Test.YthpejolljkbenaaDoorOPathPart
import Derived.Test.YthpejolljkbenaaDoorOpenN
import Derived.Test.YthpejolljkbenaaDoorStruct
import Derived.Deep.RegionHeld3
import Derived.Test.YthpejolljkbenaaDoorFpk
import Derived.Test.YthpejolljkbenaaDoorCPacket
namespace Go.Proofs.YthpejolljkbenaaDoor.fnExactFormatPacket
open Go.ChangeShapes Go.WideShapes Go.ChangeAt Go.RowKit
open Go.ChangeMaps (open_string shut_string)
set_option linter.unusedVariables false

theorem own : ownKnob Tryd.prog.godebug = none := by kernel_rfl
theorem laidOut : laidOutB Tryd.prog = true := by kernel_rfl

theorem table {W : World} (hL : laidMetH Tryd.prog Rows.fnExactFormatPacketRow.laid W) : Lib.TabIs Tryd.prog W "internal/strconv.uint64pow10" .u64 Lib.pow10Tab :=
  pow10_of (laid_drop2 (show laidMet Tryd.prog Rows.fnExactFormatPacketRow.laid W from hL))

set_option maxRecDepth 100000 in
set_option maxHeartbeats 4000000 in
theorem walk (a0_0 : Option Addr) (n0_0 c0_0 : Nat) (z0_0 : List TAS) (a0_1 : Option Addr) (n0_1 c0_1 : Nat) (z0_1 : List TLink) (a1_0 : Int) (a1_1 : Int) (a1_2 : Int) (a1_3 : Option Addr) (n1_3 c1_3 : Nat) (z1_3 : List TPathPart) (a1_4 : Int) (a1_5 : Int) (a1_6 : Int) (a1_7 : Int) (a1_8 : Int) (a1_9 : Option Addr) (n1_9 c1_9 : Nat) (z1_9 : List TByte) (w : World) (h0_0 : HasAS w w.heap.size a0_0 n0_0 z0_0) (m0_0 : n0_0 ≤ 9223372036854775807) (f0_0 : ∀ x ∈ z0_0, TAS.fits x) (h0_1 : HasLink w w.heap.size a0_1 n0_1 z0_1) (m0_1 : n0_1 ≤ 9223372036854775807) (f0_1 : ∀ x ∈ z0_1, TLink.fits x) (w1_0 : (Lit.int .i64 a1_0).wf = true) (w1_1 : (Lit.int .i64 a1_1).wf = true) (w1_2 : (Lit.int .i64 a1_2).wf = true) (h1_3 : HasPathPart w w.heap.size a1_3 n1_3 z1_3) (m1_3 : n1_3 ≤ 9223372036854775807) (f1_3 : ∀ x ∈ z1_3, TPathPart.fits x) (w1_4 : (Lit.int .i64 a1_4).wf = true) (w1_5 : (Lit.int .i64 a1_5).wf = true) (w1_6 : (Lit.int .i64 a1_6).wf = true) (w1_7 : (Lit.int .i64 a1_7).wf = true) (w1_8 : (Lit.int .i64 a1_8).wf = true) (h1_9 : HasByte w w.heap.size a1_9 n1_9 z1_9) (m1_9 : n1_9 ≤ 9223372036854775807) (f1_9 : ∀ x ∈ z1_9, TByte.fits x) (htab : Lib.TabIs Tryd.prog w "internal/strconv.uint64pow10" .u64 Lib.pow10Tab) :
    Calls Tryd.prog 6 #[.agg #[.slice a0_0 n0_0 c0_0, .slice a0_1 n0_1 c0_1], .agg #[.int .i64 a1_0, .int .i64 a1_1, .int .i64 a1_2, .slice a1_3 n1_3 c1_3, .int .i64 a1_4, .int .i64 a1_5, .int .i64 a1_6, .int .i64 a1_7, .int .i64 a1_8, .slice a1_9 n1_9 c1_9]] w fun e w' => e = .returned (.bool true) ∧ Below w.heap.size w w' := by
  by_cases hbig0 : (1048576 : Int) < (n0_0 : Int) + (n0_1 : Int)
  · go_enter Tryd.func6, Tryd.ntmps6
    go_wp2_with fail
    have M0 : Mk0 w ((w.alloc (Obj.cells #[Value.slice a0_0 n0_0 c0_0, Value.slice a0_1 n0_1 c0_1] 25)).alloc (Obj.cells #[Value.int .i64 a1_0, Value.int .i64 a1_1, Value.int .i64 a1_2, Value.slice a1_3 n1_3 c1_3, Value.int .i64 a1_4, Value.int .i64 a1_5, Value.int .i64 a1_6, Value.int .i64 a1_7, Value.int .i64 a1_8, Value.slice a1_9 n1_9 c1_9] 59)) := ((Mk.alloc w _).new _)
    have k0_0 : ((w.alloc (Obj.cells #[Value.slice a0_0 n0_0 c0_0, Value.slice a0_1 n0_1 c0_1] 25)).alloc (Obj.cells #[Value.int .i64 a1_0, Value.int .i64 a1_1, Value.int .i64 a1_2, Value.slice a1_3 n1_3 c1_3, Value.int .i64 a1_4, Value.int .i64 a1_5, Value.int .i64 a1_6, Value.int .i64 a1_7, Value.int .i64 a1_8, Value.slice a1_9 n1_9 c1_9] 59)).cell? ⟨w.heap.size, 0, none⟩ = some (.slice a0_0 n0_0 c0_0) := by simp [go_sem]
    have k0_1 : ((w.alloc (Obj.cells #[Value.slice a0_0 n0_0 c0_0, Value.slice a0_1 n0_1 c0_1] 25)).alloc (Obj.cells #[Value.int .i64 a1_0, Value.int .i64 a1_1, Value.int .i64 a1_2, Value.slice a1_3 n1_3 c1_3, Value.int .i64 a1_4, Value.int .i64 a1_5, Value.int .i64 a1_6, Value.int .i64 a1_7, Value.int .i64 a1_8, Value.slice a1_9 n1_9 c1_9] 59)).cell? ⟨w.heap.size, 1, none⟩ = some (.slice a0_1 n0_1 c0_1) := by simp [go_sem]
    have k1_0 : ((w.alloc (Obj.cells #[Value.slice a0_0 n0_0 c0_0, Value.slice a0_1 n0_1 c0_1] 25)).alloc (Obj.cells #[Value.int .i64 a1_0, Value.int .i64 a1_1, Value.int .i64 a1_2, Value.slice a1_3 n1_3 c1_3, Value.int .i64 a1_4, Value.int .i64 a1_5, Value.int .i64 a1_6, Value.int .i64 a1_7, Value.int .i64 a1_8, Value.slice a1_9 n1_9 c1_9] 59)).cell? ⟨w.heap.size + 1, 0, none⟩ = some (.int .i64 a1_0) := by simp [go_sem]
    have k1_1 : ((w.alloc (Obj.cells #[Value.slice a0_0 n0_0 c0_0, Value.slice a0_1 n0_1 c0_1] 25)).alloc (Obj.cells #[Value.int .i64 a1_0, Value.int .i64 a1_1, Value.int .i64 a1_2, Value.slice a1_3 n1_3 c1_3, Value.int .i64 a1_4, Value.int .i64 a1_5, Value.int .i64 a1_6, Value.int .i64 a1_7, Value.int .i64 a1_8, Value.slice a1_9 n1_9 c1_9] 59)).cell? ⟨w.heap.size + 1, 1, none⟩ = some (.int .i64 a1_1) := by simp [go_sem]
    have k1_2 : ((w.alloc (Obj.cells #[Value.slice a0_0 n0_0 c0_0, Value.slice a0_1 n0_1 c0_1] 25)).alloc (Obj.cells #[Value.int .i64 a1_0, Value.int .i64 a1_1, Value.int .i64 a1_2, Value.slice a1_3 n1_3 c1_3, Value.int .i64 a1_4, Value.int .i64 a1_5, Value.int .i64 a1_6, Value.int .i64 a1_7, Value.int .i64 a1_8, Value.slice a1_9 n1_9 c1_9] 59)).cell? ⟨w.heap.size + 1, 2, none⟩ = some (.int .i64 a1_2) := by simp [go_sem]
    have k1_3 : ((w.alloc (Obj.cells #[Value.slice a0_0 n0_0 c0_0, Value.slice a0_1 n0_1 c0_1] 25)).alloc (Obj.cells #[Value.int .i64 a1_0, Value.int .i64 a1_1, Value.int .i64 a1_2, Value.slice a1_3 n1_3 c1_3, Value.int .i64 a1_4, Value.int .i64 a1_5, Value.int .i64 a1_6, Value.int .i64 a1_7, Value.int .i64 a1_8, Value.slice a1_9 n1_9 c1_9] 59)).cell? ⟨w.heap.size + 1, 3, none⟩ = some (.slice a1_3 n1_3 c1_3) := by simp [go_sem]
    have k1_4 : ((w.alloc (Obj.cells #[Value.slice a0_0 n0_0 c0_0, Value.slice a0_1 n0_1 c0_1] 25)).alloc (Obj.cells #[Value.int .i64 a1_0, Value.int .i64 a1_1, Value.int .i64 a1_2, Value.slice a1_3 n1_3 c1_3, Value.int .i64 a1_4, Value.int .i64 a1_5, Value.int .i64 a1_6, Value.int .i64 a1_7, Value.int .i64 a1_8, Value.slice a1_9 n1_9 c1_9] 59)).cell? ⟨w.heap.size + 1, 4, none⟩ = some (.int .i64 a1_4) := by simp [go_sem]
    have k1_5 : ((w.alloc (Obj.cells #[Value.slice a0_0 n0_0 c0_0, Value.slice a0_1 n0_1 c0_1] 25)).alloc (Obj.cells #[Value.int .i64 a1_0, Value.int .i64 a1_1, Value.int .i64 a1_2, Value.slice a1_3 n1_3 c1_3, Value.int .i64 a1_4, Value.int .i64 a1_5, Value.int .i64 a1_6, Value.int .i64 a1_7, Value.int .i64 a1_8, Value.slice a1_9 n1_9 c1_9] 59)).cell? ⟨w.heap.size + 1, 5, none⟩ = some (.int .i64 a1_5) := by simp [go_sem]
    have k1_6 : ((w.alloc (Obj.cells #[Value.slice a0_0 n0_0 c0_0, Value.slice a0_1 n0_1 c0_1] 25)).alloc (Obj.cells #[Value.int .i64 a1_0, Value.int .i64 a1_1, Value.int .i64 a1_2, Value.slice a1_3 n1_3 c1_3, Value.int .i64 a1_4, Value.int .i64 a1_5, Value.int .i64 a1_6, Value.int .i64 a1_7, Value.int .i64 a1_8, Value.slice a1_9 n1_9 c1_9] 59)).cell? ⟨w.heap.size + 1, 6, none⟩ = some (.int .i64 a1_6) := by simp [go_sem]
    have k1_7 : ((w.alloc (Obj.cells #[Value.slice a0_0 n0_0 c0_0, Value.slice a0_1 n0_1 c0_1] 25)).alloc (Obj.cells #[Value.int .i64 a1_0, Value.int .i64 a1_1, Value.int .i64 a1_2, Value.slice a1_3 n1_3 c1_3, Value.int .i64 a1_4, Value.int .i64 a1_5, Value.int .i64 a1_6, Value.int .i64 a1_7, Value.int .i64 a1_8, Value.slice a1_9 n1_9 c1_9] 59)).cell? ⟨w.heap.size + 1, 7, none⟩ = some (.int .i64 a1_7) := by simp [go_sem]
    have k1_8 : ((w.alloc (Obj.cells #[Value.slice a0_0 n0_0 c0_0, Value.slice a0_1 n0_1 c0_1] 25)).alloc (Obj.cells #[Value.int .i64 a1_0, Value.int .i64 a1_1, Value.int .i64 a1_2, Value.slice a1_3 n1_3 c1_3, Value.int .i64 a1_4, Value.int .i64 a1_5, Value.int .i64 a1_6, Value.int .i64 a1_7, Value.int .i64 a1_8, Value.slice a1_9 n1_9 c1_9] 59)).cell? ⟨w.heap.size + 1, 8, none⟩ = some (.int .i64 a1_8) := by simp [go_sem]
    have k1_9 : ((w.alloc (Obj.cells #[Value.slice a0_0 n0_0 c0_0, Value.slice a0_1 n0_1 c0_1] 25)).alloc (Obj.cells #[Value.int .i64 a1_0, Value.int .i64 a1_1, Value.int .i64 a1_2, Value.slice a1_3 n1_3 c1_3, Value.int .i64 a1_4, Value.int .i64 a1_5, Value.int .i64 a1_6, Value.int .i64 a1_7, Value.int .i64 a1_8, Value.slice a1_9 n1_9 c1_9] 59)).cell? ⟨w.heap.size + 1, 9, none⟩ = some (.slice a1_9 n1_9 c1_9) := by simp [go_sem]
    refine (szTopologyB _ _ _ _ _ _ _ _ (by omega) (by omega) (by omega) m0_0 m0_1).mono ?_
    rintro e w1 ⟨rfl, m1⟩
    go_wp2_with fail
    go_ret
    exact ⟨rfl, (M0.trans m1).below0⟩
  have hn0 : (n0_0 : Int) + (n0_1 : Int) ≤ (1048576 : Int) := by omega
  clear hbig0
  by_cases hbig1 : (1048576 - n0_0 - n0_1 : Int) < ((szPathPart z1_3 n1_3 : Nat) : Int) + (n1_9 : Int)
  · go_enter Tryd.func6, Tryd.ntmps6
    go_wp2_with fail
    have M0 : Mk0 w ((w.alloc (Obj.cells #[Value.slice a0_0 n0_0 c0_0, Value.slice a0_1 n0_1 c0_1] 25)).alloc (Obj.cells #[Value.int .i64 a1_0, Value.int .i64 a1_1, Value.int .i64 a1_2, Value.slice a1_3 n1_3 c1_3, Value.int .i64 a1_4, Value.int .i64 a1_5, Value.int .i64 a1_6, Value.int .i64 a1_7, Value.int .i64 a1_8, Value.slice a1_9 n1_9 c1_9] 59)) := ((Mk.alloc w _).new _)
    have k0_0 : ((w.alloc (Obj.cells #[Value.slice a0_0 n0_0 c0_0, Value.slice a0_1 n0_1 c0_1] 25)).alloc (Obj.cells #[Value.int .i64 a1_0, Value.int .i64 a1_1, Value.int .i64 a1_2, Value.slice a1_3 n1_3 c1_3, Value.int .i64 a1_4, Value.int .i64 a1_5, Value.int .i64 a1_6, Value.int .i64 a1_7, Value.int .i64 a1_8, Value.slice a1_9 n1_9 c1_9] 59)).cell? ⟨w.heap.size, 0, none⟩ = some (.slice a0_0 n0_0 c0_0) := by simp [go_sem]
    have k0_1 : ((w.alloc (Obj.cells #[Value.slice a0_0 n0_0 c0_0, Value.slice a0_1 n0_1 c0_1] 25)).alloc (Obj.cells #[Value.int .i64 a1_0, Value.int .i64 a1_1, Value.int .i64 a1_2, Value.slice a1_3 n1_3 c1_3, Value.int .i64 a1_4, Value.int .i64 a1_5, Value.int .i64 a1_6, Value.int .i64 a1_7, Value.int .i64 a1_8, Value.slice a1_9 n1_9 c1_9] 59)).cell? ⟨w.heap.size, 1, none⟩ = some (.slice a0_1 n0_1 c0_1) := by simp [go_sem]
    have k1_0 : ((w.alloc (Obj.cells #[Value.slice a0_0 n0_0 c0_0, Value.slice a0_1 n0_1 c0_1] 25)).alloc (Obj.cells #[Value.int .i64 a1_0, Value.int .i64 a1_1, Value.int .i64 a1_2, Value.slice a1_3 n1_3 c1_3, Value.int .i64 a1_4, Value.int .i64 a1_5, Value.int .i64 a1_6, Value.int .i64 a1_7, Value.int .i64 a1_8, Value.slice a1_9 n1_9 c1_9] 59)).cell? ⟨w.heap.size + 1, 0, none⟩ = some (.int .i64 a1_0) := by simp [go_sem]
    have k1_1 : ((w.alloc (Obj.cells #[Value.slice a0_0 n0_0 c0_0, Value.slice a0_1 n0_1 c0_1] 25)).alloc (Obj.cells #[Value.int .i64 a1_0, Value.int .i64 a1_1, Value.int .i64 a1_2, Value.slice a1_3 n1_3 c1_3, Value.int .i64 a1_4, Value.int .i64 a1_5, Value.int .i64 a1_6, Value.int .i64 a1_7, Value.int .i64 a1_8, Value.slice a1_9 n1_9 c1_9] 59)).cell? ⟨w.heap.size + 1, 1, none⟩ = some (.int .i64 a1_1) := by simp [go_sem]
    have k1_2 : ((w.alloc (Obj.cells #[Value.slice a0_0 n0_0 c0_0, Value.slice a0_1 n0_1 c0_1] 25)).alloc (Obj.cells #[Value.int .i64 a1_0, Value.int .i64 a1_1, Value.int .i64 a1_2, Value.slice a1_3 n1_3 c1_3, Value.int .i64 a1_4, Value.int .i64 a1_5, Value.int .i64 a1_6, Value.int .i64 a1_7, Value.int .i64 a1_8, Value.slice a1_9 n1_9 c1_9] 59)).cell? ⟨w.heap.size + 1, 2, none⟩ = some (.int .i64 a1_2) := by simp [go_sem]
    have k1_3 : ((w.alloc (Obj.cells #[Value.slice a0_0 n0_0 c0_0, Value.slice a0_1 n0_1 c0_1] 25)).alloc (Obj.cells #[Value.int .i64 a1_0, Value.int .i64 a1_1, Value.int .i64 a1_2, Value.slice a1_3 n1_3 c1_3, Value.int .i64 a1_4, Value.int .i64 a1_5, Value.int .i64 a1_6, Value.int .i64 a1_7, Value.int .i64 a1_8, Value.slice a1_9 n1_9 c1_9] 59)).cell? ⟨w.heap.size + 1, 3, none⟩ = some (.slice a1_3 n1_3 c1_3) := by simp [go_sem]
    have k1_4 : ((w.alloc (Obj.cells #[Value.slice a0_0 n0_0 c0_0, Value.slice a0_1 n0_1 c0_1] 25)).alloc (Obj.cells #[Value.int .i64 a1_0, Value.int .i64 a1_1, Value.int .i64 a1_2, Value.slice a1_3 n1_3 c1_3, Value.int .i64 a1_4, Value.int .i64 a1_5, Value.int .i64 a1_6, Value.int .i64 a1_7, Value.int .i64 a1_8, Value.slice a1_9 n1_9 c1_9] 59)).cell? ⟨w.heap.size + 1, 4, none⟩ = some (.int .i64 a1_4) := by simp [go_sem]
    have k1_5 : ((w.alloc (Obj.cells #[Value.slice a0_0 n0_0 c0_0, Value.slice a0_1 n0_1 c0_1] 25)).alloc (Obj.cells #[Value.int .i64 a1_0, Value.int .i64 a1_1, Value.int .i64 a1_2, Value.slice a1_3 n1_3 c1_3, Value.int .i64 a1_4, Value.int .i64 a1_5, Value.int .i64 a1_6, Value.int .i64 a1_7, Value.int .i64 a1_8, Value.slice a1_9 n1_9 c1_9] 59)).cell? ⟨w.heap.size + 1, 5, none⟩ = some (.int .i64 a1_5) := by simp [go_sem]
    have k1_6 : ((w.alloc (Obj.cells #[Value.slice a0_0 n0_0 c0_0, Value.slice a0_1 n0_1 c0_1] 25)).alloc (Obj.cells #[Value.int .i64 a1_0, Value.int .i64 a1_1, Value.int .i64 a1_2, Value.slice a1_3 n1_3 c1_3, Value.int .i64 a1_4, Value.int .i64 a1_5, Value.int .i64 a1_6, Value.int .i64 a1_7, Value.int .i64 a1_8, Value.slice a1_9 n1_9 c1_9] 59)).cell? ⟨w.heap.size + 1, 6, none⟩ = some (.int .i64 a1_6) := by simp [go_sem]
    have k1_7 : ((w.alloc (Obj.cells #[Value.slice a0_0 n0_0 c0_0, Value.slice a0_1 n0_1 c0_1] 25)).alloc (Obj.cells #[Value.int .i64 a1_0, Value.int .i64 a1_1, Value.int .i64 a1_2, Value.slice a1_3 n1_3 c1_3, Value.int .i64 a1_4, Value.int .i64 a1_5, Value.int .i64 a1_6, Value.int .i64 a1_7, Value.int .i64 a1_8, Value.slice a1_9 n1_9 c1_9] 59)).cell? ⟨w.heap.size + 1, 7, none⟩ = some (.int .i64 a1_7) := by simp [go_sem]
    have k1_8 : ((w.alloc (Obj.cells #[Value.slice a0_0 n0_0 c0_0, Value.slice a0_1 n0_1 c0_1] 25)).alloc (Obj.cells #[Value.int .i64 a1_0, Value.int .i64 a1_1, Value.int .i64 a1_2, Value.slice a1_3 n1_3 c1_3, Value.int .i64 a1_4, Value.int .i64 a1_5, Value.int .i64 a1_6, Value.int .i64 a1_7, Value.int .i64 a1_8, Value.slice a1_9 n1_9 c1_9] 59)).cell? ⟨w.heap.size + 1, 8, none⟩ = some (.int .i64 a1_8) := by simp [go_sem]
    have k1_9 : ((w.alloc (Obj.cells #[Value.slice a0_0 n0_0 c0_0, Value.slice a0_1 n0_1 c0_1] 25)).alloc (Obj.cells #[Value.int .i64 a1_0, Value.int .i64 a1_1, Value.int .i64 a1_2, Value.slice a1_3 n1_3 c1_3, Value.int .i64 a1_4, Value.int .i64 a1_5, Value.int .i64 a1_6, Value.int .i64 a1_7, Value.int .i64 a1_8, Value.slice a1_9 n1_9 c1_9] 59)).cell? ⟨w.heap.size + 1, 9, none⟩ = some (.slice a1_9 n1_9 c1_9) := by simp [go_sem]
    refine (szTopologyC _ _ _ _ _ _ _ _ (by omega) (by omega) (by omega)).mono ?_
    rintro e w1 ⟨l1, hl1, rfl, m1⟩
    have M1 := M0.trans m1
    replace k0_0 := m1.cellAt k0_0
    replace k0_1 := m1.cellAt k0_1
    replace k1_0 := m1.cellAt k1_0
    replace k1_1 := m1.cellAt k1_1
    replace k1_2 := m1.cellAt k1_2
    replace k1_3 := m1.cellAt k1_3
    replace k1_4 := m1.cellAt k1_4
    replace k1_5 := m1.cellAt k1_5
    replace k1_6 := m1.cellAt k1_6
    replace k1_7 := m1.cellAt k1_7
    replace k1_8 := m1.cellAt k1_8
    replace k1_9 := m1.cellAt k1_9
    have z1 := m1.size
    simp only [World.size_alloc] at z1
    go_wp2_with fail
    refine (szPacketB _ _ _ _ _ _ _ _ _ _ _ _ _ _ z1_3 w.heap.size _ _ (h1_3.mk M1 (Nat.le_refl _) (.inr (Nat.le_refl _))) M1.size (by omega) (by omega) (by omega) m1_3 m1_9).mono ?_
    rintro e w2 ⟨rfl, m2⟩
    go_wp2_with fail
    go_ret
    exact ⟨rfl, (M1.trans m2).below0⟩
  have hn1 : ((szPathPart z1_3 n1_3 : Nat) : Int) + (n1_9 : Int) ≤ (1048576 - n0_0 - n0_1 : Int) := by omega
  clear hbig1
  go_enter Tryd.func6, Tryd.ntmps6
  go_wp2_with fail
  have M0 : Mk0 w ((w.alloc (Obj.cells #[Value.slice a0_0 n0_0 c0_0, Value.slice a0_1 n0_1 c0_1] 25)).alloc (Obj.cells #[Value.int .i64 a1_0, Value.int .i64 a1_1, Value.int .i64 a1_2, Value.slice a1_3 n1_3 c1_3, Value.int .i64 a1_4, Value.int .i64 a1_5, Value.int .i64 a1_6, Value.int .i64 a1_7, Value.int .i64 a1_8, Value.slice a1_9 n1_9 c1_9] 59)) := ((Mk.alloc w _).new _)
  have k0_0 : ((w.alloc (Obj.cells #[Value.slice a0_0 n0_0 c0_0, Value.slice a0_1 n0_1 c0_1] 25)).alloc (Obj.cells #[Value.int .i64 a1_0, Value.int .i64 a1_1, Value.int .i64 a1_2, Value.slice a1_3 n1_3 c1_3, Value.int .i64 a1_4, Value.int .i64 a1_5, Value.int .i64 a1_6, Value.int .i64 a1_7, Value.int .i64 a1_8, Value.slice a1_9 n1_9 c1_9] 59)).cell? ⟨w.heap.size, 0, none⟩ = some (.slice a0_0 n0_0 c0_0) := by simp [go_sem]
  have k0_1 : ((w.alloc (Obj.cells #[Value.slice a0_0 n0_0 c0_0, Value.slice a0_1 n0_1 c0_1] 25)).alloc (Obj.cells #[Value.int .i64 a1_0, Value.int .i64 a1_1, Value.int .i64 a1_2, Value.slice a1_3 n1_3 c1_3, Value.int .i64 a1_4, Value.int .i64 a1_5, Value.int .i64 a1_6, Value.int .i64 a1_7, Value.int .i64 a1_8, Value.slice a1_9 n1_9 c1_9] 59)).cell? ⟨w.heap.size, 1, none⟩ = some (.slice a0_1 n0_1 c0_1) := by simp [go_sem]
  have k1_0 : ((w.alloc (Obj.cells #[Value.slice a0_0 n0_0 c0_0, Value.slice a0_1 n0_1 c0_1] 25)).alloc (Obj.cells #[Value.int .i64 a1_0, Value.int .i64 a1_1, Value.int .i64 a1_2, Value.slice a1_3 n1_3 c1_3, Value.int .i64 a1_4, Value.int .i64 a1_5, Value.int .i64 a1_6, Value.int .i64 a1_7, Value.int .i64 a1_8, Value.slice a1_9 n1_9 c1_9] 59)).cell? ⟨w.heap.size + 1, 0, none⟩ = some (.int .i64 a1_0) := by simp [go_sem]
  have k1_1 : ((w.alloc (Obj.cells #[Value.slice a0_0 n0_0 c0_0, Value.slice a0_1 n0_1 c0_1] 25)).alloc (Obj.cells #[Value.int .i64 a1_0, Value.int .i64 a1_1, Value.int .i64 a1_2, Value.slice a1_3 n1_3 c1_3, Value.int .i64 a1_4, Value.int .i64 a1_5, Value.int .i64 a1_6, Value.int .i64 a1_7, Value.int .i64 a1_8, Value.slice a1_9 n1_9 c1_9] 59)).cell? ⟨w.heap.size + 1, 1, none⟩ = some (.int .i64 a1_1) := by simp [go_sem]
  have k1_2 : ((w.alloc (Obj.cells #[Value.slice a0_0 n0_0 c0_0, Value.slice a0_1 n0_1 c0_1] 25)).alloc (Obj.cells #[Value.int .i64 a1_0, Value.int .i64 a1_1, Value.int .i64 a1_2, Value.slice a1_3 n1_3 c1_3, Value.int .i64 a1_4, Value.int .i64 a1_5, Value.int .i64 a1_6, Value.int .i64 a1_7, Value.int .i64 a1_8, Value.slice a1_9 n1_9 c1_9] 59)).cell? ⟨w.heap.size + 1, 2, none⟩ = some (.int .i64 a1_2) := by simp [go_sem]
  have k1_3 : ((w.alloc (Obj.cells #[Value.slice a0_0 n0_0 c0_0, Value.slice a0_1 n0_1 c0_1] 25)).alloc (Obj.cells #[Value.int .i64 a1_0, Value.int .i64 a1_1, Value.int .i64 a1_2, Value.slice a1_3 n1_3 c1_3, Value.int .i64 a1_4, Value.int .i64 a1_5, Value.int .i64 a1_6, Value.int .i64 a1_7, Value.int .i64 a1_8, Value.slice a1_9 n1_9 c1_9] 59)).cell? ⟨w.heap.size + 1, 3, none⟩ = some (.slice a1_3 n1_3 c1_3) := by simp [go_sem]
  have k1_4 : ((w.alloc (Obj.cells #[Value.slice a0_0 n0_0 c0_0, Value.slice a0_1 n0_1 c0_1] 25)).alloc (Obj.cells #[Value.int .i64 a1_0, Value.int .i64 a1_1, Value.int .i64 a1_2, Value.slice a1_3 n1_3 c1_3, Value.int .i64 a1_4, Value.int .i64 a1_5, Value.int .i64 a1_6, Value.int .i64 a1_7, Value.int .i64 a1_8, Value.slice a1_9 n1_9 c1_9] 59)).cell? ⟨w.heap.size + 1, 4, none⟩ = some (.int .i64 a1_4) := by simp [go_sem]
  have k1_5 : ((w.alloc (Obj.cells #[Value.slice a0_0 n0_0 c0_0, Value.slice a0_1 n0_1 c0_1] 25)).alloc (Obj.cells #[Value.int .i64 a1_0, Value.int .i64 a1_1, Value.int .i64 a1_2, Value.slice a1_3 n1_3 c1_3, Value.int .i64 a1_4, Value.int .i64 a1_5, Value.int .i64 a1_6, Value.int .i64 a1_7, Value.int .i64 a1_8, Value.slice a1_9 n1_9 c1_9] 59)).cell? ⟨w.heap.size + 1, 5, none⟩ = some (.int .i64 a1_5) := by simp [go_sem]
  have k1_6 : ((w.alloc (Obj.cells #[Value.slice a0_0 n0_0 c0_0, Value.slice a0_1 n0_1 c0_1] 25)).alloc (Obj.cells #[Value.int .i64 a1_0, Value.int .i64 a1_1, Value.int .i64 a1_2, Value.slice a1_3 n1_3 c1_3, Value.int .i64 a1_4, Value.int .i64 a1_5, Value.int .i64 a1_6, Value.int .i64 a1_7, Value.int .i64 a1_8, Value.slice a1_9 n1_9 c1_9] 59)).cell? ⟨w.heap.size + 1, 6, none⟩ = some (.int .i64 a1_6) := by simp [go_sem]
  have k1_7 : ((w.alloc (Obj.cells #[Value.slice a0_0 n0_0 c0_0, Value.slice a0_1 n0_1 c0_1] 25)).alloc (Obj.cells #[Value.int .i64 a1_0, Value.int .i64 a1_1, Value.int .i64 a1_2, Value.slice a1_3 n1_3 c1_3, Value.int .i64 a1_4, Value.int .i64 a1_5, Value.int .i64 a1_6, Value.int .i64 a1_7, Value.int .i64 a1_8, Value.slice a1_9 n1_9 c1_9] 59)).cell? ⟨w.heap.size + 1, 7, none⟩ = some (.int .i64 a1_7) := by simp [go_sem]
  have k1_8 : ((w.alloc (Obj.cells #[Value.slice a0_0 n0_0 c0_0, Value.slice a0_1 n0_1 c0_1] 25)).alloc (Obj.cells #[Value.int .i64 a1_0, Value.int .i64 a1_1, Value.int .i64 a1_2, Value.slice a1_3 n1_3 c1_3, Value.int .i64 a1_4, Value.int .i64 a1_5, Value.int .i64 a1_6, Value.int .i64 a1_7, Value.int .i64 a1_8, Value.slice a1_9 n1_9 c1_9] 59)).cell? ⟨w.heap.size + 1, 8, none⟩ = some (.int .i64 a1_8) := by simp [go_sem]
  have k1_9 : ((w.alloc (Obj.cells #[Value.slice a0_0 n0_0 c0_0, Value.slice a0_1 n0_1 c0_1] 25)).alloc (Obj.cells #[Value.int .i64 a1_0, Value.int .i64 a1_1, Value.int .i64 a1_2, Value.slice a1_3 n1_3 c1_3, Value.int .i64 a1_4, Value.int .i64 a1_5, Value.int .i64 a1_6, Value.int .i64 a1_7, Value.int .i64 a1_8, Value.slice a1_9 n1_9 c1_9] 59)).cell? ⟨w.heap.size + 1, 9, none⟩ = some (.slice a1_9 n1_9 c1_9) := by simp [go_sem]
  refine (szTopologyC _ _ _ _ _ _ _ _ (by omega) (by omega) (by omega)).mono ?_
  rintro e w1 ⟨l1, hl1, rfl, m1⟩
  have M1 := M0.trans m1
  replace k0_0 := m1.cellAt k0_0
  replace k0_1 := m1.cellAt k0_1
  replace k1_0 := m1.cellAt k1_0
  replace k1_1 := m1.cellAt k1_1
  replace k1_2 := m1.cellAt k1_2
  replace k1_3 := m1.cellAt k1_3
  replace k1_4 := m1.cellAt k1_4
  replace k1_5 := m1.cellAt k1_5
  replace k1_6 := m1.cellAt k1_6
  replace k1_7 := m1.cellAt k1_7
  replace k1_8 := m1.cellAt k1_8
  replace k1_9 := m1.cellAt k1_9
  have z1 := m1.size
  simp only [World.size_alloc] at z1
  go_wp2_with fail
  refine (szPacketC _ _ _ _ _ _ _ _ _ _ _ _ _ _ z1_3 w.heap.size _ _ (h1_3.mk M1 (Nat.le_refl _) (.inr (Nat.le_refl _))) M1.size (by omega) (by omega) (by omega)).mono ?_
  rintro e w2 ⟨l2, hl2, rfl, m2⟩
  have M2 := M1.trans m2
  have z2 := m2.size
  replace k0_0 := m2.cellAt k0_0
  replace k0_1 := m2.cellAt k0_1
  replace k1_0 := m2.cellAt k1_0
  replace k1_1 := m2.cellAt k1_1
  replace k1_2 := m2.cellAt k1_2
  replace k1_3 := m2.cellAt k1_3
  replace k1_4 := m2.cellAt k1_4
  replace k1_5 := m2.cellAt k1_5
  replace k1_6 := m2.cellAt k1_6
  replace k1_7 := m2.cellAt k1_7
  replace k1_8 := m2.cellAt k1_8
  replace k1_9 := m2.cellAt k1_9
  go_wp2_with fail
  have e1 : ∀ w', Mk0 w2 w' → HasAS w' w.heap.size a0_0 n0_0 z0_0 := fun w' m => h0_0.mk (M2.trans m) (Nat.le_refl _) (.inr (Nat.le_refl _))
  have e2 : ∀ w', Mk0 w2 w' → HasLink w' w.heap.size a0_1 n0_1 z0_1 := fun w' m => h0_1.mk (M2.trans m) (Nat.le_refl _) (.inr (Nat.le_refl _))
  have hN0_0 : n0_0 ≤ 1048576 := by omega
  have hN0_1 : n0_1 ≤ 1048576 := by omega
  have e3 : ∀ w', Mk0 w2 w' → HasPathPart w' w.heap.size a1_3 n1_3 z1_3 := fun w' m => h1_3.mk (M2.trans m) (Nat.le_refl _) (.inr (Nat.le_refl _))
  have e4 : ∀ w', Mk0 w2 w' → HasByte w' w.heap.size a1_9 n1_9 z1_9 := fun w' m => h1_9.mk (M2.trans m) (Nat.le_refl _) (.inr (Nat.le_refl _))
  have hN1_3 : szPathPart z1_3 n1_3 ≤ 1048576 := by omega
  have hN1_9 : n1_9 ≤ 1048576 := by omega
  go_region_held3 (fun w' => Mk0 w2 w' ∧ w'.cell? ⟨w.heap.size, 0, none⟩ = some (.slice a0_0 n0_0 c0_0) ∧ w'.cell? ⟨w.heap.size, 1, none⟩ = some (.slice a0_1 n0_1 c0_1) ∧ w'.cell? ⟨w.heap.size + 1, 0, none⟩ = some (.int .i64 a1_0) ∧ w'.cell? ⟨w.heap.size + 1, 1, none⟩ = some (.int .i64 a1_1) ∧ w'.cell? ⟨w.heap.size + 1, 2, none⟩ = some (.int .i64 a1_2) ∧ w'.cell? ⟨w.heap.size + 1, 3, none⟩ = some (.slice a1_3 n1_3 c1_3) ∧ w'.cell? ⟨w.heap.size + 1, 4, none⟩ = some (.int .i64 a1_4) ∧ w'.cell? ⟨w.heap.size + 1, 5, none⟩ = some (.int .i64 a1_5) ∧ w'.cell? ⟨w.heap.size + 1, 6, none⟩ = some (.int .i64 a1_6) ∧ w'.cell? ⟨w.heap.size + 1, 7, none⟩ = some (.int .i64 a1_7) ∧ w'.cell? ⟨w.heap.size + 1, 8, none⟩ = some (.int .i64 a1_8) ∧ w'.cell? ⟨w.heap.size + 1, 9, none⟩ = some (.slice a1_9 n1_9 c1_9)) (first | exact ⟨Mk.drew1 _, k0_0, k0_1, k1_0, k1_1, k1_2, k1_3, k1_4, k1_5, k1_6, k1_7, k1_8, k1_9⟩ | (obtain ⟨s0, s1, s2, s3, s4, s5, s6, s7, s8, s9, s10, s11, s12⟩ := ‹Mk0 w2 _ ∧ _›; exact ⟨s0.trans mm, mm.cellAt s1, mm.cellAt s2, mm.cellAt s3, mm.cellAt s4, mm.cellAt s5, mm.cellAt s6, mm.cellAt s7, mm.cellAt s8, mm.cellAt s9, mm.cellAt s10, mm.cellAt s11, mm.cellAt s12⟩)) (first | (go_at_call 9; with_reducible refine (toTopologyC a0_0 n0_0 c0_0 z0_0 a0_1 n0_1 c0_1 z0_1 w.heap.size _ (e1 _ (‹Mk0 w2 _ ∧ _›).1) (e2 _ (‹Mk0 w2 _ ∧ _›).1) (M2.trans (‹Mk0 w2 _ ∧ _›).1).size hN0_0 hN0_1).mono ?_; rintro e wc0 ⟨bc0_0, bc0_1, dc0_0, rfl, oc0_0, oc0_1, gc0_0, gc0_1, mc0⟩; have mm := mc0) | (go_at_call 24; with_reducible refine (toPacketC a1_0 a1_1 a1_2 a1_4 a1_5 a1_6 a1_7 a1_8 a1_3 n1_3 c1_3 z1_3 a1_9 n1_9 c1_9 z1_9 w.heap.size _ (e3 _ (‹Mk0 w2 _ ∧ _›).1) (e4 _ (‹Mk0 w2 _ ∧ _›).1) (M2.trans (‹Mk0 w2 _ ∧ _›).1).size hN1_3 hN1_9).mono ?_; rintro e wc1 ⟨bc1_0, bc1_1, dc1_0, rfl, oc1_0, oc1_1, gc1_0, gc1_1, mc1⟩; have mm := mc1) | (go_at_call 23; refine (specFPk _ _ _ _ _ _ _ z0_0 a1_0 a1_1 a1_2 a1_4 a1_5 a1_6 a1_7 a1_8 _ _ _ _ _ _ _ z1_3 _ (by first | exact (oc0_0.has.mono gc0_1) | exact (oc0_0.has.mono gc0_1).mk mc1 (Nat.le_refl _) (.inr (Nat.le_refl _))) (by first | exact Nat.le_refl _ | exact mc1.size) hN0_0 f0_0 (by first | exact (oc1_0.has.mono gc1_1) | exact (oc1_0.has.mono gc1_1).mk mc0 (Nat.le_refl _) (.inr (Nat.le_refl _))) (by first | exact Nat.le_refl _ | exact mc0.size) hN1_3 f1_3 (i64_of w1_8).1 (i64_of w1_8).2).mono ?_; rintro e wz3 ⟨rfl, mm⟩))
  all_goals (
    obtain ⟨m3, k0_0, k0_1, k1_0, k1_1, k1_2, k1_3, k1_4, k1_5, k1_6, k1_7, k1_8, k1_9⟩ := ‹Mk0 w2 _ ∧ _›
    refine ‹∀ (a : Act) (w : World), _ → _› _ _ ?_
    clear e1 e2 hN0_0 hN0_1 e3 e4 hN1_3 hN1_9
    have M3 := M2.trans m3
    have z3 := m3.size
    go_wp2_with fail
    refine (toTopologyC _ _ _ _ _ _ _ _ w.heap.size _ (h0_0.mk M3 (Nat.le_refl _) (.inr (Nat.le_refl _))) (h0_1.mk M3 (Nat.le_refl _) (.inr (Nat.le_refl _))) (by omega) (by omega) (by omega)).mono ?_
    rintro e w4 ⟨b5, b6, d7, rfl, o8, o9, g10, g11, m4⟩
    have M4 := M3.trans m4
    have z4 := m4.size
    replace k0_0 := m4.cellAt k0_0
    replace k0_1 := m4.cellAt k0_1
    replace k1_0 := m4.cellAt k1_0
    replace k1_1 := m4.cellAt k1_1
    replace k1_2 := m4.cellAt k1_2
    replace k1_3 := m4.cellAt k1_3
    replace k1_4 := m4.cellAt k1_4
    replace k1_5 := m4.cellAt k1_5
    replace k1_6 := m4.cellAt k1_6
    replace k1_7 := m4.cellAt k1_7
    replace k1_8 := m4.cellAt k1_8
    replace k1_9 := m4.cellAt k1_9
    have h12 := o8.has.mono (B' := w4.heap.size) (by omega)
    clear o8
    have h13 := o9.has.mono (B' := w4.heap.size) (by omega)
    clear o9
    have yb14 : w.heap.size < w4.heap.size := by omega
    have yb15 : w.heap.size + 1 < w4.heap.size := by omega
    go_wp2_with fail
    have xx0_0 : (w4.alloc (Obj.cells #[Value.slice (some ⟨b5, 0, none⟩) n0_0 n0_0, Value.slice (some ⟨b6, 0, none⟩) n0_1 n0_1] 31)).cell? ⟨w4.heap.size, 0, none⟩ = some (.slice (some ⟨b5, 0, none⟩) n0_0 n0_0) := by rw [World.cell?_alloc_at _ _ _ _ rfl]; rfl
    have xx0_1 : (w4.alloc (Obj.cells #[Value.slice (some ⟨b5, 0, none⟩) n0_0 n0_0, Value.slice (some ⟨b6, 0, none⟩) n0_1 n0_1] 31)).cell? ⟨w4.heap.size, 1, none⟩ = some (.slice (some ⟨b6, 0, none⟩) n0_1 n0_1) := by rw [World.cell?_alloc_at _ _ _ _ rfl]; rfl
    have m5 := Mk.alloc w4 (Obj.cells #[Value.slice (some ⟨b5, 0, none⟩) n0_0 n0_0, Value.slice (some ⟨b6, 0, none⟩) n0_1 n0_1] 31)
    replace k0_0 := m5.cellAt k0_0
    replace k0_1 := m5.cellAt k0_1
    replace k1_0 := m5.cellAt k1_0
    replace k1_1 := m5.cellAt k1_1
    replace k1_2 := m5.cellAt k1_2
    replace k1_3 := m5.cellAt k1_3
    replace k1_4 := m5.cellAt k1_4
    replace k1_5 := m5.cellAt k1_5
    replace k1_6 := m5.cellAt k1_6
    replace k1_7 := m5.cellAt k1_7
    replace k1_8 := m5.cellAt k1_8
    replace k1_9 := m5.cellAt k1_9
    replace h12 := h12.mk m5 (by omega) (.inr (Nat.le_refl _))
    replace h13 := h13.mk m5 (by omega) (.inr (Nat.le_refl _))
    have M5 := M4.trans m5
    have z5 := m5.size
    have zz5 : w4.heap.size < (w4.alloc (Obj.cells #[Value.slice (some ⟨b5, 0, none⟩) n0_0 n0_0, Value.slice (some ⟨b6, 0, none⟩) n0_1 n0_1] 31)).heap.size := by rw [World.size_alloc]; omega
    generalize (w4.alloc (Obj.cells #[Value.slice (some ⟨b5, 0, none⟩) n0_0 n0_0, Value.slice (some ⟨b6, 0, none⟩) n0_1 n0_1] 31)) = w5 at *
    refine (toPacketC _ _ _ _ _ _ _ _ _ _ _ _ _ _ _ _ w.heap.size _ (h1_3.mk M5 (Nat.le_refl _) (.inr (Nat.le_refl _))) (h1_9.mk M5 (Nat.le_refl _) (.inr (Nat.le_refl _))) (by omega) (by omega) (by omega)).mono ?_
    rintro e w6 ⟨b16, b17, d18, rfl, o19, o20, g21, g22, m6⟩
    have M6 := M5.trans m6
    have z6 := m6.size
    replace k0_0 := m6.cellAt k0_0
    replace k0_1 := m6.cellAt k0_1
    replace k1_0 := m6.cellAt k1_0
    replace k1_1 := m6.cellAt k1_1
    replace k1_2 := m6.cellAt k1_2
    replace k1_3 := m6.cellAt k1_3
    replace k1_4 := m6.cellAt k1_4
    replace k1_5 := m6.cellAt k1_5
    replace k1_6 := m6.cellAt k1_6
    replace k1_7 := m6.cellAt k1_7
    replace k1_8 := m6.cellAt k1_8
    replace k1_9 := m6.cellAt k1_9
    replace xx0_0 := m6.cellAt xx0_0
    replace xx0_1 := m6.cellAt xx0_1
    replace h12 := h12.mk m6 (by omega) (.inr (Nat.le_refl _))
    replace h13 := h13.mk m6 (by omega) (.inr (Nat.le_refl _))
    have h23 := o19.has.mono (B' := w6.heap.size) (by omega)
    clear o19
    have h24 := o20.has.mono (B' := w6.heap.size) (by omega)
    clear o20
    have yb25 : w.heap.size < w6.heap.size := by omega
    have yb26 : w.heap.size + 1 < w6.heap.size := by omega
    have yb27 : w4.heap.size < w6.heap.size := by omega
    go_wp2_with fail
    have xx1_0 : (w6.alloc (Obj.cells #[Value.int .i64 a1_0, Value.int .i64 a1_1, Value.int .i64 a1_2, Value.slice (some ⟨b16, 0, none⟩) n1_3 n1_3, Value.int .i64 a1_4, Value.int .i64 a1_5, Value.int .i64 a1_6, Value.int .i64 a1_7, Value.int .i64 a1_8, Value.slice (some ⟨b17, 0, none⟩) n1_9 n1_9] 63)).cell? ⟨w6.heap.size, 0, none⟩ = some (.int .i64 a1_0) := by rw [World.cell?_alloc_at _ _ _ _ rfl]; rfl
    have xx1_1 : (w6.alloc (Obj.cells #[Value.int .i64 a1_0, Value.int .i64 a1_1, Value.int .i64 a1_2, Value.slice (some ⟨b16, 0, none⟩) n1_3 n1_3, Value.int .i64 a1_4, Value.int .i64 a1_5, Value.int .i64 a1_6, Value.int .i64 a1_7, Value.int .i64 a1_8, Value.slice (some ⟨b17, 0, none⟩) n1_9 n1_9] 63)).cell? ⟨w6.heap.size, 1, none⟩ = some (.int .i64 a1_1) := by rw [World.cell?_alloc_at _ _ _ _ rfl]; rfl
    have xx1_2 : (w6.alloc (Obj.cells #[Value.int .i64 a1_0, Value.int .i64 a1_1, Value.int .i64 a1_2, Value.slice (some ⟨b16, 0, none⟩) n1_3 n1_3, Value.int .i64 a1_4, Value.int .i64 a1_5, Value.int .i64 a1_6, Value.int .i64 a1_7, Value.int .i64 a1_8, Value.slice (some ⟨b17, 0, none⟩) n1_9 n1_9] 63)).cell? ⟨w6.heap.size, 2, none⟩ = some (.int .i64 a1_2) := by rw [World.cell?_alloc_at _ _ _ _ rfl]; rfl
    have xx1_3 : (w6.alloc (Obj.cells #[Value.int .i64 a1_0, Value.int .i64 a1_1, Value.int .i64 a1_2, Value.slice (some ⟨b16, 0, none⟩) n1_3 n1_3, Value.int .i64 a1_4, Value.int .i64 a1_5, Value.int .i64 a1_6, Value.int .i64 a1_7, Value.int .i64 a1_8, Value.slice (some ⟨b17, 0, none⟩) n1_9 n1_9] 63)).cell? ⟨w6.heap.size, 3, none⟩ = some (.slice (some ⟨b16, 0, none⟩) n1_3 n1_3) := by rw [World.cell?_alloc_at _ _ _ _ rfl]; rfl
    have xx1_4 : (w6.alloc (Obj.cells #[Value.int .i64 a1_0, Value.int .i64 a1_1, Value.int .i64 a1_2, Value.slice (some ⟨b16, 0, none⟩) n1_3 n1_3, Value.int .i64 a1_4, Value.int .i64 a1_5, Value.int .i64 a1_6, Value.int .i64 a1_7, Value.int .i64 a1_8, Value.slice (some ⟨b17, 0, none⟩) n1_9 n1_9] 63)).cell? ⟨w6.heap.size, 4, none⟩ = some (.int .i64 a1_4) := by rw [World.cell?_alloc_at _ _ _ _ rfl]; rfl
    have xx1_5 : (w6.alloc (Obj.cells #[Value.int .i64 a1_0, Value.int .i64 a1_1, Value.int .i64 a1_2, Value.slice (some ⟨b16, 0, none⟩) n1_3 n1_3, Value.int .i64 a1_4, Value.int .i64 a1_5, Value.int .i64 a1_6, Value.int .i64 a1_7, Value.int .i64 a1_8, Value.slice (some ⟨b17, 0, none⟩) n1_9 n1_9] 63)).cell? ⟨w6.heap.size, 5, none⟩ = some (.int .i64 a1_5) := by rw [World.cell?_alloc_at _ _ _ _ rfl]; rfl
    have xx1_6 : (w6.alloc (Obj.cells #[Value.int .i64 a1_0, Value.int .i64 a1_1, Value.int .i64 a1_2, Value.slice (some ⟨b16, 0, none⟩) n1_3 n1_3, Value.int .i64 a1_4, Value.int .i64 a1_5, Value.int .i64 a1_6, Value.int .i64 a1_7, Value.int .i64 a1_8, Value.slice (some ⟨b17, 0, none⟩) n1_9 n1_9] 63)).cell? ⟨w6.heap.size, 6, none⟩ = some (.int .i64 a1_6) := by rw [World.cell?_alloc_at _ _ _ _ rfl]; rfl
    have xx1_7 : (w6.alloc (Obj.cells #[Value.int .i64 a1_0, Value.int .i64 a1_1, Value.int .i64 a1_2, Value.slice (some ⟨b16, 0, none⟩) n1_3 n1_3, Value.int .i64 a1_4, Value.int .i64 a1_5, Value.int .i64 a1_6, Value.int .i64 a1_7, Value.int .i64 a1_8, Value.slice (some ⟨b17, 0, none⟩) n1_9 n1_9] 63)).cell? ⟨w6.heap.size, 7, none⟩ = some (.int .i64 a1_7) := by rw [World.cell?_alloc_at _ _ _ _ rfl]; rfl
    have xx1_8 : (w6.alloc (Obj.cells #[Value.int .i64 a1_0, Value.int .i64 a1_1, Value.int .i64 a1_2, Value.slice (some ⟨b16, 0, none⟩) n1_3 n1_3, Value.int .i64 a1_4, Value.int .i64 a1_5, Value.int .i64 a1_6, Value.int .i64 a1_7, Value.int .i64 a1_8, Value.slice (some ⟨b17, 0, none⟩) n1_9 n1_9] 63)).cell? ⟨w6.heap.size, 8, none⟩ = some (.int .i64 a1_8) := by rw [World.cell?_alloc_at _ _ _ _ rfl]; rfl
    have xx1_9 : (w6.alloc (Obj.cells #[Value.int .i64 a1_0, Value.int .i64 a1_1, Value.int .i64 a1_2, Value.slice (some ⟨b16, 0, none⟩) n1_3 n1_3, Value.int .i64 a1_4, Value.int .i64 a1_5, Value.int .i64 a1_6, Value.int .i64 a1_7, Value.int .i64 a1_8, Value.slice (some ⟨b17, 0, none⟩) n1_9 n1_9] 63)).cell? ⟨w6.heap.size, 9, none⟩ = some (.slice (some ⟨b17, 0, none⟩) n1_9 n1_9) := by rw [World.cell?_alloc_at _ _ _ _ rfl]; rfl
    have m7 := Mk.alloc w6 (Obj.cells #[Value.int .i64 a1_0, Value.int .i64 a1_1, Value.int .i64 a1_2, Value.slice (some ⟨b16, 0, none⟩) n1_3 n1_3, Value.int .i64 a1_4, Value.int .i64 a1_5, Value.int .i64 a1_6, Value.int .i64 a1_7, Value.int .i64 a1_8, Value.slice (some ⟨b17, 0, none⟩) n1_9 n1_9] 63)
    replace k0_0 := m7.cellAt k0_0
    replace k0_1 := m7.cellAt k0_1
    replace k1_0 := m7.cellAt k1_0
    replace k1_1 := m7.cellAt k1_1
    replace k1_2 := m7.cellAt k1_2
    replace k1_3 := m7.cellAt k1_3
    replace k1_4 := m7.cellAt k1_4
    replace k1_5 := m7.cellAt k1_5
    replace k1_6 := m7.cellAt k1_6
    replace k1_7 := m7.cellAt k1_7
    replace k1_8 := m7.cellAt k1_8
    replace k1_9 := m7.cellAt k1_9
    replace xx0_0 := m7.cellAt xx0_0
    replace xx0_1 := m7.cellAt xx0_1
    replace h12 := h12.mk m7 (by omega) (.inr (Nat.le_refl _))
    replace h13 := h13.mk m7 (by omega) (.inr (Nat.le_refl _))
    replace h23 := h23.mk m7 (by omega) (.inr (Nat.le_refl _))
    replace h24 := h24.mk m7 (by omega) (.inr (Nat.le_refl _))
    have M7 := M6.trans m7
    have z7 := m7.size
    have zz7 : w6.heap.size < (w6.alloc (Obj.cells #[Value.int .i64 a1_0, Value.int .i64 a1_1, Value.int .i64 a1_2, Value.slice (some ⟨b16, 0, none⟩) n1_3 n1_3, Value.int .i64 a1_4, Value.int .i64 a1_5, Value.int .i64 a1_6, Value.int .i64 a1_7, Value.int .i64 a1_8, Value.slice (some ⟨b17, 0, none⟩) n1_9 n1_9] 63)).heap.size := by rw [World.size_alloc]; omega
    generalize (w6.alloc (Obj.cells #[Value.int .i64 a1_0, Value.int .i64 a1_1, Value.int .i64 a1_2, Value.slice (some ⟨b16, 0, none⟩) n1_3 n1_3, Value.int .i64 a1_4, Value.int .i64 a1_5, Value.int .i64 a1_6, Value.int .i64 a1_7, Value.int .i64 a1_8, Value.slice (some ⟨b17, 0, none⟩) n1_9 n1_9] 63)) = w7 at *
    have hN0_0 : n0_0 ≤ 1048576 := by omega
    have hN0_1 : n0_1 ≤ 1048576 := by omega
    have hN1_3 : szPathPart z1_3 n1_3 ≤ 1048576 := by omega
    have hN1_9 : n1_9 ≤ 1048576 := by omega
    refine (implFPk _ _ _ _ _ _ _ z0_0 a1_0 a1_1 a1_2 a1_4 a1_5 a1_6 a1_7 a1_8 _ _ _ _ _ _ _ z1_3 _ h12 (by omega) hN0_0 f0_0 h23 (by omega) hN1_3 f1_3 (i64_of w1_8).1 (i64_of w1_8).2 (tab_mk htab M7)).mono ?_
    rintro e w8 ⟨rfl, m8⟩
    have M8 := M7.trans m8
    have z8 := m8.size
    replace k0_0 := m8.cellAt k0_0
    replace k0_1 := m8.cellAt k0_1
    replace k1_0 := m8.cellAt k1_0
    replace k1_1 := m8.cellAt k1_1
    replace k1_2 := m8.cellAt k1_2
    replace k1_3 := m8.cellAt k1_3
    replace k1_4 := m8.cellAt k1_4
    replace k1_5 := m8.cellAt k1_5
    replace k1_6 := m8.cellAt k1_6
    replace k1_7 := m8.cellAt k1_7
    replace k1_8 := m8.cellAt k1_8
    replace k1_9 := m8.cellAt k1_9
    replace xx0_0 := m8.cellAt xx0_0
    replace xx0_1 := m8.cellAt xx0_1
    replace xx1_0 := m8.cellAt xx1_0
    replace xx1_1 := m8.cellAt xx1_1
    replace xx1_2 := m8.cellAt xx1_2
    replace xx1_3 := m8.cellAt xx1_3
    replace xx1_4 := m8.cellAt xx1_4
    replace xx1_5 := m8.cellAt xx1_5
    replace xx1_6 := m8.cellAt xx1_6
    replace xx1_7 := m8.cellAt xx1_7
    replace xx1_8 := m8.cellAt xx1_8
    replace xx1_9 := m8.cellAt xx1_9
    replace h12 := h12.mk m8 (by omega) (.inr (Nat.le_refl _))
    replace h13 := h13.mk m8 (by omega) (.inr (Nat.le_refl _))
    replace h23 := h23.mk m8 (by omega) (.inr (Nat.le_refl _))
    replace h24 := h24.mk m8 (by omega) (.inr (Nat.le_refl _))
    go_wp2_with fail
    have e28 : ∀ w', Mk0 w8 w' → HasAS w' w4.heap.size (some ⟨b5, 0, none⟩) n0_0 z0_0 := fun w' m => h12.mk m (by omega) (.inr (Nat.le_refl _))
    have e29 : ∀ w', Mk0 w8 w' → HasLink w' w4.heap.size (some ⟨b6, 0, none⟩) n0_1 z0_1 := fun w' m => h13.mk m (by omega) (.inr (Nat.le_refl _))
    have e30 : ∀ w', Mk0 w8 w' → w4.heap.size ≤ w'.heap.size := fun w' m => Nat.le_trans (by omega) m.size
    have e31 : ∀ w', Mk0 w8 w' → HasAS w' w.heap.size a0_0 n0_0 z0_0 := fun w' m => h0_0.mk (M8.trans m) (Nat.le_refl _) (.inr (Nat.le_refl _))
    have e32 : ∀ w', Mk0 w8 w' → HasLink w' w.heap.size a0_1 n0_1 z0_1 := fun w' m => h0_1.mk (M8.trans m) (Nat.le_refl _) (.inr (Nat.le_refl _))
    have hN0_0 : n0_0 ≤ 1048576 := by omega
    have hN0_1 : n0_1 ≤ 1048576 := by omega
    go_region_held3 (fun w' => Mk0 w8 w' ∧ w'.cell? ⟨w.heap.size, 0, none⟩ = some (.slice a0_0 n0_0 c0_0) ∧ w'.cell? ⟨w.heap.size, 1, none⟩ = some (.slice a0_1 n0_1 c0_1) ∧ w'.cell? ⟨w.heap.size + 1, 0, none⟩ = some (.int .i64 a1_0) ∧ w'.cell? ⟨w.heap.size + 1, 1, none⟩ = some (.int .i64 a1_1) ∧ w'.cell? ⟨w.heap.size + 1, 2, none⟩ = some (.int .i64 a1_2) ∧ w'.cell? ⟨w.heap.size + 1, 3, none⟩ = some (.slice a1_3 n1_3 c1_3) ∧ w'.cell? ⟨w.heap.size + 1, 4, none⟩ = some (.int .i64 a1_4) ∧ w'.cell? ⟨w.heap.size + 1, 5, none⟩ = some (.int .i64 a1_5) ∧ w'.cell? ⟨w.heap.size + 1, 6, none⟩ = some (.int .i64 a1_6) ∧ w'.cell? ⟨w.heap.size + 1, 7, none⟩ = some (.int .i64 a1_7) ∧ w'.cell? ⟨w.heap.size + 1, 8, none⟩ = some (.int .i64 a1_8) ∧ w'.cell? ⟨w.heap.size + 1, 9, none⟩ = some (.slice a1_9 n1_9 c1_9) ∧ w'.cell? ⟨w4.heap.size, 0, none⟩ = some (.slice (some ⟨b5, 0, none⟩) n0_0 n0_0) ∧ w'.cell? ⟨w4.heap.size, 1, none⟩ = some (.slice (some ⟨b6, 0, none⟩) n0_1 n0_1) ∧ w'.cell? ⟨w6.heap.size, 0, none⟩ = some (.int .i64 a1_0) ∧ w'.cell? ⟨w6.heap.size, 1, none⟩ = some (.int .i64 a1_1) ∧ w'.cell? ⟨w6.heap.size, 2, none⟩ = some (.int .i64 a1_2) ∧ w'.cell? ⟨w6.heap.size, 3, none⟩ = some (.slice (some ⟨b16, 0, none⟩) n1_3 n1_3) ∧ w'.cell? ⟨w6.heap.size, 4, none⟩ = some (.int .i64 a1_4) ∧ w'.cell? ⟨w6.heap.size, 5, none⟩ = some (.int .i64 a1_5) ∧ w'.cell? ⟨w6.heap.size, 6, none⟩ = some (.int .i64 a1_6) ∧ w'.cell? ⟨w6.heap.size, 7, none⟩ = some (.int .i64 a1_7) ∧ w'.cell? ⟨w6.heap.size, 8, none⟩ = some (.int .i64 a1_8) ∧ w'.cell? ⟨w6.heap.size, 9, none⟩ = some (.slice (some ⟨b17, 0, none⟩) n1_9 n1_9)) (first | exact ⟨Mk.drew1 _, k0_0, k0_1, k1_0, k1_1, k1_2, k1_3, k1_4, k1_5, k1_6, k1_7, k1_8, k1_9, xx0_0, xx0_1, xx1_0, xx1_1, xx1_2, xx1_3, xx1_4, xx1_5, xx1_6, xx1_7, xx1_8, xx1_9⟩ | (obtain ⟨s0, s1, s2, s3, s4, s5, s6, s7, s8, s9, s10, s11, s12, s13, s14, s15, s16, s17, s18, s19, s20, s21, s22, s23, s24⟩ := ‹Mk0 w8 _ ∧ _›; exact ⟨s0.trans mm, mm.cellAt s1, mm.cellAt s2, mm.cellAt s3, mm.cellAt s4, mm.cellAt s5, mm.cellAt s6, mm.cellAt s7, mm.cellAt s8, mm.cellAt s9, mm.cellAt s10, mm.cellAt s11, mm.cellAt s12, mm.cellAt s13, mm.cellAt s14, mm.cellAt s15, mm.cellAt s16, mm.cellAt s17, mm.cellAt s18, mm.cellAt s19, mm.cellAt s20, mm.cellAt s21, mm.cellAt s22, mm.cellAt s23, mm.cellAt s24⟩)) (first | (go_at_call 9; refine (toTopologyC _ _ _ _ _ _ _ _ w.heap.size _ (e31 _ (‹Mk0 w8 _ ∧ _›).1) (e32 _ (‹Mk0 w8 _ ∧ _›).1) (M8.trans (‹Mk0 w8 _ ∧ _›).1).size hN0_0 hN0_1).mono ?_; rintro e wa ⟨bb0, bb1, dd0, rfl, oo0, oo1, gg0, gg1, mm⟩) | (go_at_call 11; refine (eqTopologyC _ _ _ _ _ _ _ _ _ _ _ _ _ _ _ (e28 _ (‹Mk0 w8 _ ∧ _›).1) (e29 _ (‹Mk0 w8 _ ∧ _›).1) (oo0.has.mono gg1) (oo1.has.mono (Nat.le_refl _)) (e30 _ (‹Mk0 w8 _ ∧ _›).1) (Nat.le_refl _) hN0_0 hN0_1).mono ?_; rintro e wb9 ⟨rfl, mm⟩))
    obtain ⟨m9, k0_0, k0_1, k1_0, k1_1, k1_2, k1_3, k1_4, k1_5, k1_6, k1_7, k1_8, k1_9, xx0_0, xx0_1, xx1_0, xx1_1, xx1_2, xx1_3, xx1_4, xx1_5, xx1_6, xx1_7, xx1_8, xx1_9⟩ := ‹Mk0 w8 _ ∧ _›
    clear e28 e29 e30 e31 e32 hN0_0 hN0_1
    refine ‹∀ (a : Act) (w : World), _ → _› _ _ ?_
    have M9 := M8.trans m9
    have z9 := m9.size
    replace h12 := h12.mk m9 (by omega) (.inr (Nat.le_refl _))
    replace h13 := h13.mk m9 (by omega) (.inr (Nat.le_refl _))
    replace h23 := h23.mk m9 (by omega) (.inr (Nat.le_refl _))
    replace h24 := h24.mk m9 (by omega) (.inr (Nat.le_refl _))
    go_wp2_with fail
    have e33 : ∀ w', Mk0 wb9 w' → HasPathPart w' w6.heap.size (some ⟨b16, 0, none⟩) n1_3 z1_3 := fun w' m => h23.mk m (by omega) (.inr (Nat.le_refl _))
    have e34 : ∀ w', Mk0 wb9 w' → HasByte w' w6.heap.size (some ⟨b17, 0, none⟩) n1_9 z1_9 := fun w' m => h24.mk m (by omega) (.inr (Nat.le_refl _))
    have e35 : ∀ w', Mk0 wb9 w' → w6.heap.size ≤ w'.heap.size := fun w' m => Nat.le_trans (by omega) m.size
    have e36 : ∀ w', Mk0 wb9 w' → HasPathPart w' w.heap.size a1_3 n1_3 z1_3 := fun w' m => h1_3.mk (M9.trans m) (Nat.le_refl _) (.inr (Nat.le_refl _))
    have e37 : ∀ w', Mk0 wb9 w' → HasByte w' w.heap.size a1_9 n1_9 z1_9 := fun w' m => h1_9.mk (M9.trans m) (Nat.le_refl _) (.inr (Nat.le_refl _))
    have hN1_3 : szPathPart z1_3 n1_3 ≤ 1048576 := by omega
    have hN1_9 : n1_9 ≤ 1048576 := by omega
    go_region_held3 (fun w' => Mk0 wb9 w' ∧ w'.cell? ⟨w.heap.size, 0, none⟩ = some (.slice a0_0 n0_0 c0_0) ∧ w'.cell? ⟨w.heap.size, 1, none⟩ = some (.slice a0_1 n0_1 c0_1) ∧ w'.cell? ⟨w.heap.size + 1, 0, none⟩ = some (.int .i64 a1_0) ∧ w'.cell? ⟨w.heap.size + 1, 1, none⟩ = some (.int .i64 a1_1) ∧ w'.cell? ⟨w.heap.size + 1, 2, none⟩ = some (.int .i64 a1_2) ∧ w'.cell? ⟨w.heap.size + 1, 3, none⟩ = some (.slice a1_3 n1_3 c1_3) ∧ w'.cell? ⟨w.heap.size + 1, 4, none⟩ = some (.int .i64 a1_4) ∧ w'.cell? ⟨w.heap.size + 1, 5, none⟩ = some (.int .i64 a1_5) ∧ w'.cell? ⟨w.heap.size + 1, 6, none⟩ = some (.int .i64 a1_6) ∧ w'.cell? ⟨w.heap.size + 1, 7, none⟩ = some (.int .i64 a1_7) ∧ w'.cell? ⟨w.heap.size + 1, 8, none⟩ = some (.int .i64 a1_8) ∧ w'.cell? ⟨w.heap.size + 1, 9, none⟩ = some (.slice a1_9 n1_9 c1_9) ∧ w'.cell? ⟨w4.heap.size, 0, none⟩ = some (.slice (some ⟨b5, 0, none⟩) n0_0 n0_0) ∧ w'.cell? ⟨w4.heap.size, 1, none⟩ = some (.slice (some ⟨b6, 0, none⟩) n0_1 n0_1) ∧ w'.cell? ⟨w6.heap.size, 0, none⟩ = some (.int .i64 a1_0) ∧ w'.cell? ⟨w6.heap.size, 1, none⟩ = some (.int .i64 a1_1) ∧ w'.cell? ⟨w6.heap.size, 2, none⟩ = some (.int .i64 a1_2) ∧ w'.cell? ⟨w6.heap.size, 3, none⟩ = some (.slice (some ⟨b16, 0, none⟩) n1_3 n1_3) ∧ w'.cell? ⟨w6.heap.size, 4, none⟩ = some (.int .i64 a1_4) ∧ w'.cell? ⟨w6.heap.size, 5, none⟩ = some (.int .i64 a1_5) ∧ w'.cell? ⟨w6.heap.size, 6, none⟩ = some (.int .i64 a1_6) ∧ w'.cell? ⟨w6.heap.size, 7, none⟩ = some (.int .i64 a1_7) ∧ w'.cell? ⟨w6.heap.size, 8, none⟩ = some (.int .i64 a1_8) ∧ w'.cell? ⟨w6.heap.size, 9, none⟩ = some (.slice (some ⟨b17, 0, none⟩) n1_9 n1_9)) (first | exact ⟨Mk.drew1 _, k0_0, k0_1, k1_0, k1_1, k1_2, k1_3, k1_4, k1_5, k1_6, k1_7, k1_8, k1_9, xx0_0, xx0_1, xx1_0, xx1_1, xx1_2, xx1_3, xx1_4, xx1_5, xx1_6, xx1_7, xx1_8, xx1_9⟩ | (obtain ⟨s0, s1, s2, s3, s4, s5, s6, s7, s8, s9, s10, s11, s12, s13, s14, s15, s16, s17, s18, s19, s20, s21, s22, s23, s24⟩ := ‹Mk0 wb9 _ ∧ _›; exact ⟨s0.trans mm, mm.cellAt s1, mm.cellAt s2, mm.cellAt s3, mm.cellAt s4, mm.cellAt s5, mm.cellAt s6, mm.cellAt s7, mm.cellAt s8, mm.cellAt s9, mm.cellAt s10, mm.cellAt s11, mm.cellAt s12, mm.cellAt s13, mm.cellAt s14, mm.cellAt s15, mm.cellAt s16, mm.cellAt s17, mm.cellAt s18, mm.cellAt s19, mm.cellAt s20, mm.cellAt s21, mm.cellAt s22, mm.cellAt s23, mm.cellAt s24⟩)) (first | (go_at_call 24; refine (toPacketC _ _ _ _ _ _ _ _ _ _ _ _ _ _ _ _ w.heap.size _ (e36 _ (‹Mk0 wb9 _ ∧ _›).1) (e37 _ (‹Mk0 wb9 _ ∧ _›).1) (M9.trans (‹Mk0 wb9 _ ∧ _›).1).size hN1_3 hN1_9).mono ?_; rintro e wa ⟨bb0, bb1, dd0, rfl, oo0, oo1, gg0, gg1, mm⟩) | (go_at_call 26; refine (eqPacketC _ _ _ _ _ _ _ _ _ _ _ _ _ _ _ _ _ _ _ _ _ _ _ (e33 _ (‹Mk0 wb9 _ ∧ _›).1) (e34 _ (‹Mk0 wb9 _ ∧ _›).1) (oo0.has.mono gg1) (oo1.has.mono (Nat.le_refl _)) (e35 _ (‹Mk0 wb9 _ ∧ _›).1) (Nat.le_refl _) hN1_3 hN1_9).mono ?_; rintro e wb10 ⟨rfl, mm⟩))
    obtain ⟨m10, k0_0, k0_1, k1_0, k1_1, k1_2, k1_3, k1_4, k1_5, k1_6, k1_7, k1_8, k1_9, xx0_0, xx0_1, xx1_0, xx1_1, xx1_2, xx1_3, xx1_4, xx1_5, xx1_6, xx1_7, xx1_8, xx1_9⟩ := ‹Mk0 wb9 _ ∧ _›
    clear e33 e34 e35 e36 e37 hN1_3 hN1_9
    refine ‹∀ (a : Act) (w : World), _ → _› _ _ ?_
    have M10 := M9.trans m10
    have z10 := m10.size
    replace h23 := h23.mk m10 (by omega) (.inr (Nat.le_refl _))
    replace h24 := h24.mk m10 (by omega) (.inr (Nat.le_refl _))
    go_wp2_with fail
    go_ret
    exact ⟨rfl, M10.below0⟩)

set_option maxRecDepth 100000 in
theorem contract (H : Type) (enc : TypeId × Value → H) (W : World) (base : Nat) (args : Array Value) (ds gs : List (DataW H)) (before : List MemPlace)
    (hval0 : ∀ (j : Nat) t v, Tryd.f6.params[j]? = some t → args[j]? = some v → Value.okWide Tryd.prog W .any base t v)
    (hW : DataW.Whole enc Tryd.prog Tryd.f6.params.toList Rows.fnExactFormatPacketSpec.vars false W args.toList ds gs before) (hL : laidMetH Tryd.prog Rows.fnExactFormatPacketRow.laid W) :
    Calls Tryd.prog 6 args W fun e W' => ∃ v, e = .returned v ∧ Rows.fnExactFormatPacketSpec.post enc Tryd.prog Tryd.f6 false true false false W args v W' := by
  have hval : ∀ (j : Nat) t v, Tryd.f6.params[j]? = some t → args[j]? = some v → Value.okWide Tryd.prog W .any base t v := hval0
  have hW' := hW
  obtain ⟨p, q, hA0, hV, rfl, hfz, hnd⟩ := hW
  have hA : DataW.TrodAll enc Tryd.prog W 0 (fun _ => true) true Tryd.f6.params.toList args.toList ds p := hA0
  rw [Tryd.params6] at hA hval
  obtain ⟨v0, vs0, d0, ds0, p0, q0, hargs, rfl, rfl, h0, r0⟩ := trodAll_cons hA
  obtain ⟨v1, vs1, d1, ds1, p1, q1, rfl, rfl, rfl, h1, r1⟩ := trodAll_cons r0
  obtain ⟨rfl, rfl, rfl⟩ := trodAll_nil r1
  obtain rfl : args = #[v0, v1] := by cases args; simp_all
  obtain ⟨rfl, rfl⟩ := trodVars_none hV
  have k0 := h0
  have lt0 : ∀ x ∈ p0, x.block < W.heap.size := by obtain ⟨m, hm⟩ := k0; exact DataW.trod_lt m _ _ _ hm
  obtain ⟨cs0, rfl, hcs0, hf0⟩ := open_agg Tryd.underlying25 (by kernel_rfl) (by kernel_rfl) (hval 0 25 v0 rfl rfl) h0
  obtain ⟨_, _, _, e0_0, q0_0⟩ := hf0 0 _ rfl
  obtain ⟨a0_0, n0_0, c0_0, z0_0, rfl, m0_0, h0_0, f0_0⟩ := openASS q0_0
  obtain ⟨_, _, _, e0_1, q0_1⟩ := hf0 1 _ rfl
  obtain ⟨a0_1, n0_1, c0_1, z0_1, rfl, m0_1, h0_1, f0_1⟩ := openLinkS q0_1
  obtain rfl : cs0 = #[.slice a0_0 n0_0 c0_0, .slice a0_1 n0_1 c0_1] := arr_of [.slice a0_0 n0_0 c0_0, .slice a0_1 n0_1 c0_1] hcs0 (fun j hj => by match j, hj with | 0, _ => exact e0_0 | 1, _ => exact e0_1)
  have k1 := h1
  have lt1 : ∀ x ∈ p1, x.block < W.heap.size := by obtain ⟨m, hm⟩ := k1; exact DataW.trod_lt m _ _ _ hm
  obtain ⟨cs1, rfl, hcs1, hl1⟩ := lf_open 10 Tryd.underlying59 (by kernel_rfl) (hval 1 59 v1 rfl rfl) h1
  have L1_0 := lf_field (a := 0) (b := 1) 0 _ Tryd.underlying59 rfl rfl (by kernel_rfl) (by decide) hl1
  obtain ⟨_, _, _, e1_0, q1_0⟩ := lf_leaf (o := 0) (by rw [hcs1]; decide) L1_0
  have L1_1 := lf_field (a := 1) (b := 1) 1 _ Tryd.underlying59 rfl rfl (by kernel_rfl) (by decide) hl1
  obtain ⟨_, _, _, e1_1, q1_1⟩ := lf_leaf (o := 1) (by rw [hcs1]; decide) L1_1
  have L1_2 := lf_field (a := 2) (b := 1) 2 _ Tryd.underlying59 rfl rfl (by kernel_rfl) (by decide) hl1
  obtain ⟨_, _, _, e1_2, q1_2⟩ := lf_leaf (o := 2) (by rw [hcs1]; decide) L1_2
  have L1_3 := lf_field (a := 3) (b := 1) 3 _ Tryd.underlying59 rfl rfl (by kernel_rfl) (by decide) hl1
  have L1_3x0 := lf_field (a := 0) (b := 1) 0 _ Tryd.underlying48 rfl rfl (by kernel_rfl) (by decide) L1_3
  obtain ⟨_, _, _, e1_3, q1_3⟩ := lf_leaf (o := 3) (by rw [hcs1]; decide) L1_3x0
  have L1_4 := lf_field (a := 4) (b := 1) 4 _ Tryd.underlying59 rfl rfl (by kernel_rfl) (by decide) hl1
  obtain ⟨_, _, _, e1_4, q1_4⟩ := lf_leaf (o := 4) (by rw [hcs1]; decide) L1_4
  have L1_5 := lf_field (a := 5) (b := 1) 5 _ Tryd.underlying59 rfl rfl (by kernel_rfl) (by decide) hl1
  obtain ⟨_, _, _, e1_5, q1_5⟩ := lf_leaf (o := 5) (by rw [hcs1]; decide) L1_5
  have L1_6 := lf_field (a := 6) (b := 1) 6 _ Tryd.underlying59 rfl rfl (by kernel_rfl) (by decide) hl1
  obtain ⟨_, _, _, e1_6, q1_6⟩ := lf_leaf (o := 6) (by rw [hcs1]; decide) L1_6
  have L1_7 := lf_field (a := 7) (b := 1) 7 _ Tryd.underlying59 rfl rfl (by kernel_rfl) (by decide) hl1
  obtain ⟨_, _, _, e1_7, q1_7⟩ := lf_leaf (o := 7) (by rw [hcs1]; decide) L1_7
  have L1_8 := lf_field (a := 8) (b := 1) 8 _ Tryd.underlying59 rfl rfl (by kernel_rfl) (by decide) hl1
  obtain ⟨_, _, _, e1_8, q1_8⟩ := lf_leaf (o := 8) (by rw [hcs1]; decide) L1_8
  have L1_9 := lf_field (a := 9) (b := 1) 9 _ Tryd.underlying59 rfl rfl (by kernel_rfl) (by decide) hl1
  obtain ⟨_, _, _, e1_9, q1_9⟩ := lf_leaf (o := 9) (by rw [hcs1]; decide) L1_9
  obtain ⟨a1_0, rfl, w1_0⟩ := one_int Tryd.underlying3 q1_0
  obtain ⟨a1_1, rfl, w1_1⟩ := one_int Tryd.underlying3 q1_1
  obtain ⟨a1_2, rfl, w1_2⟩ := one_int Tryd.underlying3 q1_2
  obtain ⟨a1_3, n1_3, c1_3, z1_3, rfl, m1_3, h1_3, f1_3⟩ := openPathPartS q1_3
  obtain ⟨a1_4, rfl, w1_4⟩ := one_int Tryd.underlying3 q1_4
  obtain ⟨a1_5, rfl, w1_5⟩ := one_int Tryd.underlying3 q1_5
  obtain ⟨a1_6, rfl, w1_6⟩ := one_int Tryd.underlying3 q1_6
  obtain ⟨a1_7, rfl, w1_7⟩ := one_int Tryd.underlying3 q1_7
  obtain ⟨a1_8, rfl, w1_8⟩ := one_int Tryd.underlying3 q1_8
  obtain ⟨a1_9, n1_9, c1_9, z1_9, rfl, m1_9, h1_9, f1_9⟩ := openByteS q1_9
  obtain rfl : cs1 = #[.int .i64 a1_0, .int .i64 a1_1, .int .i64 a1_2, .slice a1_3 n1_3 c1_3, .int .i64 a1_4, .int .i64 a1_5, .int .i64 a1_6, .int .i64 a1_7, .int .i64 a1_8, .slice a1_9 n1_9 c1_9] := arr_of [.int .i64 a1_0, .int .i64 a1_1, .int .i64 a1_2, .slice a1_3 n1_3 c1_3, .int .i64 a1_4, .int .i64 a1_5, .int .i64 a1_6, .int .i64 a1_7, .int .i64 a1_8, .slice a1_9 n1_9 c1_9] hcs1 (fun j hj => by match j, hj with | 0, _ => exact e1_0 | 1, _ => exact e1_1 | 2, _ => exact e1_2 | 3, _ => exact e1_3 | 4, _ => exact e1_4 | 5, _ => exact e1_5 | 6, _ => exact e1_6 | 7, _ => exact e1_7 | 8, _ => exact e1_8 | 9, _ => exact e1_9)
  clear hA0 hval0
  refine (walk a0_0 n0_0 c0_0 z0_0 a0_1 n0_1 c0_1 z0_1 a1_0 a1_1 a1_2 a1_3 n1_3 c1_3 z1_3 a1_4 a1_5 a1_6 a1_7 a1_8 a1_9 n1_9 c1_9 z1_9 W h0_0 m0_0 f0_0 h0_1 m0_1 f0_1 w1_0 w1_1 w1_2 h1_3 m1_3 f1_3 w1_4 w1_5 w1_6 w1_7 w1_8 h1_9 m1_9 f1_9 (table hL)).mono fun e W' ⟨he, bel⟩ => ?_
  subst he
  exact ⟨_, rfl, _, _, _, [], _, [], hW', trodAll_mk1 (shut_bool Tryd.underlying4 _), (trodAll_cons_mk (Below.trod laidOut (by kernel_rfl) (of_decide_eq_true (by kernel_rfl)) k0 bel lt0) (trodAll_cons_mk (Below.trod laidOut (by kernel_rfl) (of_decide_eq_true (by kernel_rfl)) k1 bel lt1) trodAll_mk0)), rfl, bel.frame _, fun h => by cases h⟩

noncomputable def laidWorld (os : Os) : World :=
  { World.holding Tryd.prog os ⟨#[], #[], []⟩ with heap := ((((World.holding Tryd.prog os ⟨#[], #[], []⟩).heap.modify 2 fun | .cells _ t frozen => .cells #[.int .u8 0, .int .u8 1, .int .u8 28, .int .u8 2, .int .u8 29, .int .u8 14, .int .u8 24, .int .u8 3, .int .u8 30, .int .u8 22, .int .u8 20, .int .u8 15, .int .u8 25, .int .u8 17, .int .u8 4, .int .u8 8, .int .u8 31, .int .u8 27, .int .u8 13, .int .u8 23, .int .u8 21, .int .u8 19, .int .u8 16, .int .u8 7, .int .u8 26, .int .u8 12, .int .u8 18, .int .u8 6, .int .u8 11, .int .u8 5, .int .u8 10, .int .u8 9] t frozen | o => o).modify 3 fun | .cells _ t frozen => .cells #[.int .u8 0, .int .u8 1, .int .u8 56, .int .u8 2, .int .u8 57, .int .u8 49, .int .u8 28, .int .u8 3, .int .u8 61, .int .u8 58, .int .u8 42, .int .u8 50, .int .u8 38, .int .u8 29, .int .u8 17, .int .u8 4, .int .u8 62, .int .u8 47, .int .u8 59, .int .u8 36, .int .u8 45, .int .u8 43, .int .u8 51, .int .u8 22, .int .u8 53, .int .u8 39, .int .u8 33, .int .u8 30, .int .u8 24, .int .u8 18, .int .u8 12, .int .u8 5, .int .u8 63, .int .u8 55, .int .u8 48, .int .u8 27, .int .u8 60, .int .u8 41, .int .u8 37, .int .u8 16, .int .u8 46, .int .u8 35, .int .u8 44, .int .u8 21, .int .u8 52, .int .u8 32, .int .u8 23, .int .u8 11, .int .u8 54, .int .u8 26, .int .u8 40, .int .u8 15, .int .u8 34, .int .u8 20, .int .u8 31, .int .u8 10, .int .u8 25, .int .u8 14, .int .u8 19, .int .u8 9, .int .u8 13, .int .u8 8, .int .u8 7, .int .u8 6] t frozen | o => o).modify 1 fun | .cells _ t frozen => .cells #[.int .u64 1, .int .u64 10, .int .u64 100, .int .u64 1000, .int .u64 10000, .int .u64 100000, .int .u64 1000000, .int .u64 10000000, .int .u64 100000000, .int .u64 1000000000, .int .u64 10000000000, .int .u64 100000000000, .int .u64 1000000000000, .int .u64 10000000000000, .int .u64 100000000000000, .int .u64 1000000000000000, .int .u64 10000000000000000, .int .u64 100000000000000000, .int .u64 1000000000000000000, .int .u64 10000000000000000000] t frozen | o => o) }
theorem laid_met (os : Os) : laidMet Tryd.prog Rows.fnExactFormatPacketRow.laid ((laidWorld os).forCall (fun _ _ => 0) ⟨#[], #[.agg #[.slice none 0 0, .slice none 0 0], .agg #[.int .i64 0, .int .i64 0, .int .i64 0, .slice none 0 0, .int .i64 0, .int .i64 0, .int .i64 0, .int .i64 0, .int .i64 0, .slice none 0 0]], []⟩).memory :=
  laidMet_of_run' 8 (by kernel_rfl) (by kernel_rfl)
theorem reads (os : Os) {H : Type} (enc : TypeId × Value → H) : ∃ places, DataW.whole enc Tryd.prog ((laidWorld os).forCall (fun _ _ => 0) ⟨#[], #[.agg #[.slice none 0 0, .slice none 0 0], .agg #[.int .i64 0, .int .i64 0, .int .i64 0, .slice none 0 0, .int .i64 0, .int .i64 0, .int .i64 0, .int .i64 0, .int .i64 0, .slice none 0 0]], []⟩).memory Tryd.f6.params.toList Rows.fnExactFormatPacketSpec.vars false #[.agg #[.slice none 0 0, .slice none 0 0], .agg #[.int .i64 0, .int .i64 0, .int .i64 0, .slice none 0 0, .int .i64 0, .int .i64 0, .int .i64 0, .int .i64 0, .int .i64 0, .slice none 0 0]].toList 8 = some ([.agg [.nil, .nil], .agg [.lit (.int .i64 0), .lit (.int .i64 0), .lit (.int .i64 0), .agg [.nil], .lit (.int .i64 0), .lit (.int .i64 0), .lit (.int .i64 0), .lit (.int .i64 0), .lit (.int .i64 0), .nil]], [], places) :=
  ⟨[], by kernel_rfl⟩
set_option maxRecDepth 100000 in
theorem lifted (os : Os) (started : os.Started) (H : Type) (enc : TypeId × Value → H) (F : Stop.Interp) :
    ReturnsInHanded {} Tryd.checked os 6 .any ((OpenSpec.ofChange Rows.fnExactFormatPacketSpec).preRow enc Tryd.prog Tryd.f6 Rows.fnExactFormatPacketRow.domain false Rows.fnExactFormatPacketRow.laid) (((OpenSpec.ofChange Rows.fnExactFormatPacketSpec).at F).post enc Tryd.prog Tryd.f6 false true false false) := by
  obtain ⟨places, hx⟩ := reads os enc
  refine returnsInHanded_of_row (C := Tryd.checked) (s := (OpenSpec.ofChange Rows.fnExactFormatPacketSpec)) own started (by kernel_rfl) Tryd.func6
    (witness_row_at (enc := enc) (C := Tryd.checked) false (laidWorld os) #[.agg #[.slice none 0 0, .slice none 0 0], .agg #[.int .i64 0, .int .i64 0, .int .i64 0, .slice none 0 0, .int .i64 0, .int .i64 0, .int .i64 0, .int .i64 0, .int .i64 0, .slice none 0 0]] rfl (by kernel_rfl) (by kernel_rfl) (by kernel_rfl)
      (OpenSpec.preRow_of_cond 8 hx (by kernel_rfl) (fun k hk => by cases hk) (by kernel_rfl) (laid_met os))) ?_
  intro W base args ds gs before hval hW _ _ _ hL _ _
  exact contract H enc W base args ds gs before hval hW hL

theorem said : Rows.FnExactFormatPacketSaid :=
  OpenClaim.holds_of_cond 6 Tryd.f6 rfl rfl rfl rfl rfl rfl rfl ⟨rfl, rfl, rfl, rfl, rfl⟩ rfl rfl rfl rfl rfl (by kernel_rfl) Tryd.func6 (by kernel_rfl)
    (of_decide_eq_true (by kernel_rfl)) (by unfold Func.isWrapper; first | (rw [if_pos (by decide +kernel)]; kernel_rfl) | (rw [if_neg (by decide +kernel)]; exact ⟨rfl, rfl⟩))
    (fun os started H enc _ F => by rw [OpenClaim.pre_eq_preRow]; exact lifted os started H enc F)
theorem plain (f : FuncId) (fn : Func) (hf : Tryd.pinned.checked.prog.funcNamed "loop.example/g00505/laws.FnExactFormatPacket" = some f) (hfn : Tryd.pinned.checked.prog.funcs[f]? = some fn) :
    true = Tryd.pinned.checked.prog.looks [] ∧ ∀ (j : Nat) t, fn.params[j]? = some t → Tryd.pinned.checked.prog.wantsStandIn t = false := by
  obtain rfl : f = 6 := Option.some.inj ((show Tryd.prog.funcNamed "loop.example/g00505/laws.FnExactFormatPacket" = some 6 by kernel_rfl).symm.trans hf) |>.symm
  obtain rfl : fn = Tryd.f6 := (Option.some.inj (Tryd.func6.symm.trans hfn)).symm
  refine ⟨by kernel_rfl, fun j t ht => ?_⟩
  rw [Tryd.params6] at ht
  have ht' := Array.mem_of_getElem? ht
  simp only [List.mem_toArray, List.mem_cons, List.not_mem_nil, or_false] at ht'
  rcases ht' with rfl | rfl
  · exact (show Tryd.prog.wantsStandIn 25 = false by kernel_rfl)
  · exact (show Tryd.prog.wantsStandIn 59 = false by kernel_rfl)
theorem proved : Rows.FnExactFormatPacketCardSaid :=
  Claim7.holds_tied_plain_at .later [] _ _ _ _ said (fun _ h => by cases h) (by kernel_rfl) (fun _ h => by cases h) fnExactFormatPacket_row_tie rfl ⟨rfl, rfl⟩ (by kernel_rfl) rfl plain (by kernel_rfl)
#print axioms proved
end Go.Proofs.YthpejolljkbenaaDoor.fnExactFormatPacket
