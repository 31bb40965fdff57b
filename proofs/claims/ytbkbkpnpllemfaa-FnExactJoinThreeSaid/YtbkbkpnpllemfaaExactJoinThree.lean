
/- For every three segments and either direction, the law on JoinThree returns true; no further condition. -/
import Derived.Test.YtbkbkpnpllemfaaRows
import Derived.WalkKit
import Derived.ProofKit
import Derived.OpenShut
import Derived.ShutString
import Derived.ChangeOld
import Derived.Below
import Derived.Test.YtbkbkpnpllemfaaOHop
import Derived.Test.YtbkbkpnpllemfaaZHop
import Derived.Test.YtbkbkpnpllemfaaStruct
import Derived.Deep.RegionHeld3
import Derived.Test.YtbkbkpnpllemfaaJ3S
import Derived.Test.YtbkbkpnpllemfaaEqB
import Derived.Test.YtbkbkpnpllemfaaKSegment
import Derived.Test.YtbkbkpnpllemfaaCSegment
import Derived.Test.YtbkbkpnpllemfaaFg
import Derived.Test.YtbkbkpnpllemfaaMnPath
namespace Go.Proofs.Ytbkbkpnpllemfaa.fnExactJoinThree
open Go.ChangeShapes Go.WideShapes Go.ChangeAt Go.RowKit
open Go.ChangeMaps (open_string shut_string)
set_option linter.unusedVariables false

theorem own : ownKnob Try.prog.godebug = none := by kernel_rfl
theorem laidOut : laidOutB Try.prog = true := by kernel_rfl

theorem sumTo_addIf {b : Bool} {l : List TPathPart} {x : TPathPart} {n : Nat} (h : l.length = n) : sumTo sePathPart (addIf b l x) (addN b n) ≤ sumTo sePathPart l n + sePathPart x := by
  cases b
  · exact Nat.le_add_right _ _
  · show sumTo sePathPart (l ++ [x]) (n + 1) ≤ _
    rw [sumTo, getD_snoc_eq h]
    have : ∀ k, k ≤ n → sumTo sePathPart (l ++ [x]) k = sumTo sePathPart l k := by
      intro k
      induction k with
      | zero => intro _; rfl
      | succ k ih => intro hk; rw [sumTo, sumTo, ih (by omega), getD_snoc_lt (by omega)]
    rw [this n (Nat.le_refl _)]
    exact Nat.le_refl _
theorem addN_le (b : Bool) (n : Nat) : addN b n ≤ n + 1 := by cases b <;> simp [addN]
theorem j3_sz {x0 y0 x1 y1 x3 y3 : Int} {z0 z1 z3 : List THop} {n0 n1 n3 N : Nat} {bb : Bool} {b0 b1 b3 : Bool} (h0 : z0.length = n0) (h1 : z1.length = n1) (h3 : z3.length = n3) (hN : (addIf b3 (addIf b1 (addIf b0 [] (mpEl x0 y0 z0 n0 1 0)) (mpEl x1 y1 z1 n1 (j3k bb) 0)) (mpEl x3 y3 z3 n3 4 0)).length = N) (hs : n0 + n1 + n3 ≤ 1048576) : szPathPart (addIf b3 (addIf b1 (addIf b0 [] (mpEl x0 y0 z0 n0 1 0)) (mpEl x1 y1 z1 n1 (j3k bb) 0)) (mpEl x3 y3 z3 n3 4 0)) N ≤ 1572864 := by
  have e1 := addIf_len b0 (l := ([] : List TPathPart)) (n := 0) (x := mpEl x0 y0 z0 n0 1 0) rfl
  have e2 := addIf_len b1 (x := mpEl x1 y1 z1 n1 (j3k bb) 0) e1
  have e3 := addIf_len b3 (x := mpEl x3 y3 z3 n3 4 0) e2
  obtain rfl := e3.symm.trans hN
  have s1 := sumTo_addIf (b := b0) (l := ([] : List TPathPart)) (n := 0) (x := mpEl x0 y0 z0 n0 1 0) rfl
  have s2 := sumTo_addIf (b := b1) (x := mpEl x1 y1 z1 n1 (j3k bb) 0) e1
  have s3 := sumTo_addIf (b := b3) (x := mpEl x3 y3 z3 n3 4 0) e2
  have l0 : sePathPart (mpEl x0 y0 z0 n0 1 0) = n0 := mpRow_len0 _ _ _ h0 (by decide)
  have l1 : sePathPart (mpEl x1 y1 z1 n1 (j3k bb) 0) = n1 := mpRow_len0 _ _ _ h1 (by cases bb <;> decide)
  have l3 : sePathPart (mpEl x3 y3 z3 n3 4 0) = n3 := mpRow_len0 _ _ _ h3 (by decide)
  have a1 := addN_le b0 0
  have a2 := addN_le b1 (addN b0 0)
  have a3 := addN_le b3 (addN b1 (addN b0 0))
  have z : sumTo sePathPart ([] : List TPathPart) 0 = 0 := rfl
  unfold szPathPart
  omega

set_option maxRecDepth 100000 in
set_option maxHeartbeats 4000000 in
theorem walk (a0_0 : Int) (a0_1 : Int) (a0_2 : Option Addr) (n0_2 c0_2 : Nat) (z0_2 : List THop) (a1_0 : Int) (a1_1 : Int) (a1_2 : Option Addr) (n1_2 c1_2 : Nat) (z1_2 : List THop) (a2 : Bool) (a3_0 : Int) (a3_1 : Int) (a3_2 : Option Addr) (n3_2 c3_2 : Nat) (z3_2 : List THop) (w : World) (w0_0 : (Lit.int .i64 a0_0).wf = true) (w0_1 : (Lit.int .i64 a0_1).wf = true) (h0_2 : HasHop w w.heap.size a0_2 n0_2 z0_2) (m0_2 : n0_2 ≤ 9223372036854775807) (f0_2 : ∀ x ∈ z0_2, THop.fits x) (w1_0 : (Lit.int .i64 a1_0).wf = true) (w1_1 : (Lit.int .i64 a1_1).wf = true) (h1_2 : HasHop w w.heap.size a1_2 n1_2 z1_2) (m1_2 : n1_2 ≤ 9223372036854775807) (f1_2 : ∀ x ∈ z1_2, THop.fits x) (w3_0 : (Lit.int .i64 a3_0).wf = true) (w3_1 : (Lit.int .i64 a3_1).wf = true) (h3_2 : HasHop w w.heap.size a3_2 n3_2 z3_2) (m3_2 : n3_2 ≤ 9223372036854775807) (f3_2 : ∀ x ∈ z3_2, THop.fits x) :
    Calls Try.prog 6 #[.agg #[.int .i64 a0_0, .int .i64 a0_1, .slice a0_2 n0_2 c0_2], .agg #[.int .i64 a1_0, .int .i64 a1_1, .slice a1_2 n1_2 c1_2], .bool a2, .agg #[.int .i64 a3_0, .int .i64 a3_1, .slice a3_2 n3_2 c3_2]] w fun e w' => e = .returned (.bool true) ∧ Below w.heap.size w w' := by
  by_cases hbig0 : (1048576 : Int) < (n0_2 : Int)
  · go_enter Try.func6, Try.ntmps6
    go_wp2_with fail
    have M0 : Mk0 w (((w.alloc (Obj.cells #[Value.int .i64 a0_0, Value.int .i64 a0_1, Value.slice a0_2 n0_2 c0_2] 24)).alloc (Obj.cells #[Value.int .i64 a1_0, Value.int .i64 a1_1, Value.slice a1_2 n1_2 c1_2] 24)).alloc (Obj.cells #[Value.int .i64 a3_0, Value.int .i64 a3_1, Value.slice a3_2 n3_2 c3_2] 24)) := (((Mk.alloc w _).new _).new _)
    have k0_0 : (((w.alloc (Obj.cells #[Value.int .i64 a0_0, Value.int .i64 a0_1, Value.slice a0_2 n0_2 c0_2] 24)).alloc (Obj.cells #[Value.int .i64 a1_0, Value.int .i64 a1_1, Value.slice a1_2 n1_2 c1_2] 24)).alloc (Obj.cells #[Value.int .i64 a3_0, Value.int .i64 a3_1, Value.slice a3_2 n3_2 c3_2] 24)).cell? ⟨w.heap.size, 0, none⟩ = some (.int .i64 a0_0) := by simp [go_sem]
    have k0_1 : (((w.alloc (Obj.cells #[Value.int .i64 a0_0, Value.int .i64 a0_1, Value.slice a0_2 n0_2 c0_2] 24)).alloc (Obj.cells #[Value.int .i64 a1_0, Value.int .i64 a1_1, Value.slice a1_2 n1_2 c1_2] 24)).alloc (Obj.cells #[Value.int .i64 a3_0, Value.int .i64 a3_1, Value.slice a3_2 n3_2 c3_2] 24)).cell? ⟨w.heap.size, 1, none⟩ = some (.int .i64 a0_1) := by simp [go_sem]
    have k0_2 : (((w.alloc (Obj.cells #[Value.int .i64 a0_0, Value.int .i64 a0_1, Value.slice a0_2 n0_2 c0_2] 24)).alloc (Obj.cells #[Value.int .i64 a1_0, Value.int .i64 a1_1, Value.slice a1_2 n1_2 c1_2] 24)).alloc (Obj.cells #[Value.int .i64 a3_0, Value.int .i64 a3_1, Value.slice a3_2 n3_2 c3_2] 24)).cell? ⟨w.heap.size, 2, none⟩ = some (.slice a0_2 n0_2 c0_2) := by simp [go_sem]
    have k1_0 : (((w.alloc (Obj.cells #[Value.int .i64 a0_0, Value.int .i64 a0_1, Value.slice a0_2 n0_2 c0_2] 24)).alloc (Obj.cells #[Value.int .i64 a1_0, Value.int .i64 a1_1, Value.slice a1_2 n1_2 c1_2] 24)).alloc (Obj.cells #[Value.int .i64 a3_0, Value.int .i64 a3_1, Value.slice a3_2 n3_2 c3_2] 24)).cell? ⟨w.heap.size + 1, 0, none⟩ = some (.int .i64 a1_0) := by simp [go_sem]
    have k1_1 : (((w.alloc (Obj.cells #[Value.int .i64 a0_0, Value.int .i64 a0_1, Value.slice a0_2 n0_2 c0_2] 24)).alloc (Obj.cells #[Value.int .i64 a1_0, Value.int .i64 a1_1, Value.slice a1_2 n1_2 c1_2] 24)).alloc (Obj.cells #[Value.int .i64 a3_0, Value.int .i64 a3_1, Value.slice a3_2 n3_2 c3_2] 24)).cell? ⟨w.heap.size + 1, 1, none⟩ = some (.int .i64 a1_1) := by simp [go_sem]
    have k1_2 : (((w.alloc (Obj.cells #[Value.int .i64 a0_0, Value.int .i64 a0_1, Value.slice a0_2 n0_2 c0_2] 24)).alloc (Obj.cells #[Value.int .i64 a1_0, Value.int .i64 a1_1, Value.slice a1_2 n1_2 c1_2] 24)).alloc (Obj.cells #[Value.int .i64 a3_0, Value.int .i64 a3_1, Value.slice a3_2 n3_2 c3_2] 24)).cell? ⟨w.heap.size + 1, 2, none⟩ = some (.slice a1_2 n1_2 c1_2) := by simp [go_sem]
    have k3_0 : (((w.alloc (Obj.cells #[Value.int .i64 a0_0, Value.int .i64 a0_1, Value.slice a0_2 n0_2 c0_2] 24)).alloc (Obj.cells #[Value.int .i64 a1_0, Value.int .i64 a1_1, Value.slice a1_2 n1_2 c1_2] 24)).alloc (Obj.cells #[Value.int .i64 a3_0, Value.int .i64 a3_1, Value.slice a3_2 n3_2 c3_2] 24)).cell? ⟨w.heap.size + 1 + 1, 0, none⟩ = some (.int .i64 a3_0) := by simp [go_sem]
    have k3_1 : (((w.alloc (Obj.cells #[Value.int .i64 a0_0, Value.int .i64 a0_1, Value.slice a0_2 n0_2 c0_2] 24)).alloc (Obj.cells #[Value.int .i64 a1_0, Value.int .i64 a1_1, Value.slice a1_2 n1_2 c1_2] 24)).alloc (Obj.cells #[Value.int .i64 a3_0, Value.int .i64 a3_1, Value.slice a3_2 n3_2 c3_2] 24)).cell? ⟨w.heap.size + 1 + 1, 1, none⟩ = some (.int .i64 a3_1) := by simp [go_sem]
    have k3_2 : (((w.alloc (Obj.cells #[Value.int .i64 a0_0, Value.int .i64 a0_1, Value.slice a0_2 n0_2 c0_2] 24)).alloc (Obj.cells #[Value.int .i64 a1_0, Value.int .i64 a1_1, Value.slice a1_2 n1_2 c1_2] 24)).alloc (Obj.cells #[Value.int .i64 a3_0, Value.int .i64 a3_1, Value.slice a3_2 n3_2 c3_2] 24)).cell? ⟨w.heap.size + 1 + 1, 2, none⟩ = some (.slice a3_2 n3_2 c3_2) := by simp [go_sem]
    refine (szSegmentB _ _ _ _ _ _ _ (by omega) (by omega) (by omega) m0_2).mono ?_
    rintro e w1 ⟨rfl, m1⟩
    go_wp2_with fail
    go_ret
    exact ⟨rfl, (M0.trans m1).below0⟩
  have hn0 : (n0_2 : Int) ≤ (1048576 : Int) := by omega
  clear hbig0
  by_cases hbig1 : (1048576 - n0_2 : Int) < (n1_2 : Int)
  · go_enter Try.func6, Try.ntmps6
    go_wp2_with fail
    have M0 : Mk0 w (((w.alloc (Obj.cells #[Value.int .i64 a0_0, Value.int .i64 a0_1, Value.slice a0_2 n0_2 c0_2] 24)).alloc (Obj.cells #[Value.int .i64 a1_0, Value.int .i64 a1_1, Value.slice a1_2 n1_2 c1_2] 24)).alloc (Obj.cells #[Value.int .i64 a3_0, Value.int .i64 a3_1, Value.slice a3_2 n3_2 c3_2] 24)) := (((Mk.alloc w _).new _).new _)
    have k0_0 : (((w.alloc (Obj.cells #[Value.int .i64 a0_0, Value.int .i64 a0_1, Value.slice a0_2 n0_2 c0_2] 24)).alloc (Obj.cells #[Value.int .i64 a1_0, Value.int .i64 a1_1, Value.slice a1_2 n1_2 c1_2] 24)).alloc (Obj.cells #[Value.int .i64 a3_0, Value.int .i64 a3_1, Value.slice a3_2 n3_2 c3_2] 24)).cell? ⟨w.heap.size, 0, none⟩ = some (.int .i64 a0_0) := by simp [go_sem]
    have k0_1 : (((w.alloc (Obj.cells #[Value.int .i64 a0_0, Value.int .i64 a0_1, Value.slice a0_2 n0_2 c0_2] 24)).alloc (Obj.cells #[Value.int .i64 a1_0, Value.int .i64 a1_1, Value.slice a1_2 n1_2 c1_2] 24)).alloc (Obj.cells #[Value.int .i64 a3_0, Value.int .i64 a3_1, Value.slice a3_2 n3_2 c3_2] 24)).cell? ⟨w.heap.size, 1, none⟩ = some (.int .i64 a0_1) := by simp [go_sem]
    have k0_2 : (((w.alloc (Obj.cells #[Value.int .i64 a0_0, Value.int .i64 a0_1, Value.slice a0_2 n0_2 c0_2] 24)).alloc (Obj.cells #[Value.int .i64 a1_0, Value.int .i64 a1_1, Value.slice a1_2 n1_2 c1_2] 24)).alloc (Obj.cells #[Value.int .i64 a3_0, Value.int .i64 a3_1, Value.slice a3_2 n3_2 c3_2] 24)).cell? ⟨w.heap.size, 2, none⟩ = some (.slice a0_2 n0_2 c0_2) := by simp [go_sem]
    have k1_0 : (((w.alloc (Obj.cells #[Value.int .i64 a0_0, Value.int .i64 a0_1, Value.slice a0_2 n0_2 c0_2] 24)).alloc (Obj.cells #[Value.int .i64 a1_0, Value.int .i64 a1_1, Value.slice a1_2 n1_2 c1_2] 24)).alloc (Obj.cells #[Value.int .i64 a3_0, Value.int .i64 a3_1, Value.slice a3_2 n3_2 c3_2] 24)).cell? ⟨w.heap.size + 1, 0, none⟩ = some (.int .i64 a1_0) := by simp [go_sem]
    have k1_1 : (((w.alloc (Obj.cells #[Value.int .i64 a0_0, Value.int .i64 a0_1, Value.slice a0_2 n0_2 c0_2] 24)).alloc (Obj.cells #[Value.int .i64 a1_0, Value.int .i64 a1_1, Value.slice a1_2 n1_2 c1_2] 24)).alloc (Obj.cells #[Value.int .i64 a3_0, Value.int .i64 a3_1, Value.slice a3_2 n3_2 c3_2] 24)).cell? ⟨w.heap.size + 1, 1, none⟩ = some (.int .i64 a1_1) := by simp [go_sem]
    have k1_2 : (((w.alloc (Obj.cells #[Value.int .i64 a0_0, Value.int .i64 a0_1, Value.slice a0_2 n0_2 c0_2] 24)).alloc (Obj.cells #[Value.int .i64 a1_0, Value.int .i64 a1_1, Value.slice a1_2 n1_2 c1_2] 24)).alloc (Obj.cells #[Value.int .i64 a3_0, Value.int .i64 a3_1, Value.slice a3_2 n3_2 c3_2] 24)).cell? ⟨w.heap.size + 1, 2, none⟩ = some (.slice a1_2 n1_2 c1_2) := by simp [go_sem]
    have k3_0 : (((w.alloc (Obj.cells #[Value.int .i64 a0_0, Value.int .i64 a0_1, Value.slice a0_2 n0_2 c0_2] 24)).alloc (Obj.cells #[Value.int .i64 a1_0, Value.int .i64 a1_1, Value.slice a1_2 n1_2 c1_2] 24)).alloc (Obj.cells #[Value.int .i64 a3_0, Value.int .i64 a3_1, Value.slice a3_2 n3_2 c3_2] 24)).cell? ⟨w.heap.size + 1 + 1, 0, none⟩ = some (.int .i64 a3_0) := by simp [go_sem]
    have k3_1 : (((w.alloc (Obj.cells #[Value.int .i64 a0_0, Value.int .i64 a0_1, Value.slice a0_2 n0_2 c0_2] 24)).alloc (Obj.cells #[Value.int .i64 a1_0, Value.int .i64 a1_1, Value.slice a1_2 n1_2 c1_2] 24)).alloc (Obj.cells #[Value.int .i64 a3_0, Value.int .i64 a3_1, Value.slice a3_2 n3_2 c3_2] 24)).cell? ⟨w.heap.size + 1 + 1, 1, none⟩ = some (.int .i64 a3_1) := by simp [go_sem]
    have k3_2 : (((w.alloc (Obj.cells #[Value.int .i64 a0_0, Value.int .i64 a0_1, Value.slice a0_2 n0_2 c0_2] 24)).alloc (Obj.cells #[Value.int .i64 a1_0, Value.int .i64 a1_1, Value.slice a1_2 n1_2 c1_2] 24)).alloc (Obj.cells #[Value.int .i64 a3_0, Value.int .i64 a3_1, Value.slice a3_2 n3_2 c3_2] 24)).cell? ⟨w.heap.size + 1 + 1, 2, none⟩ = some (.slice a3_2 n3_2 c3_2) := by simp [go_sem]
    refine (szSegmentC _ _ _ _ _ _ _ (by omega) (by omega) (by omega)).mono ?_
    rintro e w1 ⟨l1, hl1, rfl, m1⟩
    have M1 := M0.trans m1
    replace k0_0 := m1.cellAt k0_0
    replace k0_1 := m1.cellAt k0_1
    replace k0_2 := m1.cellAt k0_2
    replace k1_0 := m1.cellAt k1_0
    replace k1_1 := m1.cellAt k1_1
    replace k1_2 := m1.cellAt k1_2
    replace k3_0 := m1.cellAt k3_0
    replace k3_1 := m1.cellAt k3_1
    replace k3_2 := m1.cellAt k3_2
    have z1 := m1.size
    simp only [World.size_alloc] at z1
    go_wp2_with fail
    refine (szSegmentB _ _ _ _ _ _ _ (by omega) (by omega) (by omega) m1_2).mono ?_
    rintro e w2 ⟨rfl, m2⟩
    go_wp2_with fail
    go_ret
    exact ⟨rfl, (M1.trans m2).below0⟩
  have hn1 : (n1_2 : Int) ≤ (1048576 - n0_2 : Int) := by omega
  clear hbig1
  by_cases hbig3 : (1048576 - n0_2 - n1_2 : Int) < (n3_2 : Int)
  · go_enter Try.func6, Try.ntmps6
    go_wp2_with fail
    have M0 : Mk0 w (((w.alloc (Obj.cells #[Value.int .i64 a0_0, Value.int .i64 a0_1, Value.slice a0_2 n0_2 c0_2] 24)).alloc (Obj.cells #[Value.int .i64 a1_0, Value.int .i64 a1_1, Value.slice a1_2 n1_2 c1_2] 24)).alloc (Obj.cells #[Value.int .i64 a3_0, Value.int .i64 a3_1, Value.slice a3_2 n3_2 c3_2] 24)) := (((Mk.alloc w _).new _).new _)
    have k0_0 : (((w.alloc (Obj.cells #[Value.int .i64 a0_0, Value.int .i64 a0_1, Value.slice a0_2 n0_2 c0_2] 24)).alloc (Obj.cells #[Value.int .i64 a1_0, Value.int .i64 a1_1, Value.slice a1_2 n1_2 c1_2] 24)).alloc (Obj.cells #[Value.int .i64 a3_0, Value.int .i64 a3_1, Value.slice a3_2 n3_2 c3_2] 24)).cell? ⟨w.heap.size, 0, none⟩ = some (.int .i64 a0_0) := by simp [go_sem]
    have k0_1 : (((w.alloc (Obj.cells #[Value.int .i64 a0_0, Value.int .i64 a0_1, Value.slice a0_2 n0_2 c0_2] 24)).alloc (Obj.cells #[Value.int .i64 a1_0, Value.int .i64 a1_1, Value.slice a1_2 n1_2 c1_2] 24)).alloc (Obj.cells #[Value.int .i64 a3_0, Value.int .i64 a3_1, Value.slice a3_2 n3_2 c3_2] 24)).cell? ⟨w.heap.size, 1, none⟩ = some (.int .i64 a0_1) := by simp [go_sem]
    have k0_2 : (((w.alloc (Obj.cells #[Value.int .i64 a0_0, Value.int .i64 a0_1, Value.slice a0_2 n0_2 c0_2] 24)).alloc (Obj.cells #[Value.int .i64 a1_0, Value.int .i64 a1_1, Value.slice a1_2 n1_2 c1_2] 24)).alloc (Obj.cells #[Value.int .i64 a3_0, Value.int .i64 a3_1, Value.slice a3_2 n3_2 c3_2] 24)).cell? ⟨w.heap.size, 2, none⟩ = some (.slice a0_2 n0_2 c0_2) := by simp [go_sem]
    have k1_0 : (((w.alloc (Obj.cells #[Value.int .i64 a0_0, Value.int .i64 a0_1, Value.slice a0_2 n0_2 c0_2] 24)).alloc (Obj.cells #[Value.int .i64 a1_0, Value.int .i64 a1_1, Value.slice a1_2 n1_2 c1_2] 24)).alloc (Obj.cells #[Value.int .i64 a3_0, Value.int .i64 a3_1, Value.slice a3_2 n3_2 c3_2] 24)).cell? ⟨w.heap.size + 1, 0, none⟩ = some (.int .i64 a1_0) := by simp [go_sem]
    have k1_1 : (((w.alloc (Obj.cells #[Value.int .i64 a0_0, Value.int .i64 a0_1, Value.slice a0_2 n0_2 c0_2] 24)).alloc (Obj.cells #[Value.int .i64 a1_0, Value.int .i64 a1_1, Value.slice a1_2 n1_2 c1_2] 24)).alloc (Obj.cells #[Value.int .i64 a3_0, Value.int .i64 a3_1, Value.slice a3_2 n3_2 c3_2] 24)).cell? ⟨w.heap.size + 1, 1, none⟩ = some (.int .i64 a1_1) := by simp [go_sem]
    have k1_2 : (((w.alloc (Obj.cells #[Value.int .i64 a0_0, Value.int .i64 a0_1, Value.slice a0_2 n0_2 c0_2] 24)).alloc (Obj.cells #[Value.int .i64 a1_0, Value.int .i64 a1_1, Value.slice a1_2 n1_2 c1_2] 24)).alloc (Obj.cells #[Value.int .i64 a3_0, Value.int .i64 a3_1, Value.slice a3_2 n3_2 c3_2] 24)).cell? ⟨w.heap.size + 1, 2, none⟩ = some (.slice a1_2 n1_2 c1_2) := by simp [go_sem]
    have k3_0 : (((w.alloc (Obj.cells #[Value.int .i64 a0_0, Value.int .i64 a0_1, Value.slice a0_2 n0_2 c0_2] 24)).alloc (Obj.cells #[Value.int .i64 a1_0, Value.int .i64 a1_1, Value.slice a1_2 n1_2 c1_2] 24)).alloc (Obj.cells #[Value.int .i64 a3_0, Value.int .i64 a3_1, Value.slice a3_2 n3_2 c3_2] 24)).cell? ⟨w.heap.size + 1 + 1, 0, none⟩ = some (.int .i64 a3_0) := by simp [go_sem]
    have k3_1 : (((w.alloc (Obj.cells #[Value.int .i64 a0_0, Value.int .i64 a0_1, Value.slice a0_2 n0_2 c0_2] 24)).alloc (Obj.cells #[Value.int .i64 a1_0, Value.int .i64 a1_1, Value.slice a1_2 n1_2 c1_2] 24)).alloc (Obj.cells #[Value.int .i64 a3_0, Value.int .i64 a3_1, Value.slice a3_2 n3_2 c3_2] 24)).cell? ⟨w.heap.size + 1 + 1, 1, none⟩ = some (.int .i64 a3_1) := by simp [go_sem]
    have k3_2 : (((w.alloc (Obj.cells #[Value.int .i64 a0_0, Value.int .i64 a0_1, Value.slice a0_2 n0_2 c0_2] 24)).alloc (Obj.cells #[Value.int .i64 a1_0, Value.int .i64 a1_1, Value.slice a1_2 n1_2 c1_2] 24)).alloc (Obj.cells #[Value.int .i64 a3_0, Value.int .i64 a3_1, Value.slice a3_2 n3_2 c3_2] 24)).cell? ⟨w.heap.size + 1 + 1, 2, none⟩ = some (.slice a3_2 n3_2 c3_2) := by simp [go_sem]
    refine (szSegmentC _ _ _ _ _ _ _ (by omega) (by omega) (by omega)).mono ?_
    rintro e w1 ⟨l1, hl1, rfl, m1⟩
    have M1 := M0.trans m1
    replace k0_0 := m1.cellAt k0_0
    replace k0_1 := m1.cellAt k0_1
    replace k0_2 := m1.cellAt k0_2
    replace k1_0 := m1.cellAt k1_0
    replace k1_1 := m1.cellAt k1_1
    replace k1_2 := m1.cellAt k1_2
    replace k3_0 := m1.cellAt k3_0
    replace k3_1 := m1.cellAt k3_1
    replace k3_2 := m1.cellAt k3_2
    have z1 := m1.size
    simp only [World.size_alloc] at z1
    go_wp2_with fail
    refine (szSegmentC _ _ _ _ _ _ _ (by omega) (by omega) (by omega)).mono ?_
    rintro e w2 ⟨l2, hl2, rfl, m2⟩
    have M2 := M1.trans m2
    have z2 := m2.size
    replace k0_0 := m2.cellAt k0_0
    replace k0_1 := m2.cellAt k0_1
    replace k0_2 := m2.cellAt k0_2
    replace k1_0 := m2.cellAt k1_0
    replace k1_1 := m2.cellAt k1_1
    replace k1_2 := m2.cellAt k1_2
    replace k3_0 := m2.cellAt k3_0
    replace k3_1 := m2.cellAt k3_1
    replace k3_2 := m2.cellAt k3_2
    go_wp2_with fail
    refine (szSegmentB _ _ _ _ _ _ _ (by omega) (by omega) (by omega) m3_2).mono ?_
    rintro e w3 ⟨rfl, m3⟩
    go_wp2_with fail
    go_ret
    exact ⟨rfl, (M2.trans m3).below0⟩
  have hn3 : (n3_2 : Int) ≤ (1048576 - n0_2 - n1_2 : Int) := by omega
  clear hbig3
  go_enter Try.func6, Try.ntmps6
  go_wp2_with fail
  have M0 : Mk0 w (((w.alloc (Obj.cells #[Value.int .i64 a0_0, Value.int .i64 a0_1, Value.slice a0_2 n0_2 c0_2] 24)).alloc (Obj.cells #[Value.int .i64 a1_0, Value.int .i64 a1_1, Value.slice a1_2 n1_2 c1_2] 24)).alloc (Obj.cells #[Value.int .i64 a3_0, Value.int .i64 a3_1, Value.slice a3_2 n3_2 c3_2] 24)) := (((Mk.alloc w _).new _).new _)
  have k0_0 : (((w.alloc (Obj.cells #[Value.int .i64 a0_0, Value.int .i64 a0_1, Value.slice a0_2 n0_2 c0_2] 24)).alloc (Obj.cells #[Value.int .i64 a1_0, Value.int .i64 a1_1, Value.slice a1_2 n1_2 c1_2] 24)).alloc (Obj.cells #[Value.int .i64 a3_0, Value.int .i64 a3_1, Value.slice a3_2 n3_2 c3_2] 24)).cell? ⟨w.heap.size, 0, none⟩ = some (.int .i64 a0_0) := by simp [go_sem]
  have k0_1 : (((w.alloc (Obj.cells #[Value.int .i64 a0_0, Value.int .i64 a0_1, Value.slice a0_2 n0_2 c0_2] 24)).alloc (Obj.cells #[Value.int .i64 a1_0, Value.int .i64 a1_1, Value.slice a1_2 n1_2 c1_2] 24)).alloc (Obj.cells #[Value.int .i64 a3_0, Value.int .i64 a3_1, Value.slice a3_2 n3_2 c3_2] 24)).cell? ⟨w.heap.size, 1, none⟩ = some (.int .i64 a0_1) := by simp [go_sem]
  have k0_2 : (((w.alloc (Obj.cells #[Value.int .i64 a0_0, Value.int .i64 a0_1, Value.slice a0_2 n0_2 c0_2] 24)).alloc (Obj.cells #[Value.int .i64 a1_0, Value.int .i64 a1_1, Value.slice a1_2 n1_2 c1_2] 24)).alloc (Obj.cells #[Value.int .i64 a3_0, Value.int .i64 a3_1, Value.slice a3_2 n3_2 c3_2] 24)).cell? ⟨w.heap.size, 2, none⟩ = some (.slice a0_2 n0_2 c0_2) := by simp [go_sem]
  have k1_0 : (((w.alloc (Obj.cells #[Value.int .i64 a0_0, Value.int .i64 a0_1, Value.slice a0_2 n0_2 c0_2] 24)).alloc (Obj.cells #[Value.int .i64 a1_0, Value.int .i64 a1_1, Value.slice a1_2 n1_2 c1_2] 24)).alloc (Obj.cells #[Value.int .i64 a3_0, Value.int .i64 a3_1, Value.slice a3_2 n3_2 c3_2] 24)).cell? ⟨w.heap.size + 1, 0, none⟩ = some (.int .i64 a1_0) := by simp [go_sem]
  have k1_1 : (((w.alloc (Obj.cells #[Value.int .i64 a0_0, Value.int .i64 a0_1, Value.slice a0_2 n0_2 c0_2] 24)).alloc (Obj.cells #[Value.int .i64 a1_0, Value.int .i64 a1_1, Value.slice a1_2 n1_2 c1_2] 24)).alloc (Obj.cells #[Value.int .i64 a3_0, Value.int .i64 a3_1, Value.slice a3_2 n3_2 c3_2] 24)).cell? ⟨w.heap.size + 1, 1, none⟩ = some (.int .i64 a1_1) := by simp [go_sem]
  have k1_2 : (((w.alloc (Obj.cells #[Value.int .i64 a0_0, Value.int .i64 a0_1, Value.slice a0_2 n0_2 c0_2] 24)).alloc (Obj.cells #[Value.int .i64 a1_0, Value.int .i64 a1_1, Value.slice a1_2 n1_2 c1_2] 24)).alloc (Obj.cells #[Value.int .i64 a3_0, Value.int .i64 a3_1, Value.slice a3_2 n3_2 c3_2] 24)).cell? ⟨w.heap.size + 1, 2, none⟩ = some (.slice a1_2 n1_2 c1_2) := by simp [go_sem]
  have k3_0 : (((w.alloc (Obj.cells #[Value.int .i64 a0_0, Value.int .i64 a0_1, Value.slice a0_2 n0_2 c0_2] 24)).alloc (Obj.cells #[Value.int .i64 a1_0, Value.int .i64 a1_1, Value.slice a1_2 n1_2 c1_2] 24)).alloc (Obj.cells #[Value.int .i64 a3_0, Value.int .i64 a3_1, Value.slice a3_2 n3_2 c3_2] 24)).cell? ⟨w.heap.size + 1 + 1, 0, none⟩ = some (.int .i64 a3_0) := by simp [go_sem]
  have k3_1 : (((w.alloc (Obj.cells #[Value.int .i64 a0_0, Value.int .i64 a0_1, Value.slice a0_2 n0_2 c0_2] 24)).alloc (Obj.cells #[Value.int .i64 a1_0, Value.int .i64 a1_1, Value.slice a1_2 n1_2 c1_2] 24)).alloc (Obj.cells #[Value.int .i64 a3_0, Value.int .i64 a3_1, Value.slice a3_2 n3_2 c3_2] 24)).cell? ⟨w.heap.size + 1 + 1, 1, none⟩ = some (.int .i64 a3_1) := by simp [go_sem]
  have k3_2 : (((w.alloc (Obj.cells #[Value.int .i64 a0_0, Value.int .i64 a0_1, Value.slice a0_2 n0_2 c0_2] 24)).alloc (Obj.cells #[Value.int .i64 a1_0, Value.int .i64 a1_1, Value.slice a1_2 n1_2 c1_2] 24)).alloc (Obj.cells #[Value.int .i64 a3_0, Value.int .i64 a3_1, Value.slice a3_2 n3_2 c3_2] 24)).cell? ⟨w.heap.size + 1 + 1, 2, none⟩ = some (.slice a3_2 n3_2 c3_2) := by simp [go_sem]
  refine (szSegmentC _ _ _ _ _ _ _ (by omega) (by omega) (by omega)).mono ?_
  rintro e w1 ⟨l1, hl1, rfl, m1⟩
  have M1 := M0.trans m1
  replace k0_0 := m1.cellAt k0_0
  replace k0_1 := m1.cellAt k0_1
  replace k0_2 := m1.cellAt k0_2
  replace k1_0 := m1.cellAt k1_0
  replace k1_1 := m1.cellAt k1_1
  replace k1_2 := m1.cellAt k1_2
  replace k3_0 := m1.cellAt k3_0
  replace k3_1 := m1.cellAt k3_1
  replace k3_2 := m1.cellAt k3_2
  have z1 := m1.size
  simp only [World.size_alloc] at z1
  go_wp2_with fail
  refine (szSegmentC _ _ _ _ _ _ _ (by omega) (by omega) (by omega)).mono ?_
  rintro e w2 ⟨l2, hl2, rfl, m2⟩
  have M2 := M1.trans m2
  have z2 := m2.size
  replace k0_0 := m2.cellAt k0_0
  replace k0_1 := m2.cellAt k0_1
  replace k0_2 := m2.cellAt k0_2
  replace k1_0 := m2.cellAt k1_0
  replace k1_1 := m2.cellAt k1_1
  replace k1_2 := m2.cellAt k1_2
  replace k3_0 := m2.cellAt k3_0
  replace k3_1 := m2.cellAt k3_1
  replace k3_2 := m2.cellAt k3_2
  go_wp2_with fail
  refine (szSegmentC _ _ _ _ _ _ _ (by omega) (by omega) (by omega)).mono ?_
  rintro e w3 ⟨l3, hl3, rfl, m3⟩
  have M3 := M2.trans m3
  have z3 := m3.size
  replace k0_0 := m3.cellAt k0_0
  replace k0_1 := m3.cellAt k0_1
  replace k0_2 := m3.cellAt k0_2
  replace k1_0 := m3.cellAt k1_0
  replace k1_1 := m3.cellAt k1_1
  replace k1_2 := m3.cellAt k1_2
  replace k3_0 := m3.cellAt k3_0
  replace k3_1 := m3.cellAt k3_1
  replace k3_2 := m3.cellAt k3_2
  go_wp2_with fail
  have yr4_0 : w.heap.size < w3.heap.size := by omega
  have yr4_1 : w.heap.size + 1 < w3.heap.size := by omega
  have yr4_2 : w.heap.size + 1 + 1 < w3.heap.size := by omega
  have hN0_2 : n0_2 ≤ 1048576 := by omega
  have hN1_2 : n1_2 ≤ 1048576 := by omega
  have hN3_2 : n3_2 ≤ 1048576 := by omega
  refine wp_region_fg (fun (g : Bxs) w' => (Mk0 w3 w' ∧ w'.cell? ⟨w.heap.size, 0, none⟩ = some (.int .i64 a0_0) ∧ w'.cell? ⟨w.heap.size, 1, none⟩ = some (.int .i64 a0_1) ∧ w'.cell? ⟨w.heap.size, 2, none⟩ = some (.slice a0_2 n0_2 c0_2) ∧ w'.cell? ⟨w.heap.size + 1, 0, none⟩ = some (.int .i64 a1_0) ∧ w'.cell? ⟨w.heap.size + 1, 1, none⟩ = some (.int .i64 a1_1) ∧ w'.cell? ⟨w.heap.size + 1, 2, none⟩ = some (.slice a1_2 n1_2 c1_2) ∧ w'.cell? ⟨w.heap.size + 1 + 1, 0, none⟩ = some (.int .i64 a3_0) ∧ w'.cell? ⟨w.heap.size + 1 + 1, 1, none⟩ = some (.int .i64 a3_1) ∧ w'.cell? ⟨w.heap.size + 1 + 1, 2, none⟩ = some (.slice a3_2 n3_2 c3_2)) ∧ BxS w3.heap.size g w') (fgF [fun g v w => v = .agg #[.int .i64 a0_0, .int .i64 a0_1, .slice a0_2 n0_2 c0_2], fun g v w => ∃ b0_2, v = .agg #[.int .i64 a0_0, .int .i64 a0_1, .slice (some ⟨b0_2, 0, none⟩) n0_2 n0_2] ∧ HasHop w w.heap.size (some ⟨b0_2, 0, none⟩) n0_2 z0_2, fun g v w => v = .agg #[.int .i64 a1_0, .int .i64 a1_1, .slice a1_2 n1_2 c1_2], fun g v w => ∃ b1_2, v = .agg #[.int .i64 a1_0, .int .i64 a1_1, .slice (some ⟨b1_2, 0, none⟩) n1_2 n1_2] ∧ HasHop w w.heap.size (some ⟨b1_2, 0, none⟩) n1_2 z1_2, fun g v w => v = .bool a2, fun g v w => v = .agg #[.int .i64 a3_0, .int .i64 a3_1, .slice a3_2 n3_2 c3_2], fun g v w => ∃ b3_2, v = .agg #[.int .i64 a3_0, .int .i64 a3_1, .slice (some ⟨b3_2, 0, none⟩) n3_2 n3_2] ∧ HasHop w w.heap.size (some ⟨b3_2, 0, none⟩) n3_2 z3_2, fun g v w => ∃ A N C lo hi, v = .agg #[.slice A N C] ∧ ((A = none → C = 0) ∧ (N ≤ C ∧ C ≤ 9223372036854775807)) ∧ w3.heap.size ≤ lo ∧ lo ≤ hi ∧ hi ≤ w.heap.size ∧ OwnN WPathPart w lo hi A N (addIf (decide (0 < n3_2)) (addIf (decide (0 < n1_2)) (addIf (decide (0 < n0_2)) [] (mpEl a0_0 a0_1 z0_2 n0_2 1 0)) (mpEl a1_0 a1_1 z1_2 n1_2 (j3k a2) 0)) (mpEl a3_0 a3_1 z3_2 n3_2 4 0)) ∧ BxA g lo hi, fun g v w => BxZ g 8 [.slice none 0 0] v w]) BxX (fun _ _ => False) 10 9 (by kernel_rfl) (by kernel_rfl) (by decide) (by decide) (by kernel_rfl) (fun h => absurd h (by decide)) (fgM_mono ⟨fun g g' v w w' h x => h, fun g g' v w w' h x => (by obtain ⟨b0_2, h1, r0_2⟩ := h; exact ⟨_, h1, (r0_2.mk x.far (Nat.le_refl _) (.inr (Nat.le_refl _))).mono x.far.size⟩), fun g g' v w w' h x => h, fun g g' v w w' h x => (by obtain ⟨b1_2, h1, r1_2⟩ := h; exact ⟨_, h1, (r1_2.mk x.far (Nat.le_refl _) (.inr (Nat.le_refl _))).mono x.far.size⟩), fun g g' v w w' h x => h, fun g g' v w w' h x => h, fun g g' v w w' h x => (by obtain ⟨b3_2, h1, r3_2⟩ := h; exact ⟨_, h1, (r3_2.mk x.far (Nat.le_refl _) (.inr (Nat.le_refl _))).mono x.far.size⟩), fun g g' v w w' h x => (by obtain ⟨A, N, C, lo, hi, h1, h2, h3, h4, h5, h6, h7⟩ := h; exact ⟨A, N, C, lo, hi, h1, h2, h3, h4, Nat.le_trans h5 x.far.size, h6.mk x.far h5 (.inr (.inr (Nat.le_refl _))), h7.step x h5⟩), fun g g' v w w' h x => h.step x, trivial⟩) ⟨⟨Mk.drew1 _, k0_0, k0_1, k0_2, k1_0, k1_1, k1_2, k3_0, k3_1, k3_2⟩, BxS.none_ _ _⟩ ?_
  change WkG _ _ _ _ _ _ 10 9 9 0 _
  refine WkG.value (m := 8) (k := 0) (by decide) rfl rfl (of_decide_eq_true (by rfl)) rfl (fun g w hS hF => ?_) (fun v0 => ?_)
  · obtain ⟨⟨s0, s1, s2, s3, s4, s5, s6, s7, s8, s9⟩, hB⟩ := hS
    exact ⟨.agg #[.int .i64 a0_0, .int .i64 a0_1, .slice a0_2 n0_2 c0_2], w, g, (by go_simp; try with_reducible rfl), ⟨⟨s0, s1, s2, s3, s4, s5, s6, s7, s8, s9⟩, hB⟩, BxX.same (Mk.refl _ _ _), rfl⟩
  try simp only [Act.put, List.getElem_toArray, List.getElem_cons_zero, List.setIfInBounds_toArray, List.set_cons_zero, List.set_cons_succ]
  refine WkG.call (m := 7) (k := 1) (by decide) rfl rfl (of_decide_eq_true (by rfl)) rfl (fun g w hS hF => ?_) (fun v1 => ?_)
  · obtain ⟨⟨s0, s1, s2, s3, s4, s5, s6, s7, s8, s9⟩, hB⟩ := hS
    have f0 : v0 = .agg #[.int .i64 a0_0, .int .i64 a0_1, .slice a0_2 n0_2 c0_2] := hF 0 (by rfl)
    obtain rfl := f0
    refine ⟨_, _, (by go_simp; first | done | exact ⟨rfl, rfl⟩ | with_reducible rfl), ?_⟩
    refine (toSegmentC a0_0 a0_1 a0_2 n0_2 c0_2 z0_2 _ w (h0_2.mk (M3.trans s0) (Nat.le_refl _) (.inr (Nat.le_refl _))) (M3.trans s0).size hN0_2).mono ?_
    rintro e w' ⟨b0_2, rfl, o0, g0, mm⟩
    exact ⟨_, g, rfl, ⟨⟨s0.trans mm, mm.cellAt s1, mm.cellAt s2, mm.cellAt s3, mm.cellAt s4, mm.cellAt s5, mm.cellAt s6, mm.cellAt s7, mm.cellAt s8, mm.cellAt s9⟩, hB.mk0 mm⟩, BxX.same mm, ⟨_, rfl, o0.has.mono (Nat.le_refl _)⟩⟩
  try simp only [Act.put, List.getElem_toArray, List.getElem_cons_succ, List.getElem_cons_zero, List.setIfInBounds_toArray, List.set_cons_zero, List.set_cons_succ]
  refine WkG.value (m := 6) (k := 2) (by decide) rfl rfl (of_decide_eq_true (by rfl)) rfl (fun g w hS hF => ?_) (fun v2 => ?_)
  · obtain ⟨⟨s0, s1, s2, s3, s4, s5, s6, s7, s8, s9⟩, hB⟩ := hS
    exact ⟨.agg #[.int .i64 a1_0, .int .i64 a1_1, .slice a1_2 n1_2 c1_2], w, g, (by go_simp; try with_reducible rfl), ⟨⟨s0, s1, s2, s3, s4, s5, s6, s7, s8, s9⟩, hB⟩, BxX.same (Mk.refl _ _ _), rfl⟩
  try simp only [Act.put, List.getElem_toArray, List.getElem_cons_succ, List.getElem_cons_zero, List.setIfInBounds_toArray, List.set_cons_zero, List.set_cons_succ]
  refine WkG.call (m := 5) (k := 3) (by decide) rfl rfl (of_decide_eq_true (by rfl)) rfl (fun g w hS hF => ?_) (fun v3 => ?_)
  · obtain ⟨⟨s0, s1, s2, s3, s4, s5, s6, s7, s8, s9⟩, hB⟩ := hS
    have f2 : v2 = .agg #[.int .i64 a1_0, .int .i64 a1_1, .slice a1_2 n1_2 c1_2] := hF 2 (by rfl)
    obtain rfl := f2
    refine ⟨_, _, (by go_simp; first | done | exact ⟨rfl, rfl⟩ | with_reducible rfl), ?_⟩
    refine (toSegmentC a1_0 a1_1 a1_2 n1_2 c1_2 z1_2 _ w (h1_2.mk (M3.trans s0) (Nat.le_refl _) (.inr (Nat.le_refl _))) (M3.trans s0).size hN1_2).mono ?_
    rintro e w' ⟨b1_2, rfl, o0, g0, mm⟩
    exact ⟨_, g, rfl, ⟨⟨s0.trans mm, mm.cellAt s1, mm.cellAt s2, mm.cellAt s3, mm.cellAt s4, mm.cellAt s5, mm.cellAt s6, mm.cellAt s7, mm.cellAt s8, mm.cellAt s9⟩, hB.mk0 mm⟩, BxX.same mm, ⟨_, rfl, o0.has.mono (Nat.le_refl _)⟩⟩
  try simp only [Act.put, List.getElem_toArray, List.getElem_cons_succ, List.getElem_cons_zero, List.setIfInBounds_toArray, List.set_cons_zero, List.set_cons_succ]
  refine WkG.value (m := 4) (k := 4) (by decide) rfl rfl (of_decide_eq_true (by rfl)) rfl (fun g w hS hF => ?_) (fun v4 => ?_)
  · obtain ⟨⟨s0, s1, s2, s3, s4, s5, s6, s7, s8, s9⟩, hB⟩ := hS
    exact ⟨.bool a2, w, g, (by go_simp; try with_reducible rfl), ⟨⟨s0, s1, s2, s3, s4, s5, s6, s7, s8, s9⟩, hB⟩, BxX.same (Mk.refl _ _ _), rfl⟩
  try simp only [Act.put, List.getElem_toArray, List.getElem_cons_succ, List.getElem_cons_zero, List.setIfInBounds_toArray, List.set_cons_zero, List.set_cons_succ]
  refine WkG.value (m := 3) (k := 5) (by decide) rfl rfl (of_decide_eq_true (by rfl)) rfl (fun g w hS hF => ?_) (fun v5 => ?_)
  · obtain ⟨⟨s0, s1, s2, s3, s4, s5, s6, s7, s8, s9⟩, hB⟩ := hS
    exact ⟨.agg #[.int .i64 a3_0, .int .i64 a3_1, .slice a3_2 n3_2 c3_2], w, g, (by go_simp; try with_reducible rfl), ⟨⟨s0, s1, s2, s3, s4, s5, s6, s7, s8, s9⟩, hB⟩, BxX.same (Mk.refl _ _ _), rfl⟩
  try simp only [Act.put, List.getElem_toArray, List.getElem_cons_succ, List.getElem_cons_zero, List.setIfInBounds_toArray, List.set_cons_zero, List.set_cons_succ]
  refine WkG.call (m := 2) (k := 6) (by decide) rfl rfl (of_decide_eq_true (by rfl)) rfl (fun g w hS hF => ?_) (fun v6 => ?_)
  · obtain ⟨⟨s0, s1, s2, s3, s4, s5, s6, s7, s8, s9⟩, hB⟩ := hS
    have f5 : v5 = .agg #[.int .i64 a3_0, .int .i64 a3_1, .slice a3_2 n3_2 c3_2] := hF 5 (by rfl)
    obtain rfl := f5
    refine ⟨_, _, (by go_simp; first | done | exact ⟨rfl, rfl⟩ | with_reducible rfl), ?_⟩
    refine (toSegmentC a3_0 a3_1 a3_2 n3_2 c3_2 z3_2 _ w (h3_2.mk (M3.trans s0) (Nat.le_refl _) (.inr (Nat.le_refl _))) (M3.trans s0).size hN3_2).mono ?_
    rintro e w' ⟨b3_2, rfl, o0, g0, mm⟩
    exact ⟨_, g, rfl, ⟨⟨s0.trans mm, mm.cellAt s1, mm.cellAt s2, mm.cellAt s3, mm.cellAt s4, mm.cellAt s5, mm.cellAt s6, mm.cellAt s7, mm.cellAt s8, mm.cellAt s9⟩, hB.mk0 mm⟩, BxX.same mm, ⟨_, rfl, o0.has.mono (Nat.le_refl _)⟩⟩
  try simp only [Act.put, List.getElem_toArray, List.getElem_cons_succ, List.getElem_cons_zero, List.setIfInBounds_toArray, List.set_cons_zero, List.set_cons_succ]
  refine WkG.call (m := 1) (k := 7) (by decide) rfl rfl (of_decide_eq_true (by rfl)) rfl (fun g w hS hF => ?_) (fun v7 => ?_)
  · obtain ⟨⟨s0, s1, s2, s3, s4, s5, s6, s7, s8, s9⟩, hB⟩ := hS
    have f1 : ∃ b0_2, v1 = .agg #[.int .i64 a0_0, .int .i64 a0_1, .slice (some ⟨b0_2, 0, none⟩) n0_2 n0_2] ∧ HasHop w w.heap.size (some ⟨b0_2, 0, none⟩) n0_2 z0_2 := hF 1 (by rfl)
    obtain ⟨b0_2, rfl, r0_2⟩ := f1
    have f3 : ∃ b1_2, v3 = .agg #[.int .i64 a1_0, .int .i64 a1_1, .slice (some ⟨b1_2, 0, none⟩) n1_2 n1_2] ∧ HasHop w w.heap.size (some ⟨b1_2, 0, none⟩) n1_2 z1_2 := hF 3 (by rfl)
    obtain ⟨b1_2, rfl, r1_2⟩ := f3
    have f4 : v4 = .bool a2 := hF 4 (by rfl)
    obtain rfl := f4
    have f6 : ∃ b3_2, v6 = .agg #[.int .i64 a3_0, .int .i64 a3_1, .slice (some ⟨b3_2, 0, none⟩) n3_2 n3_2] ∧ HasHop w w.heap.size (some ⟨b3_2, 0, none⟩) n3_2 z3_2 := hF 6 (by rfl)
    obtain ⟨b3_2, rfl, r3_2⟩ := f6
    refine ⟨_, _, (by go_simp; first | done | exact ⟨rfl, rfl⟩ | with_reducible rfl), ?_⟩
    refine (specJ3 a0_0 a0_1 _ n0_2 _ _ z0_2 a1_0 a1_1 _ n1_2 _ _ z1_2 a3_0 a3_1 _ n3_2 _ _ z3_2 a2 w r0_2 (Nat.le_refl _) hN0_2 (fun h => by cases h) (Nat.le_refl _) r1_2 (Nat.le_refl _) hN1_2 (fun h => by cases h) (Nat.le_refl _) r3_2 (Nat.le_refl _) hN3_2 (fun h => by cases h) (Nat.le_refl _)).mono ?_
    rintro e w' ⟨A, N, C, rfl, hc, ow, mm⟩
    exact ⟨_, g, rfl, ⟨⟨s0.trans mm, mm.cellAt s1, mm.cellAt s2, mm.cellAt s3, mm.cellAt s4, mm.cellAt s5, mm.cellAt s6, mm.cellAt s7, mm.cellAt s8, mm.cellAt s9⟩, hB.mk0 mm⟩, BxX.same mm, ⟨A, N, C, w.heap.size, w'.heap.size, rfl, hc, s0.size, mm.size, Nat.le_refl _, ow, BxA.of hB⟩⟩
  try simp only [Act.put, List.getElem_toArray, List.getElem_cons_succ, List.getElem_cons_zero, List.setIfInBounds_toArray, List.set_cons_zero, List.set_cons_succ]
  refine WkG.value (m := 0) (k := 8) (by decide) rfl rfl (of_decide_eq_true (by rfl)) rfl (fun g w hS hF => ?_) (fun v8 => ?_)
  · obtain ⟨⟨s0, s1, s2, s3, s4, s5, s6, s7, s8, s9⟩, hB⟩ := hS
    have mm := Mk.alloc w (Obj.cells #[.slice none 0 0] 42)
    exact ⟨.pointer (some ⟨w.heap.size, 0, none⟩), (w.alloc (Obj.cells #[.slice none 0 0] 42)), bxP g 8 w.heap.size, (by go_simp; try with_reducible rfl), ⟨⟨s0.trans mm, mm.cellAt s1, mm.cellAt s2, mm.cellAt s3, mm.cellAt s4, mm.cellAt s5, mm.cellAt s6, mm.cellAt s7, mm.cellAt s8, mm.cellAt s9⟩, hB.put s0.size 8 (Obj.cells #[.slice none 0 0] 42)⟩, BxX.put 8 (Obj.cells #[.slice none 0 0] 42), BxZ.new g 8 [.slice none 0 0] 42 w⟩
  try simp only [Act.put, List.getElem_toArray, List.getElem_cons_succ, List.getElem_cons_zero, List.setIfInBounds_toArray, List.set_cons_zero, List.set_cons_succ]
  refine WkG.done fun gE wq4 hE hF => ?_
  clear k0_0 k0_1 k0_2 k1_0 k1_1 k1_2 k3_0 k3_1 k3_2
  obtain ⟨⟨m4, k0_0, k0_1, k0_2, k1_0, k1_1, k1_2, k3_0, k3_1, k3_2⟩, hBE⟩ := hE
  change wpAny _ _ _ _ 1 _ _ _
  have f7 : ∃ A N C lo hi, v7 = .agg #[.slice A N C] ∧ ((A = none → C = 0) ∧ (N ≤ C ∧ C ≤ 9223372036854775807)) ∧ w3.heap.size ≤ lo ∧ lo ≤ hi ∧ hi ≤ wq4.heap.size ∧ OwnN WPathPart wq4 lo hi A N (addIf (decide (0 < n3_2)) (addIf (decide (0 < n1_2)) (addIf (decide (0 < n0_2)) [] (mpEl a0_0 a0_1 z0_2 n0_2 1 0)) (mpEl a1_0 a1_1 z1_2 n1_2 (j3k a2) 0)) (mpEl a3_0 a3_1 z3_2 n3_2 4 0)) ∧ BxA gE lo hi := hF 7 (by decide)
  obtain ⟨Aw0, Nw0, Cw0, low0, hiw0, rfl, hcw0, hlw0, hmw0, hhw0, ow0, hAw0⟩ := f7
  have f8 : BxZ gE 8 [.slice none 0 0] v8 wq4 := hF 8 (by decide)
  obtain ⟨Bw0, hgw0, rfl, hltw0, hzw0, hfw0⟩ := f8
  have hsw0 := hAw0 8 Bw0 hgw0
  have hbw00 := hBE.lo 8 Bw0 hgw0
  have xw0_0 := hzw0 0 _ rfl
  clear hF
  refine wpAny_ready (rs := [9]) (by kernel_rfl) (by simp) ?_
  refine (AllReady.cons rfl (fun K hK => ?_) AllReady.nil)
  go_simp
  refine hK _ _ ?_
  clear hK K
  try simp only [Act.put, List.getElem_toArray, List.getElem_cons_succ, List.getElem_cons_zero, List.setIfInBounds_toArray, List.set_cons_zero, List.set_cons_succ]
  have yn0 : Bw0 ≠ w.heap.size := by omega
  have yn1 : Bw0 ≠ w.heap.size + 1 := by omega
  have yn2 : Bw0 ≠ w.heap.size + 1 + 1 := by omega
  replace xw0_0 := World.cell?_setCell_same _ _ (.slice Aw0 Nw0 Cw0) xw0_0
  replace k0_0 := cell_set k0_0 ⟨Bw0, 0, none⟩ (.slice Aw0 Nw0 Cw0) (.inl yn0)
  replace k0_1 := cell_set k0_1 ⟨Bw0, 0, none⟩ (.slice Aw0 Nw0 Cw0) (.inl yn0)
  replace k0_2 := cell_set k0_2 ⟨Bw0, 0, none⟩ (.slice Aw0 Nw0 Cw0) (.inl yn0)
  replace k1_0 := cell_set k1_0 ⟨Bw0, 0, none⟩ (.slice Aw0 Nw0 Cw0) (.inl yn1)
  replace k1_1 := cell_set k1_1 ⟨Bw0, 0, none⟩ (.slice Aw0 Nw0 Cw0) (.inl yn1)
  replace k1_2 := cell_set k1_2 ⟨Bw0, 0, none⟩ (.slice Aw0 Nw0 Cw0) (.inl yn1)
  replace k3_0 := cell_set k3_0 ⟨Bw0, 0, none⟩ (.slice Aw0 Nw0 Cw0) (.inl yn2)
  replace k3_1 := cell_set k3_1 ⟨Bw0, 0, none⟩ (.slice Aw0 Nw0 Cw0) (.inl yn2)
  replace k3_2 := cell_set k3_2 ⟨Bw0, 0, none⟩ (.slice Aw0 Nw0 Cw0) (.inl yn2)
  replace ow0 := ow0.set ⟨Bw0, 0, none⟩ (.slice Aw0 Nw0 Cw0) hsw0
  replace m4 := m4.put ⟨Bw0, 0, none⟩ (.slice Aw0 Nw0 Cw0) hbw00
  have zq : (wq4.setCell ⟨Bw0, 0, none⟩ (.slice Aw0 Nw0 Cw0)).heap.size = wq4.heap.size := by simp only [World.size_set]
  clear hzw0 hfw0 hAw0 hgw0 hBE
  generalize (wq4.setCell ⟨Bw0, 0, none⟩ (.slice Aw0 Nw0 Cw0)) = w4 at *
  rw [← zq] at hhw0 hltw0
  clear zq
  clear yn0 yn1 yn2
  refine wpAny_doneN (by kernel_rfl) ?_
  refine ‹∀ (a : Act) (w : World), _ → _› _ _ ?_
  clear hN0_2 hN1_2 hN3_2 yr4_0 yr4_1 yr4_2
  have hbw0 : szPathPart (addIf (decide (0 < n3_2)) (addIf (decide (0 < n1_2)) (addIf (decide (0 < n0_2)) [] (mpEl a0_0 a0_1 z0_2 n0_2 1 0)) (mpEl a1_0 a1_1 z1_2 n1_2 (j3k a2) 0)) (mpEl a3_0 a3_1 z3_2 n3_2 4 0)) Nw0 ≤ 1572864 := j3_sz h0_2.1 h1_2.1 h3_2.1 ow0.1 (by omega)
  have hbw0n : Nw0 ≤ 1572864 := Nat.le_trans (szPathPart_n _ _) hbw0
  have hbw0t : sumTo totPathPart (addIf (decide (0 < n3_2)) (addIf (decide (0 < n1_2)) (addIf (decide (0 < n0_2)) [] (mpEl a0_0 a0_1 z0_2 n0_2 1 0)) (mpEl a1_0 a1_1 z1_2 n1_2 (j3k a2) 0)) (mpEl a3_0 a3_1 z3_2 n3_2 4 0)) Nw0 ≤ 8388608 := by have := totPathPart_sz (addIf (decide (0 < n3_2)) (addIf (decide (0 < n1_2)) (addIf (decide (0 < n0_2)) [] (mpEl a0_0 a0_1 z0_2 n0_2 1 0)) (mpEl a1_0 a1_1 z1_2 n1_2 (j3k a2) 0)) (mpEl a3_0 a3_1 z3_2 n3_2 4 0)) Nw0; omega
  have M4 := M3.trans m4
  have z4 := m4.size
  go_wp2_with fail
  refine (toSegmentC _ _ _ _ _ _ w.heap.size _ (h0_2.mk M4 (Nat.le_refl _) (.inr (Nat.le_refl _))) (by omega) (by omega)).mono ?_
  rintro e w5 ⟨b1, rfl, o2, g3, m5⟩
  have M5 := M4.trans m5
  have z5 := m5.size
  replace k0_0 := m5.cellAt k0_0
  replace k0_1 := m5.cellAt k0_1
  replace k0_2 := m5.cellAt k0_2
  replace k1_0 := m5.cellAt k1_0
  replace k1_1 := m5.cellAt k1_1
  replace k1_2 := m5.cellAt k1_2
  replace k3_0 := m5.cellAt k3_0
  replace k3_1 := m5.cellAt k3_1
  replace k3_2 := m5.cellAt k3_2
  replace xw0_0 := m5.cellAt xw0_0
  replace ow0 := ow0.mk m5 (by omega) (.inr (.inr (Nat.le_refl _)))
  have h4 := o2.has.mono (B' := w5.heap.size) (by omega)
  have yb5 : w.heap.size < w5.heap.size := by omega
  have yb6 : w.heap.size + 1 < w5.heap.size := by omega
  have yb7 : w.heap.size + 1 + 1 < w5.heap.size := by omega
  have yb8 : Bw0 < w5.heap.size := by omega
  go_wp2_with fail
  have xx0_0 : (w5.alloc (Obj.cells #[Value.int .i64 a0_0, Value.int .i64 a0_1, Value.slice (some ⟨b1, 0, none⟩) n0_2 n0_2] 28)).cell? ⟨w5.heap.size, 0, none⟩ = some (.int .i64 a0_0) := by rw [World.cell?_alloc_at _ _ _ _ rfl]; rfl
  have xx0_1 : (w5.alloc (Obj.cells #[Value.int .i64 a0_0, Value.int .i64 a0_1, Value.slice (some ⟨b1, 0, none⟩) n0_2 n0_2] 28)).cell? ⟨w5.heap.size, 1, none⟩ = some (.int .i64 a0_1) := by rw [World.cell?_alloc_at _ _ _ _ rfl]; rfl
  have xx0_2 : (w5.alloc (Obj.cells #[Value.int .i64 a0_0, Value.int .i64 a0_1, Value.slice (some ⟨b1, 0, none⟩) n0_2 n0_2] 28)).cell? ⟨w5.heap.size, 2, none⟩ = some (.slice (some ⟨b1, 0, none⟩) n0_2 n0_2) := by rw [World.cell?_alloc_at _ _ _ _ rfl]; rfl
  have m6 := Mk.alloc w5 (Obj.cells #[Value.int .i64 a0_0, Value.int .i64 a0_1, Value.slice (some ⟨b1, 0, none⟩) n0_2 n0_2] 28)
  replace k0_0 := m6.cellAt k0_0
  replace k0_1 := m6.cellAt k0_1
  replace k0_2 := m6.cellAt k0_2
  replace k1_0 := m6.cellAt k1_0
  replace k1_1 := m6.cellAt k1_1
  replace k1_2 := m6.cellAt k1_2
  replace k3_0 := m6.cellAt k3_0
  replace k3_1 := m6.cellAt k3_1
  replace k3_2 := m6.cellAt k3_2
  replace xw0_0 := m6.cellAt xw0_0
  replace h4 := h4.mk m6 (by omega) (.inr (Nat.le_refl _))
  replace o2 := o2.mk m6 (by omega) (.inr (.inr (Nat.le_refl _)))
  replace ow0 := ow0.mk m6 (by omega) (.inr (.inr (Nat.le_refl _)))
  have M6 := M5.trans m6
  have z6 := m6.size
  have zz6 : w5.heap.size < (w5.alloc (Obj.cells #[Value.int .i64 a0_0, Value.int .i64 a0_1, Value.slice (some ⟨b1, 0, none⟩) n0_2 n0_2] 28)).heap.size := by rw [World.size_alloc]; omega
  generalize (w5.alloc (Obj.cells #[Value.int .i64 a0_0, Value.int .i64 a0_1, Value.slice (some ⟨b1, 0, none⟩) n0_2 n0_2] 28)) = w6 at *
  refine (toSegmentC _ _ _ _ _ _ w.heap.size _ (h1_2.mk M6 (Nat.le_refl _) (.inr (Nat.le_refl _))) (by omega) (by omega)).mono ?_
  rintro e w7 ⟨b9, rfl, o10, g11, m7⟩
  have M7 := M6.trans m7
  have z7 := m7.size
  replace k0_0 := m7.cellAt k0_0
  replace k0_1 := m7.cellAt k0_1
  replace k0_2 := m7.cellAt k0_2
  replace k1_0 := m7.cellAt k1_0
  replace k1_1 := m7.cellAt k1_1
  replace k1_2 := m7.cellAt k1_2
  replace k3_0 := m7.cellAt k3_0
  replace k3_1 := m7.cellAt k3_1
  replace k3_2 := m7.cellAt k3_2
  replace xw0_0 := m7.cellAt xw0_0
  replace xx0_0 := m7.cellAt xx0_0
  replace xx0_1 := m7.cellAt xx0_1
  replace xx0_2 := m7.cellAt xx0_2
  replace h4 := h4.mk m7 (by omega) (.inr (Nat.le_refl _))
  replace o2 := o2.mk m7 (by omega) (.inr (.inr (Nat.le_refl _)))
  replace ow0 := ow0.mk m7 (by omega) (.inr (.inr (Nat.le_refl _)))
  have h12 := o10.has.mono (B' := w7.heap.size) (by omega)
  have yb13 : w.heap.size < w7.heap.size := by omega
  have yb14 : w.heap.size + 1 < w7.heap.size := by omega
  have yb15 : w.heap.size + 1 + 1 < w7.heap.size := by omega
  have yb16 : Bw0 < w7.heap.size := by omega
  have yb17 : w5.heap.size < w7.heap.size := by omega
  go_wp2_with fail
  have xx1_0 : (w7.alloc (Obj.cells #[Value.int .i64 a1_0, Value.int .i64 a1_1, Value.slice (some ⟨b9, 0, none⟩) n1_2 n1_2] 28)).cell? ⟨w7.heap.size, 0, none⟩ = some (.int .i64 a1_0) := by rw [World.cell?_alloc_at _ _ _ _ rfl]; rfl
  have xx1_1 : (w7.alloc (Obj.cells #[Value.int .i64 a1_0, Value.int .i64 a1_1, Value.slice (some ⟨b9, 0, none⟩) n1_2 n1_2] 28)).cell? ⟨w7.heap.size, 1, none⟩ = some (.int .i64 a1_1) := by rw [World.cell?_alloc_at _ _ _ _ rfl]; rfl
  have xx1_2 : (w7.alloc (Obj.cells #[Value.int .i64 a1_0, Value.int .i64 a1_1, Value.slice (some ⟨b9, 0, none⟩) n1_2 n1_2] 28)).cell? ⟨w7.heap.size, 2, none⟩ = some (.slice (some ⟨b9, 0, none⟩) n1_2 n1_2) := by rw [World.cell?_alloc_at _ _ _ _ rfl]; rfl
  have m8 := Mk.alloc w7 (Obj.cells #[Value.int .i64 a1_0, Value.int .i64 a1_1, Value.slice (some ⟨b9, 0, none⟩) n1_2 n1_2] 28)
  replace k0_0 := m8.cellAt k0_0
  replace k0_1 := m8.cellAt k0_1
  replace k0_2 := m8.cellAt k0_2
  replace k1_0 := m8.cellAt k1_0
  replace k1_1 := m8.cellAt k1_1
  replace k1_2 := m8.cellAt k1_2
  replace k3_0 := m8.cellAt k3_0
  replace k3_1 := m8.cellAt k3_1
  replace k3_2 := m8.cellAt k3_2
  replace xw0_0 := m8.cellAt xw0_0
  replace xx0_0 := m8.cellAt xx0_0
  replace xx0_1 := m8.cellAt xx0_1
  replace xx0_2 := m8.cellAt xx0_2
  replace h4 := h4.mk m8 (by omega) (.inr (Nat.le_refl _))
  replace h12 := h12.mk m8 (by omega) (.inr (Nat.le_refl _))
  replace o2 := o2.mk m8 (by omega) (.inr (.inr (Nat.le_refl _)))
  replace o10 := o10.mk m8 (by omega) (.inr (.inr (Nat.le_refl _)))
  replace ow0 := ow0.mk m8 (by omega) (.inr (.inr (Nat.le_refl _)))
  have M8 := M7.trans m8
  have z8 := m8.size
  have zz8 : w7.heap.size < (w7.alloc (Obj.cells #[Value.int .i64 a1_0, Value.int .i64 a1_1, Value.slice (some ⟨b9, 0, none⟩) n1_2 n1_2] 28)).heap.size := by rw [World.size_alloc]; omega
  generalize (w7.alloc (Obj.cells #[Value.int .i64 a1_0, Value.int .i64 a1_1, Value.slice (some ⟨b9, 0, none⟩) n1_2 n1_2] 28)) = w8 at *
  refine (toSegmentC _ _ _ _ _ _ w.heap.size _ (h3_2.mk M8 (Nat.le_refl _) (.inr (Nat.le_refl _))) (by omega) (by omega)).mono ?_
  rintro e w9 ⟨b18, rfl, o19, g20, m9⟩
  have M9 := M8.trans m9
  have z9 := m9.size
  replace k0_0 := m9.cellAt k0_0
  replace k0_1 := m9.cellAt k0_1
  replace k0_2 := m9.cellAt k0_2
  replace k1_0 := m9.cellAt k1_0
  replace k1_1 := m9.cellAt k1_1
  replace k1_2 := m9.cellAt k1_2
  replace k3_0 := m9.cellAt k3_0
  replace k3_1 := m9.cellAt k3_1
  replace k3_2 := m9.cellAt k3_2
  replace xw0_0 := m9.cellAt xw0_0
  replace xx0_0 := m9.cellAt xx0_0
  replace xx0_1 := m9.cellAt xx0_1
  replace xx0_2 := m9.cellAt xx0_2
  replace xx1_0 := m9.cellAt xx1_0
  replace xx1_1 := m9.cellAt xx1_1
  replace xx1_2 := m9.cellAt xx1_2
  replace h4 := h4.mk m9 (by omega) (.inr (Nat.le_refl _))
  replace h12 := h12.mk m9 (by omega) (.inr (Nat.le_refl _))
  replace o2 := o2.mk m9 (by omega) (.inr (.inr (Nat.le_refl _)))
  replace o10 := o10.mk m9 (by omega) (.inr (.inr (Nat.le_refl _)))
  replace ow0 := ow0.mk m9 (by omega) (.inr (.inr (Nat.le_refl _)))
  have h21 := o19.has.mono (B' := w9.heap.size) (by omega)
  have yb22 : w.heap.size < w9.heap.size := by omega
  have yb23 : w.heap.size + 1 < w9.heap.size := by omega
  have yb24 : w.heap.size + 1 + 1 < w9.heap.size := by omega
  have yb25 : Bw0 < w9.heap.size := by omega
  have yb26 : w5.heap.size < w9.heap.size := by omega
  have yb27 : w7.heap.size < w9.heap.size := by omega
  go_wp2_with fail
  have xx3_0 : (w9.alloc (Obj.cells #[Value.int .i64 a3_0, Value.int .i64 a3_1, Value.slice (some ⟨b18, 0, none⟩) n3_2 n3_2] 28)).cell? ⟨w9.heap.size, 0, none⟩ = some (.int .i64 a3_0) := by rw [World.cell?_alloc_at _ _ _ _ rfl]; rfl
  have xx3_1 : (w9.alloc (Obj.cells #[Value.int .i64 a3_0, Value.int .i64 a3_1, Value.slice (some ⟨b18, 0, none⟩) n3_2 n3_2] 28)).cell? ⟨w9.heap.size, 1, none⟩ = some (.int .i64 a3_1) := by rw [World.cell?_alloc_at _ _ _ _ rfl]; rfl
  have xx3_2 : (w9.alloc (Obj.cells #[Value.int .i64 a3_0, Value.int .i64 a3_1, Value.slice (some ⟨b18, 0, none⟩) n3_2 n3_2] 28)).cell? ⟨w9.heap.size, 2, none⟩ = some (.slice (some ⟨b18, 0, none⟩) n3_2 n3_2) := by rw [World.cell?_alloc_at _ _ _ _ rfl]; rfl
  have m10 := Mk.alloc w9 (Obj.cells #[Value.int .i64 a3_0, Value.int .i64 a3_1, Value.slice (some ⟨b18, 0, none⟩) n3_2 n3_2] 28)
  replace k0_0 := m10.cellAt k0_0
  replace k0_1 := m10.cellAt k0_1
  replace k0_2 := m10.cellAt k0_2
  replace k1_0 := m10.cellAt k1_0
  replace k1_1 := m10.cellAt k1_1
  replace k1_2 := m10.cellAt k1_2
  replace k3_0 := m10.cellAt k3_0
  replace k3_1 := m10.cellAt k3_1
  replace k3_2 := m10.cellAt k3_2
  replace xw0_0 := m10.cellAt xw0_0
  replace xx0_0 := m10.cellAt xx0_0
  replace xx0_1 := m10.cellAt xx0_1
  replace xx0_2 := m10.cellAt xx0_2
  replace xx1_0 := m10.cellAt xx1_0
  replace xx1_1 := m10.cellAt xx1_1
  replace xx1_2 := m10.cellAt xx1_2
  replace h4 := h4.mk m10 (by omega) (.inr (Nat.le_refl _))
  replace h12 := h12.mk m10 (by omega) (.inr (Nat.le_refl _))
  replace h21 := h21.mk m10 (by omega) (.inr (Nat.le_refl _))
  replace o2 := o2.mk m10 (by omega) (.inr (.inr (Nat.le_refl _)))
  replace o10 := o10.mk m10 (by omega) (.inr (.inr (Nat.le_refl _)))
  replace o19 := o19.mk m10 (by omega) (.inr (.inr (Nat.le_refl _)))
  replace ow0 := ow0.mk m10 (by omega) (.inr (.inr (Nat.le_refl _)))
  have M10 := M9.trans m10
  have z10 := m10.size
  have zz10 : w9.heap.size < (w9.alloc (Obj.cells #[Value.int .i64 a3_0, Value.int .i64 a3_1, Value.slice (some ⟨b18, 0, none⟩) n3_2 n3_2] 28)).heap.size := by rw [World.size_alloc]; omega
  generalize (w9.alloc (Obj.cells #[Value.int .i64 a3_0, Value.int .i64 a3_1, Value.slice (some ⟨b18, 0, none⟩) n3_2 n3_2] 28)) = w10 at *
  have hN0_2 : n0_2 ≤ 1048576 := by omega
  have hN1_2 : n1_2 ≤ 1048576 := by omega
  have hN3_2 : n3_2 ≤ 1048576 := by omega
  refine (implJ3 a0_0 a0_1 _ n0_2 _ _ z0_2 a1_0 a1_1 _ n1_2 _ _ z1_2 a3_0 a3_1 _ n3_2 _ _ z3_2 a2 _ h4 (by omega) hN0_2 (fun h => by cases h) (Nat.le_refl _) h12 (by omega) hN1_2 (fun h => by cases h) (Nat.le_refl _) h21 (by omega) hN3_2 (fun h => by cases h) (Nat.le_refl _)).mono ?_
  rintro e w11 ⟨A11, N11, C11, rfl, hc11, og0, m11⟩
  clear hc11
  obtain rfl : Nw0 = N11 := ow0.1.symm.trans og0.1
  have M11 := M10.trans m11
  have z11 := m11.size
  replace k0_0 := m11.cellAt k0_0
  replace k0_1 := m11.cellAt k0_1
  replace k0_2 := m11.cellAt k0_2
  replace k1_0 := m11.cellAt k1_0
  replace k1_1 := m11.cellAt k1_1
  replace k1_2 := m11.cellAt k1_2
  replace k3_0 := m11.cellAt k3_0
  replace k3_1 := m11.cellAt k3_1
  replace k3_2 := m11.cellAt k3_2
  replace xw0_0 := m11.cellAt xw0_0
  replace xx0_0 := m11.cellAt xx0_0
  replace xx0_1 := m11.cellAt xx0_1
  replace xx0_2 := m11.cellAt xx0_2
  replace xx1_0 := m11.cellAt xx1_0
  replace xx1_1 := m11.cellAt xx1_1
  replace xx1_2 := m11.cellAt xx1_2
  replace xx3_0 := m11.cellAt xx3_0
  replace xx3_1 := m11.cellAt xx3_1
  replace xx3_2 := m11.cellAt xx3_2
  replace h4 := h4.mk m11 (by omega) (.inr (Nat.le_refl _))
  replace h12 := h12.mk m11 (by omega) (.inr (Nat.le_refl _))
  replace h21 := h21.mk m11 (by omega) (.inr (Nat.le_refl _))
  replace o2 := o2.mk m11 (by omega) (.inr (.inr (Nat.le_refl _)))
  replace o10 := o10.mk m11 (by omega) (.inr (.inr (Nat.le_refl _)))
  replace o19 := o19.mk m11 (by omega) (.inr (.inr (Nat.le_refl _)))
  replace ow0 := ow0.mk m11 (by omega) (.inr (.inr (Nat.le_refl _)))
  have yb28 : w.heap.size < w11.heap.size := by omega
  have yb29 : w.heap.size + 1 < w11.heap.size := by omega
  have yb30 : w.heap.size + 1 + 1 < w11.heap.size := by omega
  have yb31 : Bw0 < w11.heap.size := by omega
  have yb32 : w5.heap.size < w11.heap.size := by omega
  have yb33 : w7.heap.size < w11.heap.size := by omega
  have yb34 : w9.heap.size < w11.heap.size := by omega
  go_wp2_with fail
  have xg0_0 : (w11.alloc (Obj.cells #[Value.slice A11 Nw0 C11] 42)).cell? ⟨w11.heap.size, 0, none⟩ = some (.slice A11 Nw0 C11) := by rw [World.cell?_alloc_at _ _ _ _ rfl]; rfl
  have m12 := Mk.alloc w11 (Obj.cells #[Value.slice A11 Nw0 C11] 42)
  replace k0_0 := m12.cellAt k0_0
  replace k0_1 := m12.cellAt k0_1
  replace k0_2 := m12.cellAt k0_2
  replace k1_0 := m12.cellAt k1_0
  replace k1_1 := m12.cellAt k1_1
  replace k1_2 := m12.cellAt k1_2
  replace k3_0 := m12.cellAt k3_0
  replace k3_1 := m12.cellAt k3_1
  replace k3_2 := m12.cellAt k3_2
  replace xw0_0 := m12.cellAt xw0_0
  replace xx0_0 := m12.cellAt xx0_0
  replace xx0_1 := m12.cellAt xx0_1
  replace xx0_2 := m12.cellAt xx0_2
  replace xx1_0 := m12.cellAt xx1_0
  replace xx1_1 := m12.cellAt xx1_1
  replace xx1_2 := m12.cellAt xx1_2
  replace xx3_0 := m12.cellAt xx3_0
  replace xx3_1 := m12.cellAt xx3_1
  replace xx3_2 := m12.cellAt xx3_2
  replace h4 := h4.mk m12 (by omega) (.inr (Nat.le_refl _))
  replace h12 := h12.mk m12 (by omega) (.inr (Nat.le_refl _))
  replace h21 := h21.mk m12 (by omega) (.inr (Nat.le_refl _))
  replace o2 := o2.mk m12 (by omega) (.inr (.inr (Nat.le_refl _)))
  replace o10 := o10.mk m12 (by omega) (.inr (.inr (Nat.le_refl _)))
  replace o19 := o19.mk m12 (by omega) (.inr (.inr (Nat.le_refl _)))
  replace ow0 := ow0.mk m12 (by omega) (.inr (.inr (Nat.le_refl _)))
  replace og0 := og0.mk m12 (by omega) (.inr (.inr (Nat.le_refl _)))
  have M12 := M11.trans m12
  have z12 := m12.size
  have zz12 : w11.heap.size < (w11.alloc (Obj.cells #[Value.slice A11 Nw0 C11] 42)).heap.size := by rw [World.size_alloc]; omega
  generalize (w11.alloc (Obj.cells #[Value.slice A11 Nw0 C11] 42)) = w12 at *
  clear hN0_2 hN1_2 hN3_2
  refine (eqPathCB _ _ _ _ _ _ _ _ _ og0.hasPathPart ow0.hasPathPart (by omega) (by omega) hbw0).mono ?_
  rintro e w13 ⟨rfl, m13⟩
  have M13 := M12.trans m13
  have z13 := m13.size
  replace k0_0 := m13.cellAt k0_0
  replace k0_1 := m13.cellAt k0_1
  replace k0_2 := m13.cellAt k0_2
  replace k1_0 := m13.cellAt k1_0
  replace k1_1 := m13.cellAt k1_1
  replace k1_2 := m13.cellAt k1_2
  replace k3_0 := m13.cellAt k3_0
  replace k3_1 := m13.cellAt k3_1
  replace k3_2 := m13.cellAt k3_2
  replace xw0_0 := m13.cellAt xw0_0
  replace xx0_0 := m13.cellAt xx0_0
  replace xx0_1 := m13.cellAt xx0_1
  replace xx0_2 := m13.cellAt xx0_2
  replace xx1_0 := m13.cellAt xx1_0
  replace xx1_1 := m13.cellAt xx1_1
  replace xx1_2 := m13.cellAt xx1_2
  replace xx3_0 := m13.cellAt xx3_0
  replace xx3_1 := m13.cellAt xx3_1
  replace xx3_2 := m13.cellAt xx3_2
  replace xg0_0 := m13.cellAt xg0_0
  replace h4 := h4.mk m13 (by omega) (.inr (Nat.le_refl _))
  replace h12 := h12.mk m13 (by omega) (.inr (Nat.le_refl _))
  replace h21 := h21.mk m13 (by omega) (.inr (Nat.le_refl _))
  replace o2 := o2.mk m13 (by omega) (.inr (.inr (Nat.le_refl _)))
  replace o10 := o10.mk m13 (by omega) (.inr (.inr (Nat.le_refl _)))
  replace o19 := o19.mk m13 (by omega) (.inr (.inr (Nat.le_refl _)))
  replace ow0 := ow0.mk m13 (by omega) (.inr (.inr (Nat.le_refl _)))
  replace og0 := og0.mk m13 (by omega) (.inr (.inr (Nat.le_refl _)))
  go_wp2_with fail
  have e35 : ∀ w', Mk0 w13 w' → HasHop w' w5.heap.size (some ⟨b1, 0, none⟩) n0_2 z0_2 := fun w' m => h4.mk m (by omega) (.inr (Nat.le_refl _))
  have e36 : ∀ w', Mk0 w13 w' → w5.heap.size ≤ w'.heap.size := fun w' m => Nat.le_trans (by omega) m.size
  have e37 : ∀ w', Mk0 w13 w' → HasHop w' w.heap.size a0_2 n0_2 z0_2 := fun w' m => h0_2.mk (M13.trans m) (Nat.le_refl _) (.inr (Nat.le_refl _))
  have hN0_2 : n0_2 ≤ 1048576 := by omega
  go_region_held3 (fun w' => Mk0 w13 w' ∧ w'.cell? ⟨w.heap.size, 0, none⟩ = some (.int .i64 a0_0) ∧ w'.cell? ⟨w.heap.size, 1, none⟩ = some (.int .i64 a0_1) ∧ w'.cell? ⟨w.heap.size, 2, none⟩ = some (.slice a0_2 n0_2 c0_2) ∧ w'.cell? ⟨w.heap.size + 1, 0, none⟩ = some (.int .i64 a1_0) ∧ w'.cell? ⟨w.heap.size + 1, 1, none⟩ = some (.int .i64 a1_1) ∧ w'.cell? ⟨w.heap.size + 1, 2, none⟩ = some (.slice a1_2 n1_2 c1_2) ∧ w'.cell? ⟨w.heap.size + 1 + 1, 0, none⟩ = some (.int .i64 a3_0) ∧ w'.cell? ⟨w.heap.size + 1 + 1, 1, none⟩ = some (.int .i64 a3_1) ∧ w'.cell? ⟨w.heap.size + 1 + 1, 2, none⟩ = some (.slice a3_2 n3_2 c3_2) ∧ w'.cell? ⟨Bw0, 0, none⟩ = some (.slice Aw0 Nw0 Cw0) ∧ w'.cell? ⟨w5.heap.size, 0, none⟩ = some (.int .i64 a0_0) ∧ w'.cell? ⟨w5.heap.size, 1, none⟩ = some (.int .i64 a0_1) ∧ w'.cell? ⟨w5.heap.size, 2, none⟩ = some (.slice (some ⟨b1, 0, none⟩) n0_2 n0_2) ∧ w'.cell? ⟨w7.heap.size, 0, none⟩ = some (.int .i64 a1_0) ∧ w'.cell? ⟨w7.heap.size, 1, none⟩ = some (.int .i64 a1_1) ∧ w'.cell? ⟨w7.heap.size, 2, none⟩ = some (.slice (some ⟨b9, 0, none⟩) n1_2 n1_2) ∧ w'.cell? ⟨w9.heap.size, 0, none⟩ = some (.int .i64 a3_0) ∧ w'.cell? ⟨w9.heap.size, 1, none⟩ = some (.int .i64 a3_1) ∧ w'.cell? ⟨w9.heap.size, 2, none⟩ = some (.slice (some ⟨b18, 0, none⟩) n3_2 n3_2) ∧ w'.cell? ⟨w11.heap.size, 0, none⟩ = some (.slice A11 Nw0 C11)) (first | exact ⟨Mk.drew1 _, k0_0, k0_1, k0_2, k1_0, k1_1, k1_2, k3_0, k3_1, k3_2, xw0_0, xx0_0, xx0_1, xx0_2, xx1_0, xx1_1, xx1_2, xx3_0, xx3_1, xx3_2, xg0_0⟩ | (obtain ⟨s0, s1, s2, s3, s4, s5, s6, s7, s8, s9, s10, s11, s12, s13, s14, s15, s16, s17, s18, s19, s20⟩ := ‹Mk0 w13 _ ∧ _›; exact ⟨s0.trans mm, mm.cellAt s1, mm.cellAt s2, mm.cellAt s3, mm.cellAt s4, mm.cellAt s5, mm.cellAt s6, mm.cellAt s7, mm.cellAt s8, mm.cellAt s9, mm.cellAt s10, mm.cellAt s11, mm.cellAt s12, mm.cellAt s13, mm.cellAt s14, mm.cellAt s15, mm.cellAt s16, mm.cellAt s17, mm.cellAt s18, mm.cellAt s19, mm.cellAt s20⟩)) (first | (go_at_call 11; refine (toSegmentC _ _ _ _ _ _ w.heap.size _ (e37 _ (‹Mk0 w13 _ ∧ _›).1) (M13.trans (‹Mk0 w13 _ ∧ _›).1).size hN0_2).mono ?_; rintro e wa ⟨bb0, rfl, oo0, gg0, mm⟩) | (go_at_call 13; refine (eqSegmentC _ _ _ _ _ _ _ _ _ _ _ (e35 _ (‹Mk0 w13 _ ∧ _›).1) (oo0.has.mono (Nat.le_refl _)) (e36 _ (‹Mk0 w13 _ ∧ _›).1) (Nat.le_refl _) hN0_2).mono ?_; rintro e wb14 ⟨rfl, mm⟩))
  obtain ⟨m14, k0_0, k0_1, k0_2, k1_0, k1_1, k1_2, k3_0, k3_1, k3_2, xw0_0, xx0_0, xx0_1, xx0_2, xx1_0, xx1_1, xx1_2, xx3_0, xx3_1, xx3_2, xg0_0⟩ := ‹Mk0 w13 _ ∧ _›
  clear e35 e36 e37 hN0_2
  refine ‹∀ (a : Act) (w : World), _ → _› _ _ ?_
  have M14 := M13.trans m14
  have z14 := m14.size
  replace h4 := h4.mk m14 (by omega) (.inr (Nat.le_refl _))
  replace h12 := h12.mk m14 (by omega) (.inr (Nat.le_refl _))
  replace h21 := h21.mk m14 (by omega) (.inr (Nat.le_refl _))
  replace o2 := o2.mk m14 (by omega) (.inr (.inr (Nat.le_refl _)))
  replace o10 := o10.mk m14 (by omega) (.inr (.inr (Nat.le_refl _)))
  replace o19 := o19.mk m14 (by omega) (.inr (.inr (Nat.le_refl _)))
  replace ow0 := ow0.mk m14 (by omega) (.inr (.inr (Nat.le_refl _)))
  replace og0 := og0.mk m14 (by omega) (.inr (.inr (Nat.le_refl _)))
  go_wp2_with fail
  have e38 : ∀ w', Mk0 wb14 w' → HasHop w' w7.heap.size (some ⟨b9, 0, none⟩) n1_2 z1_2 := fun w' m => h12.mk m (by omega) (.inr (Nat.le_refl _))
  have e39 : ∀ w', Mk0 wb14 w' → w7.heap.size ≤ w'.heap.size := fun w' m => Nat.le_trans (by omega) m.size
  have e40 : ∀ w', Mk0 wb14 w' → HasHop w' w.heap.size a1_2 n1_2 z1_2 := fun w' m => h1_2.mk (M14.trans m) (Nat.le_refl _) (.inr (Nat.le_refl _))
  have hN1_2 : n1_2 ≤ 1048576 := by omega
  go_region_held3 (fun w' => Mk0 wb14 w' ∧ w'.cell? ⟨w.heap.size, 0, none⟩ = some (.int .i64 a0_0) ∧ w'.cell? ⟨w.heap.size, 1, none⟩ = some (.int .i64 a0_1) ∧ w'.cell? ⟨w.heap.size, 2, none⟩ = some (.slice a0_2 n0_2 c0_2) ∧ w'.cell? ⟨w.heap.size + 1, 0, none⟩ = some (.int .i64 a1_0) ∧ w'.cell? ⟨w.heap.size + 1, 1, none⟩ = some (.int .i64 a1_1) ∧ w'.cell? ⟨w.heap.size + 1, 2, none⟩ = some (.slice a1_2 n1_2 c1_2) ∧ w'.cell? ⟨w.heap.size + 1 + 1, 0, none⟩ = some (.int .i64 a3_0) ∧ w'.cell? ⟨w.heap.size + 1 + 1, 1, none⟩ = some (.int .i64 a3_1) ∧ w'.cell? ⟨w.heap.size + 1 + 1, 2, none⟩ = some (.slice a3_2 n3_2 c3_2) ∧ w'.cell? ⟨Bw0, 0, none⟩ = some (.slice Aw0 Nw0 Cw0) ∧ w'.cell? ⟨w5.heap.size, 0, none⟩ = some (.int .i64 a0_0) ∧ w'.cell? ⟨w5.heap.size, 1, none⟩ = some (.int .i64 a0_1) ∧ w'.cell? ⟨w5.heap.size, 2, none⟩ = some (.slice (some ⟨b1, 0, none⟩) n0_2 n0_2) ∧ w'.cell? ⟨w7.heap.size, 0, none⟩ = some (.int .i64 a1_0) ∧ w'.cell? ⟨w7.heap.size, 1, none⟩ = some (.int .i64 a1_1) ∧ w'.cell? ⟨w7.heap.size, 2, none⟩ = some (.slice (some ⟨b9, 0, none⟩) n1_2 n1_2) ∧ w'.cell? ⟨w9.heap.size, 0, none⟩ = some (.int .i64 a3_0) ∧ w'.cell? ⟨w9.heap.size, 1, none⟩ = some (.int .i64 a3_1) ∧ w'.cell? ⟨w9.heap.size, 2, none⟩ = some (.slice (some ⟨b18, 0, none⟩) n3_2 n3_2) ∧ w'.cell? ⟨w11.heap.size, 0, none⟩ = some (.slice A11 Nw0 C11)) (first | exact ⟨Mk.drew1 _, k0_0, k0_1, k0_2, k1_0, k1_1, k1_2, k3_0, k3_1, k3_2, xw0_0, xx0_0, xx0_1, xx0_2, xx1_0, xx1_1, xx1_2, xx3_0, xx3_1, xx3_2, xg0_0⟩ | (obtain ⟨s0, s1, s2, s3, s4, s5, s6, s7, s8, s9, s10, s11, s12, s13, s14, s15, s16, s17, s18, s19, s20⟩ := ‹Mk0 wb14 _ ∧ _›; exact ⟨s0.trans mm, mm.cellAt s1, mm.cellAt s2, mm.cellAt s3, mm.cellAt s4, mm.cellAt s5, mm.cellAt s6, mm.cellAt s7, mm.cellAt s8, mm.cellAt s9, mm.cellAt s10, mm.cellAt s11, mm.cellAt s12, mm.cellAt s13, mm.cellAt s14, mm.cellAt s15, mm.cellAt s16, mm.cellAt s17, mm.cellAt s18, mm.cellAt s19, mm.cellAt s20⟩)) (first | (go_at_call 11; refine (toSegmentC _ _ _ _ _ _ w.heap.size _ (e40 _ (‹Mk0 wb14 _ ∧ _›).1) (M14.trans (‹Mk0 wb14 _ ∧ _›).1).size hN1_2).mono ?_; rintro e wa ⟨bb0, rfl, oo0, gg0, mm⟩) | (go_at_call 13; refine (eqSegmentC _ _ _ _ _ _ _ _ _ _ _ (e38 _ (‹Mk0 wb14 _ ∧ _›).1) (oo0.has.mono (Nat.le_refl _)) (e39 _ (‹Mk0 wb14 _ ∧ _›).1) (Nat.le_refl _) hN1_2).mono ?_; rintro e wb15 ⟨rfl, mm⟩))
  obtain ⟨m15, k0_0, k0_1, k0_2, k1_0, k1_1, k1_2, k3_0, k3_1, k3_2, xw0_0, xx0_0, xx0_1, xx0_2, xx1_0, xx1_1, xx1_2, xx3_0, xx3_1, xx3_2, xg0_0⟩ := ‹Mk0 wb14 _ ∧ _›
  clear e38 e39 e40 hN1_2
  refine ‹∀ (a : Act) (w : World), _ → _› _ _ ?_
  have M15 := M14.trans m15
  have z15 := m15.size
  replace h4 := h4.mk m15 (by omega) (.inr (Nat.le_refl _))
  replace h12 := h12.mk m15 (by omega) (.inr (Nat.le_refl _))
  replace h21 := h21.mk m15 (by omega) (.inr (Nat.le_refl _))
  replace o2 := o2.mk m15 (by omega) (.inr (.inr (Nat.le_refl _)))
  replace o10 := o10.mk m15 (by omega) (.inr (.inr (Nat.le_refl _)))
  replace o19 := o19.mk m15 (by omega) (.inr (.inr (Nat.le_refl _)))
  replace ow0 := ow0.mk m15 (by omega) (.inr (.inr (Nat.le_refl _)))
  replace og0 := og0.mk m15 (by omega) (.inr (.inr (Nat.le_refl _)))
  go_wp2_with fail
  have e41 : ∀ w', Mk0 wb15 w' → HasHop w' w9.heap.size (some ⟨b18, 0, none⟩) n3_2 z3_2 := fun w' m => h21.mk m (by omega) (.inr (Nat.le_refl _))
  have e42 : ∀ w', Mk0 wb15 w' → w9.heap.size ≤ w'.heap.size := fun w' m => Nat.le_trans (by omega) m.size
  have e43 : ∀ w', Mk0 wb15 w' → HasHop w' w.heap.size a3_2 n3_2 z3_2 := fun w' m => h3_2.mk (M15.trans m) (Nat.le_refl _) (.inr (Nat.le_refl _))
  have hN3_2 : n3_2 ≤ 1048576 := by omega
  go_region_held3 (fun w' => Mk0 wb15 w' ∧ w'.cell? ⟨w.heap.size, 0, none⟩ = some (.int .i64 a0_0) ∧ w'.cell? ⟨w.heap.size, 1, none⟩ = some (.int .i64 a0_1) ∧ w'.cell? ⟨w.heap.size, 2, none⟩ = some (.slice a0_2 n0_2 c0_2) ∧ w'.cell? ⟨w.heap.size + 1, 0, none⟩ = some (.int .i64 a1_0) ∧ w'.cell? ⟨w.heap.size + 1, 1, none⟩ = some (.int .i64 a1_1) ∧ w'.cell? ⟨w.heap.size + 1, 2, none⟩ = some (.slice a1_2 n1_2 c1_2) ∧ w'.cell? ⟨w.heap.size + 1 + 1, 0, none⟩ = some (.int .i64 a3_0) ∧ w'.cell? ⟨w.heap.size + 1 + 1, 1, none⟩ = some (.int .i64 a3_1) ∧ w'.cell? ⟨w.heap.size + 1 + 1, 2, none⟩ = some (.slice a3_2 n3_2 c3_2) ∧ w'.cell? ⟨Bw0, 0, none⟩ = some (.slice Aw0 Nw0 Cw0) ∧ w'.cell? ⟨w5.heap.size, 0, none⟩ = some (.int .i64 a0_0) ∧ w'.cell? ⟨w5.heap.size, 1, none⟩ = some (.int .i64 a0_1) ∧ w'.cell? ⟨w5.heap.size, 2, none⟩ = some (.slice (some ⟨b1, 0, none⟩) n0_2 n0_2) ∧ w'.cell? ⟨w7.heap.size, 0, none⟩ = some (.int .i64 a1_0) ∧ w'.cell? ⟨w7.heap.size, 1, none⟩ = some (.int .i64 a1_1) ∧ w'.cell? ⟨w7.heap.size, 2, none⟩ = some (.slice (some ⟨b9, 0, none⟩) n1_2 n1_2) ∧ w'.cell? ⟨w9.heap.size, 0, none⟩ = some (.int .i64 a3_0) ∧ w'.cell? ⟨w9.heap.size, 1, none⟩ = some (.int .i64 a3_1) ∧ w'.cell? ⟨w9.heap.size, 2, none⟩ = some (.slice (some ⟨b18, 0, none⟩) n3_2 n3_2) ∧ w'.cell? ⟨w11.heap.size, 0, none⟩ = some (.slice A11 Nw0 C11)) (first | exact ⟨Mk.drew1 _, k0_0, k0_1, k0_2, k1_0, k1_1, k1_2, k3_0, k3_1, k3_2, xw0_0, xx0_0, xx0_1, xx0_2, xx1_0, xx1_1, xx1_2, xx3_0, xx3_1, xx3_2, xg0_0⟩ | (obtain ⟨s0, s1, s2, s3, s4, s5, s6, s7, s8, s9, s10, s11, s12, s13, s14, s15, s16, s17, s18, s19, s20⟩ := ‹Mk0 wb15 _ ∧ _›; exact ⟨s0.trans mm, mm.cellAt s1, mm.cellAt s2, mm.cellAt s3, mm.cellAt s4, mm.cellAt s5, mm.cellAt s6, mm.cellAt s7, mm.cellAt s8, mm.cellAt s9, mm.cellAt s10, mm.cellAt s11, mm.cellAt s12, mm.cellAt s13, mm.cellAt s14, mm.cellAt s15, mm.cellAt s16, mm.cellAt s17, mm.cellAt s18, mm.cellAt s19, mm.cellAt s20⟩)) (first | (go_at_call 11; refine (toSegmentC _ _ _ _ _ _ w.heap.size _ (e43 _ (‹Mk0 wb15 _ ∧ _›).1) (M15.trans (‹Mk0 wb15 _ ∧ _›).1).size hN3_2).mono ?_; rintro e wa ⟨bb0, rfl, oo0, gg0, mm⟩) | (go_at_call 13; refine (eqSegmentC _ _ _ _ _ _ _ _ _ _ _ (e41 _ (‹Mk0 wb15 _ ∧ _›).1) (oo0.has.mono (Nat.le_refl _)) (e42 _ (‹Mk0 wb15 _ ∧ _›).1) (Nat.le_refl _) hN3_2).mono ?_; rintro e wb16 ⟨rfl, mm⟩))
  obtain ⟨m16, k0_0, k0_1, k0_2, k1_0, k1_1, k1_2, k3_0, k3_1, k3_2, xw0_0, xx0_0, xx0_1, xx0_2, xx1_0, xx1_1, xx1_2, xx3_0, xx3_1, xx3_2, xg0_0⟩ := ‹Mk0 wb15 _ ∧ _›
  clear e41 e42 e43 hN3_2
  refine ‹∀ (a : Act) (w : World), _ → _› _ _ ?_
  have M16 := M15.trans m16
  have z16 := m16.size
  replace h4 := h4.mk m16 (by omega) (.inr (Nat.le_refl _))
  replace h12 := h12.mk m16 (by omega) (.inr (Nat.le_refl _))
  replace h21 := h21.mk m16 (by omega) (.inr (Nat.le_refl _))
  replace o2 := o2.mk m16 (by omega) (.inr (.inr (Nat.le_refl _)))
  replace o10 := o10.mk m16 (by omega) (.inr (.inr (Nat.le_refl _)))
  replace o19 := o19.mk m16 (by omega) (.inr (.inr (Nat.le_refl _)))
  replace ow0 := ow0.mk m16 (by omega) (.inr (.inr (Nat.le_refl _)))
  replace og0 := og0.mk m16 (by omega) (.inr (.inr (Nat.le_refl _)))
  go_wp2_with fail
  clear h4
  clear h12
  clear h21
  refine (markSegmentC _ _ _ _ _ _ w4.heap.size w5.heap.size _ _ o2 (by omega) (by omega) (by omega) (by omega) (by omega)).mono ?_
  rintro e w17 ⟨l17, hl17, rfl, m17⟩
  have M17 := M16.andR m17 (.inl (by omega))
  have z17 := m17.size
  replace k0_0 := m17.cellAtR k0_0 (by omega)
  replace k0_1 := m17.cellAtR k0_1 (by omega)
  replace k0_2 := m17.cellAtR k0_2 (by omega)
  replace k1_0 := m17.cellAtR k1_0 (by omega)
  replace k1_1 := m17.cellAtR k1_1 (by omega)
  replace k1_2 := m17.cellAtR k1_2 (by omega)
  replace k3_0 := m17.cellAtR k3_0 (by omega)
  replace k3_1 := m17.cellAtR k3_1 (by omega)
  replace k3_2 := m17.cellAtR k3_2 (by omega)
  replace xw0_0 := m17.cellAtR xw0_0 (by omega)
  replace xx0_0 := m17.cellAtR xx0_0 (by omega)
  replace xx0_1 := m17.cellAtR xx0_1 (by omega)
  replace xx0_2 := m17.cellAtR xx0_2 (by omega)
  replace xx1_0 := m17.cellAtR xx1_0 (by omega)
  replace xx1_1 := m17.cellAtR xx1_1 (by omega)
  replace xx1_2 := m17.cellAtR xx1_2 (by omega)
  replace xx3_0 := m17.cellAtR xx3_0 (by omega)
  replace xx3_1 := m17.cellAtR xx3_1 (by omega)
  replace xx3_2 := m17.cellAtR xx3_2 (by omega)
  replace xg0_0 := m17.cellAtR xg0_0 (by omega)
  replace o10 := o10.mk m17 (by omega) (by omega)
  replace o19 := o19.mk m17 (by omega) (by omega)
  replace ow0 := ow0.mk m17 (by omega) (by omega)
  replace og0 := og0.mk m17 (by omega) (by omega)
  go_wp2_with fail
  refine (markSegmentC _ _ _ _ _ _ w6.heap.size w7.heap.size _ _ o10 (by omega) (by omega) (by omega) (by omega) (by omega)).mono ?_
  rintro e w18 ⟨l18, hl18, rfl, m18⟩
  have M18 := M17.andR m18 (.inl (by omega))
  have z18 := m18.size
  replace k0_0 := m18.cellAtR k0_0 (by omega)
  replace k0_1 := m18.cellAtR k0_1 (by omega)
  replace k0_2 := m18.cellAtR k0_2 (by omega)
  replace k1_0 := m18.cellAtR k1_0 (by omega)
  replace k1_1 := m18.cellAtR k1_1 (by omega)
  replace k1_2 := m18.cellAtR k1_2 (by omega)
  replace k3_0 := m18.cellAtR k3_0 (by omega)
  replace k3_1 := m18.cellAtR k3_1 (by omega)
  replace k3_2 := m18.cellAtR k3_2 (by omega)
  replace xw0_0 := m18.cellAtR xw0_0 (by omega)
  replace xx0_0 := m18.cellAtR xx0_0 (by omega)
  replace xx0_1 := m18.cellAtR xx0_1 (by omega)
  replace xx0_2 := m18.cellAtR xx0_2 (by omega)
  replace xx1_0 := m18.cellAtR xx1_0 (by omega)
  replace xx1_1 := m18.cellAtR xx1_1 (by omega)
  replace xx1_2 := m18.cellAtR xx1_2 (by omega)
  replace xx3_0 := m18.cellAtR xx3_0 (by omega)
  replace xx3_1 := m18.cellAtR xx3_1 (by omega)
  replace xx3_2 := m18.cellAtR xx3_2 (by omega)
  replace xg0_0 := m18.cellAtR xg0_0 (by omega)
  replace o19 := o19.mk m18 (by omega) (by omega)
  replace ow0 := ow0.mk m18 (by omega) (by omega)
  replace og0 := og0.mk m18 (by omega) (by omega)
  go_wp2_with fail
  refine (markSegmentC _ _ _ _ _ _ w8.heap.size w9.heap.size _ _ o19 (by omega) (by omega) (by omega) (by omega) (by omega)).mono ?_
  rintro e w19 ⟨l19, hl19, rfl, m19⟩
  have M19 := M18.andR m19 (.inl (by omega))
  have z19 := m19.size
  replace k0_0 := m19.cellAtR k0_0 (by omega)
  replace k0_1 := m19.cellAtR k0_1 (by omega)
  replace k0_2 := m19.cellAtR k0_2 (by omega)
  replace k1_0 := m19.cellAtR k1_0 (by omega)
  replace k1_1 := m19.cellAtR k1_1 (by omega)
  replace k1_2 := m19.cellAtR k1_2 (by omega)
  replace k3_0 := m19.cellAtR k3_0 (by omega)
  replace k3_1 := m19.cellAtR k3_1 (by omega)
  replace k3_2 := m19.cellAtR k3_2 (by omega)
  replace xw0_0 := m19.cellAtR xw0_0 (by omega)
  replace xx0_0 := m19.cellAtR xx0_0 (by omega)
  replace xx0_1 := m19.cellAtR xx0_1 (by omega)
  replace xx0_2 := m19.cellAtR xx0_2 (by omega)
  replace xx1_0 := m19.cellAtR xx1_0 (by omega)
  replace xx1_1 := m19.cellAtR xx1_1 (by omega)
  replace xx1_2 := m19.cellAtR xx1_2 (by omega)
  replace xx3_0 := m19.cellAtR xx3_0 (by omega)
  replace xx3_1 := m19.cellAtR xx3_1 (by omega)
  replace xx3_2 := m19.cellAtR xx3_2 (by omega)
  replace xg0_0 := m19.cellAtR xg0_0 (by omega)
  replace ow0 := ow0.mk m19 (by omega) (by omega)
  replace og0 := og0.mk m19 (by omega) (by omega)
  go_wp2_with fail
  refine (eqPathCB _ _ _ _ _ _ _ _ _ og0.hasPathPart ow0.hasPathPart (by omega) (by omega) hbw0).mono ?_
  rintro e w20 ⟨rfl, m20⟩
  have M20 := M19.trans m20
  have z20 := m20.size
  replace k0_0 := m20.cellAt k0_0
  replace k0_1 := m20.cellAt k0_1
  replace k0_2 := m20.cellAt k0_2
  replace k1_0 := m20.cellAt k1_0
  replace k1_1 := m20.cellAt k1_1
  replace k1_2 := m20.cellAt k1_2
  replace k3_0 := m20.cellAt k3_0
  replace k3_1 := m20.cellAt k3_1
  replace k3_2 := m20.cellAt k3_2
  replace xw0_0 := m20.cellAt xw0_0
  replace xx0_0 := m20.cellAt xx0_0
  replace xx0_1 := m20.cellAt xx0_1
  replace xx0_2 := m20.cellAt xx0_2
  replace xx1_0 := m20.cellAt xx1_0
  replace xx1_1 := m20.cellAt xx1_1
  replace xx1_2 := m20.cellAt xx1_2
  replace xx3_0 := m20.cellAt xx3_0
  replace xx3_1 := m20.cellAt xx3_1
  replace xx3_2 := m20.cellAt xx3_2
  replace xg0_0 := m20.cellAt xg0_0
  replace ow0 := ow0.mk m20 (by omega) (.inr (.inr (Nat.le_refl _)))
  replace og0 := og0.mk m20 (by omega) (.inr (.inr (Nat.le_refl _)))
  go_wp2_with fail
  refine (markPathN _ _ _ w10.heap.size w11.heap.size _ _ _ og0 (by omega) (by omega) hbw0t (by omega) (by omega)).mono ?_
  rintro e w21 ⟨rfl, oo21, m21⟩
  replace og0 := oo21
  clear oo21
  have M21 := M20.andR m21 (.inl (by omega))
  have z21 := m21.size
  replace k0_0 := m21.cellAtR k0_0 (by omega)
  replace k0_1 := m21.cellAtR k0_1 (by omega)
  replace k0_2 := m21.cellAtR k0_2 (by omega)
  replace k1_0 := m21.cellAtR k1_0 (by omega)
  replace k1_1 := m21.cellAtR k1_1 (by omega)
  replace k1_2 := m21.cellAtR k1_2 (by omega)
  replace k3_0 := m21.cellAtR k3_0 (by omega)
  replace k3_1 := m21.cellAtR k3_1 (by omega)
  replace k3_2 := m21.cellAtR k3_2 (by omega)
  replace xw0_0 := m21.cellAtR xw0_0 (by omega)
  replace xx0_0 := m21.cellAtR xx0_0 (by omega)
  replace xx0_1 := m21.cellAtR xx0_1 (by omega)
  replace xx0_2 := m21.cellAtR xx0_2 (by omega)
  replace xx1_0 := m21.cellAtR xx1_0 (by omega)
  replace xx1_1 := m21.cellAtR xx1_1 (by omega)
  replace xx1_2 := m21.cellAtR xx1_2 (by omega)
  replace xx3_0 := m21.cellAtR xx3_0 (by omega)
  replace xx3_1 := m21.cellAtR xx3_1 (by omega)
  replace xx3_2 := m21.cellAtR xx3_2 (by omega)
  replace xg0_0 := m21.cellAtR xg0_0 (by omega)
  replace ow0 := ow0.mk m21 (by omega) (by omega)
  go_wp2_with fail
  refine (heldPathN _ _ _ _ _ (addIf (decide (0 < n3_2)) (addIf (decide (0 < n1_2)) (addIf (decide (0 < n0_2)) [] (mpEl a0_0 a0_1 z0_2 n0_2 1 0)) (mpEl a1_0 a1_1 z1_2 n1_2 (j3k a2) 0)) (mpEl a3_0 a3_1 z3_2 n3_2 4 0)) _ og0.hasPathPart (by omega) (by omega) hbw0t (by omega) (by omega)).mono ?_
  rintro e w22 ⟨rfl, m22⟩
  have M22 := M21.trans m22
  have z22 := m22.size
  replace k0_0 := m22.cellAt k0_0
  replace k0_1 := m22.cellAt k0_1
  replace k0_2 := m22.cellAt k0_2
  replace k1_0 := m22.cellAt k1_0
  replace k1_1 := m22.cellAt k1_1
  replace k1_2 := m22.cellAt k1_2
  replace k3_0 := m22.cellAt k3_0
  replace k3_1 := m22.cellAt k3_1
  replace k3_2 := m22.cellAt k3_2
  replace xw0_0 := m22.cellAt xw0_0
  replace xx0_0 := m22.cellAt xx0_0
  replace xx0_1 := m22.cellAt xx0_1
  replace xx0_2 := m22.cellAt xx0_2
  replace xx1_0 := m22.cellAt xx1_0
  replace xx1_1 := m22.cellAt xx1_1
  replace xx1_2 := m22.cellAt xx1_2
  replace xx3_0 := m22.cellAt xx3_0
  replace xx3_1 := m22.cellAt xx3_1
  replace xx3_2 := m22.cellAt xx3_2
  replace xg0_0 := m22.cellAt xg0_0
  replace ow0 := ow0.mk m22 (by omega) (.inr (.inr (Nat.le_refl _)))
  replace og0 := og0.mk m22 (by omega) (.inr (.inr (Nat.le_refl _)))
  go_wp2_with fail
  have yr23_0 : w.heap.size < w22.heap.size := by omega
  have yr23_1 : w.heap.size + 1 < w22.heap.size := by omega
  have yr23_2 : w.heap.size + 1 + 1 < w22.heap.size := by omega
  have yr23_3 : Bw0 < w22.heap.size := by omega
  have yr23_4 : w5.heap.size < w22.heap.size := by omega
  have yr23_5 : w7.heap.size < w22.heap.size := by omega
  have yr23_6 : w9.heap.size < w22.heap.size := by omega
  have yr23_7 : w11.heap.size < w22.heap.size := by omega
  have hN0_2 : n0_2 ≤ 1048576 := by omega
  have hN1_2 : n1_2 ≤ 1048576 := by omega
  have hN3_2 : n3_2 ≤ 1048576 := by omega
  refine wp_region_fg (fun (g : Bxs) w' => (Mk0 w22 w' ∧ w'.cell? ⟨w.heap.size, 0, none⟩ = some (.int .i64 a0_0) ∧ w'.cell? ⟨w.heap.size, 1, none⟩ = some (.int .i64 a0_1) ∧ w'.cell? ⟨w.heap.size, 2, none⟩ = some (.slice a0_2 n0_2 c0_2) ∧ w'.cell? ⟨w.heap.size + 1, 0, none⟩ = some (.int .i64 a1_0) ∧ w'.cell? ⟨w.heap.size + 1, 1, none⟩ = some (.int .i64 a1_1) ∧ w'.cell? ⟨w.heap.size + 1, 2, none⟩ = some (.slice a1_2 n1_2 c1_2) ∧ w'.cell? ⟨w.heap.size + 1 + 1, 0, none⟩ = some (.int .i64 a3_0) ∧ w'.cell? ⟨w.heap.size + 1 + 1, 1, none⟩ = some (.int .i64 a3_1) ∧ w'.cell? ⟨w.heap.size + 1 + 1, 2, none⟩ = some (.slice a3_2 n3_2 c3_2) ∧ w'.cell? ⟨Bw0, 0, none⟩ = some (.slice Aw0 Nw0 Cw0) ∧ w'.cell? ⟨w5.heap.size, 0, none⟩ = some (.int .i64 a0_0) ∧ w'.cell? ⟨w5.heap.size, 1, none⟩ = some (.int .i64 a0_1) ∧ w'.cell? ⟨w5.heap.size, 2, none⟩ = some (.slice (some ⟨b1, 0, none⟩) n0_2 n0_2) ∧ w'.cell? ⟨w7.heap.size, 0, none⟩ = some (.int .i64 a1_0) ∧ w'.cell? ⟨w7.heap.size, 1, none⟩ = some (.int .i64 a1_1) ∧ w'.cell? ⟨w7.heap.size, 2, none⟩ = some (.slice (some ⟨b9, 0, none⟩) n1_2 n1_2) ∧ w'.cell? ⟨w9.heap.size, 0, none⟩ = some (.int .i64 a3_0) ∧ w'.cell? ⟨w9.heap.size, 1, none⟩ = some (.int .i64 a3_1) ∧ w'.cell? ⟨w9.heap.size, 2, none⟩ = some (.slice (some ⟨b18, 0, none⟩) n3_2 n3_2) ∧ w'.cell? ⟨w11.heap.size, 0, none⟩ = some (.slice A11 Nw0 C11)) ∧ BxS w22.heap.size g w') (fgF [fun g v w => v = .agg #[.int .i64 a0_0, .int .i64 a0_1, .slice a0_2 n0_2 c0_2], fun g v w => ∃ b0_2, v = .agg #[.int .i64 a0_0, .int .i64 a0_1, .slice (some ⟨b0_2, 0, none⟩) n0_2 n0_2] ∧ HasHop w w.heap.size (some ⟨b0_2, 0, none⟩) n0_2 z0_2, fun g v w => v = .agg #[.int .i64 a1_0, .int .i64 a1_1, .slice a1_2 n1_2 c1_2], fun g v w => ∃ b1_2, v = .agg #[.int .i64 a1_0, .int .i64 a1_1, .slice (some ⟨b1_2, 0, none⟩) n1_2 n1_2] ∧ HasHop w w.heap.size (some ⟨b1_2, 0, none⟩) n1_2 z1_2, fun g v w => v = .bool a2, fun g v w => v = .agg #[.int .i64 a3_0, .int .i64 a3_1, .slice a3_2 n3_2 c3_2], fun g v w => ∃ b3_2, v = .agg #[.int .i64 a3_0, .int .i64 a3_1, .slice (some ⟨b3_2, 0, none⟩) n3_2 n3_2] ∧ HasHop w w.heap.size (some ⟨b3_2, 0, none⟩) n3_2 z3_2, fun g v w => ∃ A N C lo hi, v = .agg #[.slice A N C] ∧ ((A = none → C = 0) ∧ (N ≤ C ∧ C ≤ 9223372036854775807)) ∧ w22.heap.size ≤ lo ∧ lo ≤ hi ∧ hi ≤ w.heap.size ∧ OwnN WPathPart w lo hi A N (addIf (decide (0 < n3_2)) (addIf (decide (0 < n1_2)) (addIf (decide (0 < n0_2)) [] (mpEl a0_0 a0_1 z0_2 n0_2 1 0)) (mpEl a1_0 a1_1 z1_2 n1_2 (j3k a2) 0)) (mpEl a3_0 a3_1 z3_2 n3_2 4 0)) ∧ BxA g lo hi, fun g v w => BxZ g 8 [.slice none 0 0] v w]) BxX (fun _ _ => False) 10 9 (by kernel_rfl) (by kernel_rfl) (by decide) (by decide) (by kernel_rfl) (fun h => absurd h (by decide)) (fgM_mono ⟨fun g g' v w w' h x => h, fun g g' v w w' h x => (by obtain ⟨b0_2, h1, r0_2⟩ := h; exact ⟨_, h1, (r0_2.mk x.far (Nat.le_refl _) (.inr (Nat.le_refl _))).mono x.far.size⟩), fun g g' v w w' h x => h, fun g g' v w w' h x => (by obtain ⟨b1_2, h1, r1_2⟩ := h; exact ⟨_, h1, (r1_2.mk x.far (Nat.le_refl _) (.inr (Nat.le_refl _))).mono x.far.size⟩), fun g g' v w w' h x => h, fun g g' v w w' h x => h, fun g g' v w w' h x => (by obtain ⟨b3_2, h1, r3_2⟩ := h; exact ⟨_, h1, (r3_2.mk x.far (Nat.le_refl _) (.inr (Nat.le_refl _))).mono x.far.size⟩), fun g g' v w w' h x => (by obtain ⟨A, N, C, lo, hi, h1, h2, h3, h4, h5, h6, h7⟩ := h; exact ⟨A, N, C, lo, hi, h1, h2, h3, h4, Nat.le_trans h5 x.far.size, h6.mk x.far h5 (.inr (.inr (Nat.le_refl _))), h7.step x h5⟩), fun g g' v w w' h x => h.step x, trivial⟩) ⟨⟨Mk.drew1 _, k0_0, k0_1, k0_2, k1_0, k1_1, k1_2, k3_0, k3_1, k3_2, xw0_0, xx0_0, xx0_1, xx0_2, xx1_0, xx1_1, xx1_2, xx3_0, xx3_1, xx3_2, xg0_0⟩, BxS.none_ _ _⟩ ?_
  change WkG _ _ _ _ _ _ 10 9 9 0 _
  refine WkG.value (m := 8) (k := 0) (by decide) rfl rfl (of_decide_eq_true (by rfl)) rfl (fun g w hS hF => ?_) (fun v0 => ?_)
  · obtain ⟨⟨s0, s1, s2, s3, s4, s5, s6, s7, s8, s9, s10, s11, s12, s13, s14, s15, s16, s17, s18, s19, s20⟩, hB⟩ := hS
    exact ⟨.agg #[.int .i64 a0_0, .int .i64 a0_1, .slice a0_2 n0_2 c0_2], w, g, (by go_simp; try with_reducible rfl), ⟨⟨s0, s1, s2, s3, s4, s5, s6, s7, s8, s9, s10, s11, s12, s13, s14, s15, s16, s17, s18, s19, s20⟩, hB⟩, BxX.same (Mk.refl _ _ _), rfl⟩
  try simp only [Act.put, List.getElem_toArray, List.getElem_cons_zero, List.setIfInBounds_toArray, List.set_cons_zero, List.set_cons_succ]
  refine WkG.call (m := 7) (k := 1) (by decide) rfl rfl (of_decide_eq_true (by rfl)) rfl (fun g w hS hF => ?_) (fun v1 => ?_)
  · obtain ⟨⟨s0, s1, s2, s3, s4, s5, s6, s7, s8, s9, s10, s11, s12, s13, s14, s15, s16, s17, s18, s19, s20⟩, hB⟩ := hS
    have f0 : v0 = .agg #[.int .i64 a0_0, .int .i64 a0_1, .slice a0_2 n0_2 c0_2] := hF 0 (by rfl)
    obtain rfl := f0
    refine ⟨_, _, (by go_simp; first | done | exact ⟨rfl, rfl⟩ | with_reducible rfl), ?_⟩
    refine (toSegmentC a0_0 a0_1 a0_2 n0_2 c0_2 z0_2 _ w (h0_2.mk (M22.trans s0) (Nat.le_refl _) (.inr (Nat.le_refl _))) (M22.trans s0).size hN0_2).mono ?_
    rintro e w' ⟨b0_2, rfl, o0, g0, mm⟩
    exact ⟨_, g, rfl, ⟨⟨s0.trans mm, mm.cellAt s1, mm.cellAt s2, mm.cellAt s3, mm.cellAt s4, mm.cellAt s5, mm.cellAt s6, mm.cellAt s7, mm.cellAt s8, mm.cellAt s9, mm.cellAt s10, mm.cellAt s11, mm.cellAt s12, mm.cellAt s13, mm.cellAt s14, mm.cellAt s15, mm.cellAt s16, mm.cellAt s17, mm.cellAt s18, mm.cellAt s19, mm.cellAt s20⟩, hB.mk0 mm⟩, BxX.same mm, ⟨_, rfl, o0.has.mono (Nat.le_refl _)⟩⟩
  try simp only [Act.put, List.getElem_toArray, List.getElem_cons_succ, List.getElem_cons_zero, List.setIfInBounds_toArray, List.set_cons_zero, List.set_cons_succ]
  refine WkG.value (m := 6) (k := 2) (by decide) rfl rfl (of_decide_eq_true (by rfl)) rfl (fun g w hS hF => ?_) (fun v2 => ?_)
  · obtain ⟨⟨s0, s1, s2, s3, s4, s5, s6, s7, s8, s9, s10, s11, s12, s13, s14, s15, s16, s17, s18, s19, s20⟩, hB⟩ := hS
    exact ⟨.agg #[.int .i64 a1_0, .int .i64 a1_1, .slice a1_2 n1_2 c1_2], w, g, (by go_simp; try with_reducible rfl), ⟨⟨s0, s1, s2, s3, s4, s5, s6, s7, s8, s9, s10, s11, s12, s13, s14, s15, s16, s17, s18, s19, s20⟩, hB⟩, BxX.same (Mk.refl _ _ _), rfl⟩
  try simp only [Act.put, List.getElem_toArray, List.getElem_cons_succ, List.getElem_cons_zero, List.setIfInBounds_toArray, List.set_cons_zero, List.set_cons_succ]
  refine WkG.call (m := 5) (k := 3) (by decide) rfl rfl (of_decide_eq_true (by rfl)) rfl (fun g w hS hF => ?_) (fun v3 => ?_)
  · obtain ⟨⟨s0, s1, s2, s3, s4, s5, s6, s7, s8, s9, s10, s11, s12, s13, s14, s15, s16, s17, s18, s19, s20⟩, hB⟩ := hS
    have f2 : v2 = .agg #[.int .i64 a1_0, .int .i64 a1_1, .slice a1_2 n1_2 c1_2] := hF 2 (by rfl)
    obtain rfl := f2
    refine ⟨_, _, (by go_simp; first | done | exact ⟨rfl, rfl⟩ | with_reducible rfl), ?_⟩
    refine (toSegmentC a1_0 a1_1 a1_2 n1_2 c1_2 z1_2 _ w (h1_2.mk (M22.trans s0) (Nat.le_refl _) (.inr (Nat.le_refl _))) (M22.trans s0).size hN1_2).mono ?_
    rintro e w' ⟨b1_2, rfl, o0, g0, mm⟩
    exact ⟨_, g, rfl, ⟨⟨s0.trans mm, mm.cellAt s1, mm.cellAt s2, mm.cellAt s3, mm.cellAt s4, mm.cellAt s5, mm.cellAt s6, mm.cellAt s7, mm.cellAt s8, mm.cellAt s9, mm.cellAt s10, mm.cellAt s11, mm.cellAt s12, mm.cellAt s13, mm.cellAt s14, mm.cellAt s15, mm.cellAt s16, mm.cellAt s17, mm.cellAt s18, mm.cellAt s19, mm.cellAt s20⟩, hB.mk0 mm⟩, BxX.same mm, ⟨_, rfl, o0.has.mono (Nat.le_refl _)⟩⟩
  try simp only [Act.put, List.getElem_toArray, List.getElem_cons_succ, List.getElem_cons_zero, List.setIfInBounds_toArray, List.set_cons_zero, List.set_cons_succ]
  refine WkG.value (m := 4) (k := 4) (by decide) rfl rfl (of_decide_eq_true (by rfl)) rfl (fun g w hS hF => ?_) (fun v4 => ?_)
  · obtain ⟨⟨s0, s1, s2, s3, s4, s5, s6, s7, s8, s9, s10, s11, s12, s13, s14, s15, s16, s17, s18, s19, s20⟩, hB⟩ := hS
    exact ⟨.bool a2, w, g, (by go_simp; try with_reducible rfl), ⟨⟨s0, s1, s2, s3, s4, s5, s6, s7, s8, s9, s10, s11, s12, s13, s14, s15, s16, s17, s18, s19, s20⟩, hB⟩, BxX.same (Mk.refl _ _ _), rfl⟩
  try simp only [Act.put, List.getElem_toArray, List.getElem_cons_succ, List.getElem_cons_zero, List.setIfInBounds_toArray, List.set_cons_zero, List.set_cons_succ]
  refine WkG.value (m := 3) (k := 5) (by decide) rfl rfl (of_decide_eq_true (by rfl)) rfl (fun g w hS hF => ?_) (fun v5 => ?_)
  · obtain ⟨⟨s0, s1, s2, s3, s4, s5, s6, s7, s8, s9, s10, s11, s12, s13, s14, s15, s16, s17, s18, s19, s20⟩, hB⟩ := hS
    exact ⟨.agg #[.int .i64 a3_0, .int .i64 a3_1, .slice a3_2 n3_2 c3_2], w, g, (by go_simp; try with_reducible rfl), ⟨⟨s0, s1, s2, s3, s4, s5, s6, s7, s8, s9, s10, s11, s12, s13, s14, s15, s16, s17, s18, s19, s20⟩, hB⟩, BxX.same (Mk.refl _ _ _), rfl⟩
  try simp only [Act.put, List.getElem_toArray, List.getElem_cons_succ, List.getElem_cons_zero, List.setIfInBounds_toArray, List.set_cons_zero, List.set_cons_succ]
  refine WkG.call (m := 2) (k := 6) (by decide) rfl rfl (of_decide_eq_true (by rfl)) rfl (fun g w hS hF => ?_) (fun v6 => ?_)
  · obtain ⟨⟨s0, s1, s2, s3, s4, s5, s6, s7, s8, s9, s10, s11, s12, s13, s14, s15, s16, s17, s18, s19, s20⟩, hB⟩ := hS
    have f5 : v5 = .agg #[.int .i64 a3_0, .int .i64 a3_1, .slice a3_2 n3_2 c3_2] := hF 5 (by rfl)
    obtain rfl := f5
    refine ⟨_, _, (by go_simp; first | done | exact ⟨rfl, rfl⟩ | with_reducible rfl), ?_⟩
    refine (toSegmentC a3_0 a3_1 a3_2 n3_2 c3_2 z3_2 _ w (h3_2.mk (M22.trans s0) (Nat.le_refl _) (.inr (Nat.le_refl _))) (M22.trans s0).size hN3_2).mono ?_
    rintro e w' ⟨b3_2, rfl, o0, g0, mm⟩
    exact ⟨_, g, rfl, ⟨⟨s0.trans mm, mm.cellAt s1, mm.cellAt s2, mm.cellAt s3, mm.cellAt s4, mm.cellAt s5, mm.cellAt s6, mm.cellAt s7, mm.cellAt s8, mm.cellAt s9, mm.cellAt s10, mm.cellAt s11, mm.cellAt s12, mm.cellAt s13, mm.cellAt s14, mm.cellAt s15, mm.cellAt s16, mm.cellAt s17, mm.cellAt s18, mm.cellAt s19, mm.cellAt s20⟩, hB.mk0 mm⟩, BxX.same mm, ⟨_, rfl, o0.has.mono (Nat.le_refl _)⟩⟩
  try simp only [Act.put, List.getElem_toArray, List.getElem_cons_succ, List.getElem_cons_zero, List.setIfInBounds_toArray, List.set_cons_zero, List.set_cons_succ]
  refine WkG.call (m := 1) (k := 7) (by decide) rfl rfl (of_decide_eq_true (by rfl)) rfl (fun g w hS hF => ?_) (fun v7 => ?_)
  · obtain ⟨⟨s0, s1, s2, s3, s4, s5, s6, s7, s8, s9, s10, s11, s12, s13, s14, s15, s16, s17, s18, s19, s20⟩, hB⟩ := hS
    have f1 : ∃ b0_2, v1 = .agg #[.int .i64 a0_0, .int .i64 a0_1, .slice (some ⟨b0_2, 0, none⟩) n0_2 n0_2] ∧ HasHop w w.heap.size (some ⟨b0_2, 0, none⟩) n0_2 z0_2 := hF 1 (by rfl)
    obtain ⟨b0_2, rfl, r0_2⟩ := f1
    have f3 : ∃ b1_2, v3 = .agg #[.int .i64 a1_0, .int .i64 a1_1, .slice (some ⟨b1_2, 0, none⟩) n1_2 n1_2] ∧ HasHop w w.heap.size (some ⟨b1_2, 0, none⟩) n1_2 z1_2 := hF 3 (by rfl)
    obtain ⟨b1_2, rfl, r1_2⟩ := f3
    have f4 : v4 = .bool a2 := hF 4 (by rfl)
    obtain rfl := f4
    have f6 : ∃ b3_2, v6 = .agg #[.int .i64 a3_0, .int .i64 a3_1, .slice (some ⟨b3_2, 0, none⟩) n3_2 n3_2] ∧ HasHop w w.heap.size (some ⟨b3_2, 0, none⟩) n3_2 z3_2 := hF 6 (by rfl)
    obtain ⟨b3_2, rfl, r3_2⟩ := f6
    refine ⟨_, _, (by go_simp; first | done | exact ⟨rfl, rfl⟩ | with_reducible rfl), ?_⟩
    refine (implJ3 a0_0 a0_1 _ n0_2 _ _ z0_2 a1_0 a1_1 _ n1_2 _ _ z1_2 a3_0 a3_1 _ n3_2 _ _ z3_2 a2 w r0_2 (Nat.le_refl _) hN0_2 (fun h => by cases h) (Nat.le_refl _) r1_2 (Nat.le_refl _) hN1_2 (fun h => by cases h) (Nat.le_refl _) r3_2 (Nat.le_refl _) hN3_2 (fun h => by cases h) (Nat.le_refl _)).mono ?_
    rintro e w' ⟨A, N, C, rfl, hc, ow, mm⟩
    exact ⟨_, g, rfl, ⟨⟨s0.trans mm, mm.cellAt s1, mm.cellAt s2, mm.cellAt s3, mm.cellAt s4, mm.cellAt s5, mm.cellAt s6, mm.cellAt s7, mm.cellAt s8, mm.cellAt s9, mm.cellAt s10, mm.cellAt s11, mm.cellAt s12, mm.cellAt s13, mm.cellAt s14, mm.cellAt s15, mm.cellAt s16, mm.cellAt s17, mm.cellAt s18, mm.cellAt s19, mm.cellAt s20⟩, hB.mk0 mm⟩, BxX.same mm, ⟨A, N, C, w.heap.size, w'.heap.size, rfl, hc, s0.size, mm.size, Nat.le_refl _, ow, BxA.of hB⟩⟩
  try simp only [Act.put, List.getElem_toArray, List.getElem_cons_succ, List.getElem_cons_zero, List.setIfInBounds_toArray, List.set_cons_zero, List.set_cons_succ]
  refine WkG.value (m := 0) (k := 8) (by decide) rfl rfl (of_decide_eq_true (by rfl)) rfl (fun g w hS hF => ?_) (fun v8 => ?_)
  · obtain ⟨⟨s0, s1, s2, s3, s4, s5, s6, s7, s8, s9, s10, s11, s12, s13, s14, s15, s16, s17, s18, s19, s20⟩, hB⟩ := hS
    have mm := Mk.alloc w (Obj.cells #[.slice none 0 0] 42)
    exact ⟨.pointer (some ⟨w.heap.size, 0, none⟩), (w.alloc (Obj.cells #[.slice none 0 0] 42)), bxP g 8 w.heap.size, (by go_simp; try with_reducible rfl), ⟨⟨s0.trans mm, mm.cellAt s1, mm.cellAt s2, mm.cellAt s3, mm.cellAt s4, mm.cellAt s5, mm.cellAt s6, mm.cellAt s7, mm.cellAt s8, mm.cellAt s9, mm.cellAt s10, mm.cellAt s11, mm.cellAt s12, mm.cellAt s13, mm.cellAt s14, mm.cellAt s15, mm.cellAt s16, mm.cellAt s17, mm.cellAt s18, mm.cellAt s19, mm.cellAt s20⟩, hB.put s0.size 8 (Obj.cells #[.slice none 0 0] 42)⟩, BxX.put 8 (Obj.cells #[.slice none 0 0] 42), BxZ.new g 8 [.slice none 0 0] 42 w⟩
  try simp only [Act.put, List.getElem_toArray, List.getElem_cons_succ, List.getElem_cons_zero, List.setIfInBounds_toArray, List.set_cons_zero, List.set_cons_succ]
  refine WkG.done fun gE wq23 hE hF => ?_
  clear k0_0 k0_1 k0_2 k1_0 k1_1 k1_2 k3_0 k3_1 k3_2 xw0_0 xx0_0 xx0_1 xx0_2 xx1_0 xx1_1 xx1_2 xx3_0 xx3_1 xx3_2 xg0_0
  obtain ⟨⟨m23, k0_0, k0_1, k0_2, k1_0, k1_1, k1_2, k3_0, k3_1, k3_2, xw0_0, xx0_0, xx0_1, xx0_2, xx1_0, xx1_1, xx1_2, xx3_0, xx3_1, xx3_2, xg0_0⟩, hBE⟩ := hE
  change wpAny _ _ _ _ 1 _ _ _
  have f7 : ∃ A N C lo hi, v7 = .agg #[.slice A N C] ∧ ((A = none → C = 0) ∧ (N ≤ C ∧ C ≤ 9223372036854775807)) ∧ w22.heap.size ≤ lo ∧ lo ≤ hi ∧ hi ≤ wq23.heap.size ∧ OwnN WPathPart wq23 lo hi A N (addIf (decide (0 < n3_2)) (addIf (decide (0 < n1_2)) (addIf (decide (0 < n0_2)) [] (mpEl a0_0 a0_1 z0_2 n0_2 1 0)) (mpEl a1_0 a1_1 z1_2 n1_2 (j3k a2) 0)) (mpEl a3_0 a3_1 z3_2 n3_2 4 0)) ∧ BxA gE lo hi := hF 7 (by decide)
  obtain ⟨Ah0, Nh0, Ch0, loh0, hih0, rfl, hch0, hlh0, hmh0, hhh0, oh0, hAh0⟩ := f7
  have f8 : BxZ gE 8 [.slice none 0 0] v8 wq23 := hF 8 (by decide)
  obtain ⟨Bh0, hgh0, rfl, hlth0, hzh0, hfh0⟩ := f8
  have hsh0 := hAh0 8 Bh0 hgh0
  have hbh00 := hBE.lo 8 Bh0 hgh0
  have xh0_0 := hzh0 0 _ rfl
  clear hF
  refine wpAny_ready (rs := [9]) (by kernel_rfl) (by simp) ?_
  refine (AllReady.cons rfl (fun K hK => ?_) AllReady.nil)
  go_simp
  refine hK _ _ ?_
  clear hK K
  try simp only [Act.put, List.getElem_toArray, List.getElem_cons_succ, List.getElem_cons_zero, List.setIfInBounds_toArray, List.set_cons_zero, List.set_cons_succ]
  have yn0 : Bh0 ≠ w.heap.size := by omega
  have yn1 : Bh0 ≠ w.heap.size + 1 := by omega
  have yn2 : Bh0 ≠ w.heap.size + 1 + 1 := by omega
  have yn3 : Bh0 ≠ Bw0 := by omega
  have yn4 : Bh0 ≠ w5.heap.size := by omega
  have yn5 : Bh0 ≠ w7.heap.size := by omega
  have yn6 : Bh0 ≠ w9.heap.size := by omega
  have yn7 : Bh0 ≠ w11.heap.size := by omega
  replace xh0_0 := World.cell?_setCell_same _ _ (.slice Ah0 Nh0 Ch0) xh0_0
  replace k0_0 := cell_set k0_0 ⟨Bh0, 0, none⟩ (.slice Ah0 Nh0 Ch0) (.inl yn0)
  replace k0_1 := cell_set k0_1 ⟨Bh0, 0, none⟩ (.slice Ah0 Nh0 Ch0) (.inl yn0)
  replace k0_2 := cell_set k0_2 ⟨Bh0, 0, none⟩ (.slice Ah0 Nh0 Ch0) (.inl yn0)
  replace k1_0 := cell_set k1_0 ⟨Bh0, 0, none⟩ (.slice Ah0 Nh0 Ch0) (.inl yn1)
  replace k1_1 := cell_set k1_1 ⟨Bh0, 0, none⟩ (.slice Ah0 Nh0 Ch0) (.inl yn1)
  replace k1_2 := cell_set k1_2 ⟨Bh0, 0, none⟩ (.slice Ah0 Nh0 Ch0) (.inl yn1)
  replace k3_0 := cell_set k3_0 ⟨Bh0, 0, none⟩ (.slice Ah0 Nh0 Ch0) (.inl yn2)
  replace k3_1 := cell_set k3_1 ⟨Bh0, 0, none⟩ (.slice Ah0 Nh0 Ch0) (.inl yn2)
  replace k3_2 := cell_set k3_2 ⟨Bh0, 0, none⟩ (.slice Ah0 Nh0 Ch0) (.inl yn2)
  replace xw0_0 := cell_set xw0_0 ⟨Bh0, 0, none⟩ (.slice Ah0 Nh0 Ch0) (.inl yn3)
  replace xx0_0 := cell_set xx0_0 ⟨Bh0, 0, none⟩ (.slice Ah0 Nh0 Ch0) (.inl yn4)
  replace xx0_1 := cell_set xx0_1 ⟨Bh0, 0, none⟩ (.slice Ah0 Nh0 Ch0) (.inl yn4)
  replace xx0_2 := cell_set xx0_2 ⟨Bh0, 0, none⟩ (.slice Ah0 Nh0 Ch0) (.inl yn4)
  replace xx1_0 := cell_set xx1_0 ⟨Bh0, 0, none⟩ (.slice Ah0 Nh0 Ch0) (.inl yn5)
  replace xx1_1 := cell_set xx1_1 ⟨Bh0, 0, none⟩ (.slice Ah0 Nh0 Ch0) (.inl yn5)
  replace xx1_2 := cell_set xx1_2 ⟨Bh0, 0, none⟩ (.slice Ah0 Nh0 Ch0) (.inl yn5)
  replace xx3_0 := cell_set xx3_0 ⟨Bh0, 0, none⟩ (.slice Ah0 Nh0 Ch0) (.inl yn6)
  replace xx3_1 := cell_set xx3_1 ⟨Bh0, 0, none⟩ (.slice Ah0 Nh0 Ch0) (.inl yn6)
  replace xx3_2 := cell_set xx3_2 ⟨Bh0, 0, none⟩ (.slice Ah0 Nh0 Ch0) (.inl yn6)
  replace xg0_0 := cell_set xg0_0 ⟨Bh0, 0, none⟩ (.slice Ah0 Nh0 Ch0) (.inl yn7)
  replace oh0 := oh0.set ⟨Bh0, 0, none⟩ (.slice Ah0 Nh0 Ch0) hsh0
  replace m23 := m23.put ⟨Bh0, 0, none⟩ (.slice Ah0 Nh0 Ch0) hbh00
  have zq : (wq23.setCell ⟨Bh0, 0, none⟩ (.slice Ah0 Nh0 Ch0)).heap.size = wq23.heap.size := by simp only [World.size_set]
  clear hzh0 hfh0 hAh0 hgh0 hBE
  generalize (wq23.setCell ⟨Bh0, 0, none⟩ (.slice Ah0 Nh0 Ch0)) = w23 at *
  rw [← zq] at hhh0 hlth0
  clear zq
  clear yn0 yn1 yn2 yn3 yn4 yn5 yn6 yn7
  refine wpAny_doneN (by kernel_rfl) ?_
  refine ‹∀ (a : Act) (w : World), _ → _› _ _ ?_
  clear hN0_2 hN1_2 hN3_2 yr23_0 yr23_1 yr23_2 yr23_3 yr23_4 yr23_5 yr23_6 yr23_7
  obtain rfl : Nw0 = Nh0 := ow0.1.symm.trans oh0.1
  replace ow0 := ow0.mk m23 (by omega) (.inr (.inr (Nat.le_refl _)))
  replace og0 := og0.mk m23 (by omega) (.inr (.inr (Nat.le_refl _)))
  have M23 := M22.trans m23
  have z23 := m23.size
  go_wp2_with fail
  refine (eqPathCB _ _ _ _ _ _ _ _ _ oh0.hasPathPart ow0.hasPathPart (by omega) (by omega) hbw0).mono ?_
  rintro e w24 ⟨rfl, m24⟩
  have M24 := M23.trans m24
  have z24 := m24.size
  replace k0_0 := m24.cellAt k0_0
  replace k0_1 := m24.cellAt k0_1
  replace k0_2 := m24.cellAt k0_2
  replace k1_0 := m24.cellAt k1_0
  replace k1_1 := m24.cellAt k1_1
  replace k1_2 := m24.cellAt k1_2
  replace k3_0 := m24.cellAt k3_0
  replace k3_1 := m24.cellAt k3_1
  replace k3_2 := m24.cellAt k3_2
  replace xw0_0 := m24.cellAt xw0_0
  replace xx0_0 := m24.cellAt xx0_0
  replace xx0_1 := m24.cellAt xx0_1
  replace xx0_2 := m24.cellAt xx0_2
  replace xx1_0 := m24.cellAt xx1_0
  replace xx1_1 := m24.cellAt xx1_1
  replace xx1_2 := m24.cellAt xx1_2
  replace xx3_0 := m24.cellAt xx3_0
  replace xx3_1 := m24.cellAt xx3_1
  replace xx3_2 := m24.cellAt xx3_2
  replace xg0_0 := m24.cellAt xg0_0
  replace xh0_0 := m24.cellAt xh0_0
  replace ow0 := ow0.mk m24 (by omega) (.inr (.inr (Nat.le_refl _)))
  replace og0 := og0.mk m24 (by omega) (.inr (.inr (Nat.le_refl _)))
  replace oh0 := oh0.mk m24 (by omega) (.inr (.inr (Nat.le_refl _)))
  go_wp2_with fail
  refine (heldPathN _ _ _ _ _ (addIf (decide (0 < n3_2)) (addIf (decide (0 < n1_2)) (addIf (decide (0 < n0_2)) [] (mpEl a0_0 a0_1 z0_2 n0_2 1 0)) (mpEl a1_0 a1_1 z1_2 n1_2 (j3k a2) 0)) (mpEl a3_0 a3_1 z3_2 n3_2 4 0)) _ og0.hasPathPart (by omega) (by omega) hbw0t (by omega) (by omega)).mono ?_
  rintro e w25 ⟨rfl, m25⟩
  have M25 := M24.trans m25
  have z25 := m25.size
  replace k0_0 := m25.cellAt k0_0
  replace k0_1 := m25.cellAt k0_1
  replace k0_2 := m25.cellAt k0_2
  replace k1_0 := m25.cellAt k1_0
  replace k1_1 := m25.cellAt k1_1
  replace k1_2 := m25.cellAt k1_2
  replace k3_0 := m25.cellAt k3_0
  replace k3_1 := m25.cellAt k3_1
  replace k3_2 := m25.cellAt k3_2
  replace xw0_0 := m25.cellAt xw0_0
  replace xx0_0 := m25.cellAt xx0_0
  replace xx0_1 := m25.cellAt xx0_1
  replace xx0_2 := m25.cellAt xx0_2
  replace xx1_0 := m25.cellAt xx1_0
  replace xx1_1 := m25.cellAt xx1_1
  replace xx1_2 := m25.cellAt xx1_2
  replace xx3_0 := m25.cellAt xx3_0
  replace xx3_1 := m25.cellAt xx3_1
  replace xx3_2 := m25.cellAt xx3_2
  replace xg0_0 := m25.cellAt xg0_0
  replace xh0_0 := m25.cellAt xh0_0
  replace ow0 := ow0.mk m25 (by omega) (.inr (.inr (Nat.le_refl _)))
  replace og0 := og0.mk m25 (by omega) (.inr (.inr (Nat.le_refl _)))
  replace oh0 := oh0.mk m25 (by omega) (.inr (.inr (Nat.le_refl _)))
  go_wp2_with fail
  go_ret
  exact ⟨rfl, M25.below0⟩

set_option maxRecDepth 100000 in
theorem lifted (os : Os) (started : os.Started) (H : Type) (enc : TypeId × Value → H) :
    ReturnsInHanded {} Try.checked os 6 .any (Rows.fnExactJoinThreeSpec.pre6 enc Try.prog Try.f6 Rows.fnExactJoinThreeRow.domain false) (Rows.fnExactJoinThreeSpec.post enc Try.prog Try.f6 false true false false) := by
  refine returnsInHanded_of_change (C := Try.checked) own started (by kernel_rfl) Try.func6
    (ChangeSpec.witness6 (enc := enc) (C := Try.checked) false ⟨#[], #[.agg #[.int .i64 0, .int .i64 0, .slice none 0 0], .agg #[.int .i64 0, .int .i64 0, .slice none 0 0], .bool false, .agg #[.int .i64 0, .int .i64 0, .slice none 0 0]], []⟩ 8 (by kernel_rfl) (by kernel_rfl) (by kernel_rfl) (by kernel_rfl)) ?_
  intro W base args ds gs before hval0 hW hcnd _
  have hval : ∀ (j : Nat) t v, Try.f6.params[j]? = some t → args[j]? = some v → Value.okWide Try.prog W .any base t v := hval0
  have hW' := hW
  obtain ⟨p, q, hA0, hV, rfl, hfz, hnd⟩ := hW
  have hA : DataW.TrodAll enc Try.prog W 0 (fun _ => true) true Try.f6.params.toList args.toList ds p := hA0
  rw [Try.params6] at hA hval
  obtain ⟨v0, vs0, d0, ds0, p0, q0, hargs, rfl, rfl, h0, r0⟩ := trodAll_cons hA
  obtain ⟨v1, vs1, d1, ds1, p1, q1, rfl, rfl, rfl, h1, r1⟩ := trodAll_cons r0
  obtain ⟨v2, vs2, d2, ds2, p2, q2, rfl, rfl, rfl, h2, r2⟩ := trodAll_cons r1
  obtain ⟨v3, vs3, d3, ds3, p3, q3, rfl, rfl, rfl, h3, r3⟩ := trodAll_cons r2
  obtain ⟨rfl, rfl, rfl⟩ := trodAll_nil r3
  obtain rfl : args = #[v0, v1, v2, v3] := by cases args; simp_all
  obtain ⟨rfl, rfl⟩ := trodVars_none hV
  have k0 := h0
  have lt0 : ∀ x ∈ p0, x.block < W.heap.size := by obtain ⟨m, hm⟩ := k0; exact DataW.trod_lt m _ _ _ hm
  obtain ⟨cs0, rfl, hcs0, hf0⟩ := open_agg Try.underlying24 (by kernel_rfl) (by kernel_rfl) (hval 0 24 v0 rfl rfl) h0
  obtain ⟨_, _, _, e0_0, q0_0⟩ := hf0 0 _ rfl
  obtain ⟨a0_0, rfl, w0_0⟩ := one_int Try.underlying3 q0_0
  obtain ⟨_, _, _, e0_1, q0_1⟩ := hf0 1 _ rfl
  obtain ⟨a0_1, rfl, w0_1⟩ := one_int Try.underlying3 q0_1
  obtain ⟨_, _, _, e0_2, q0_2⟩ := hf0 2 _ rfl
  obtain ⟨a0_2, n0_2, c0_2, z0_2, rfl, m0_2, h0_2, f0_2⟩ := openHopS q0_2
  obtain rfl : cs0 = #[.int .i64 a0_0, .int .i64 a0_1, .slice a0_2 n0_2 c0_2] := arr_of [.int .i64 a0_0, .int .i64 a0_1, .slice a0_2 n0_2 c0_2] hcs0 (fun j hj => by match j, hj with | 0, _ => exact e0_0 | 1, _ => exact e0_1 | 2, _ => exact e0_2)
  have k1 := h1
  have lt1 : ∀ x ∈ p1, x.block < W.heap.size := by obtain ⟨m, hm⟩ := k1; exact DataW.trod_lt m _ _ _ hm
  obtain ⟨cs1, rfl, hcs1, hf1⟩ := open_agg Try.underlying24 (by kernel_rfl) (by kernel_rfl) (hval 1 24 v1 rfl rfl) h1
  obtain ⟨_, _, _, e1_0, q1_0⟩ := hf1 0 _ rfl
  obtain ⟨a1_0, rfl, w1_0⟩ := one_int Try.underlying3 q1_0
  obtain ⟨_, _, _, e1_1, q1_1⟩ := hf1 1 _ rfl
  obtain ⟨a1_1, rfl, w1_1⟩ := one_int Try.underlying3 q1_1
  obtain ⟨_, _, _, e1_2, q1_2⟩ := hf1 2 _ rfl
  obtain ⟨a1_2, n1_2, c1_2, z1_2, rfl, m1_2, h1_2, f1_2⟩ := openHopS q1_2
  obtain rfl : cs1 = #[.int .i64 a1_0, .int .i64 a1_1, .slice a1_2 n1_2 c1_2] := arr_of [.int .i64 a1_0, .int .i64 a1_1, .slice a1_2 n1_2 c1_2] hcs1 (fun j hj => by match j, hj with | 0, _ => exact e1_0 | 1, _ => exact e1_1 | 2, _ => exact e1_2)
  obtain ⟨a2, rfl, rfl, rfl⟩ := open_bool Try.underlying4 (hval 2 4 v2 rfl rfl) h2
  have k3 := h3
  have lt3 : ∀ x ∈ p3, x.block < W.heap.size := by obtain ⟨m, hm⟩ := k3; exact DataW.trod_lt m _ _ _ hm
  obtain ⟨cs3, rfl, hcs3, hf3⟩ := open_agg Try.underlying24 (by kernel_rfl) (by kernel_rfl) (hval 3 24 v3 rfl rfl) h3
  obtain ⟨_, _, _, e3_0, q3_0⟩ := hf3 0 _ rfl
  obtain ⟨a3_0, rfl, w3_0⟩ := one_int Try.underlying3 q3_0
  obtain ⟨_, _, _, e3_1, q3_1⟩ := hf3 1 _ rfl
  obtain ⟨a3_1, rfl, w3_1⟩ := one_int Try.underlying3 q3_1
  obtain ⟨_, _, _, e3_2, q3_2⟩ := hf3 2 _ rfl
  obtain ⟨a3_2, n3_2, c3_2, z3_2, rfl, m3_2, h3_2, f3_2⟩ := openHopS q3_2
  obtain rfl : cs3 = #[.int .i64 a3_0, .int .i64 a3_1, .slice a3_2 n3_2 c3_2] := arr_of [.int .i64 a3_0, .int .i64 a3_1, .slice a3_2 n3_2 c3_2] hcs3 (fun j hj => by match j, hj with | 0, _ => exact e3_0 | 1, _ => exact e3_1 | 2, _ => exact e3_2)
  clear hA0 hval0
  refine (walk a0_0 a0_1 a0_2 n0_2 c0_2 z0_2 a1_0 a1_1 a1_2 n1_2 c1_2 z1_2 a2 a3_0 a3_1 a3_2 n3_2 c3_2 z3_2 W w0_0 w0_1 h0_2 m0_2 f0_2 w1_0 w1_1 h1_2 m1_2 f1_2 w3_0 w3_1 h3_2 m3_2 f3_2).mono fun e W' ⟨he, bel⟩ => ?_
  subst he
  exact ⟨_, rfl, _, _, _, [], _, [], hW', trodAll_mk1 (shut_bool Try.underlying4 _), (trodAll_cons_mk (Below.trod laidOut (by kernel_rfl) (of_decide_eq_true (by kernel_rfl)) k0 bel lt0) (trodAll_cons_mk (Below.trod laidOut (by kernel_rfl) (of_decide_eq_true (by kernel_rfl)) k1 bel lt1) (trodAll_cons_mk (shut_bool Try.underlying4 _) (trodAll_cons_mk (Below.trod laidOut (by kernel_rfl) (of_decide_eq_true (by kernel_rfl)) k3 bel lt3) trodAll_mk0)))), rfl, bel.frame _, fun h => by cases h⟩

theorem over : Rows.fnExactJoinThreeRow.holds Try.pinned (OpenSpec.ofChange Rows.fnExactJoinThreeSpec) :=
  OpenClaim.holds_of_wide 6 Try.f6 rfl rfl rfl rfl rfl rfl rfl ⟨rfl, rfl, rfl, rfl, rfl⟩ rfl rfl rfl rfl rfl (by kernel_rfl) Try.func6 (by kernel_rfl)
    (of_decide_eq_true (by kernel_rfl)) (by unfold Func.isWrapper; first | (rw [if_pos (by decide +kernel)]; kernel_rfl) | (rw [if_neg (by decide +kernel)]; exact ⟨rfl, rfl⟩))
    (fun os started H enc _ => lifted os started H enc)

theorem proved : Rows.FnExactJoinThreeSaid := over
#print axioms proved
end Go.Proofs.Ytbkbkpnpllemfaa.fnExactJoinThree
