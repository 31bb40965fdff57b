
/- For every inbox and every packet, the law on HandleData returns true; no further condition. -/
import Derived.Test.YtdlafigjkefllaaRows
import Derived.WalkKit
import Derived.ProofKit
import Derived.OpenShut
import Derived.ShutString
import Derived.ChangeOld
import Derived.Below
import Derived.Test.YtdlafigjkefllaaOMessage
import Derived.Test.YtdlafigjkefllaaOPathPart
import Derived.Test.YtdlafigjkefllaaOpenN
import Derived.Test.YtdlafigjkefllaaStruct
import Derived.Deep.RegionHeld3
import Derived.Test.YtdlafigjkefllaaHdM
import Derived.Test.YtdlafigjkefllaaKIM
import Derived.Test.YtdlafigjkefllaaKPacket
import Derived.Test.YtdlafigjkefllaaFg
namespace Go.Proofs.Ytdlafigjkefllaa.fnExactHandleData
open Go.ChangeShapes Go.WideShapes Go.ChangeAt Go.RowKit
open Go.ChangeMaps (open_string shut_string)
set_option linter.unusedVariables false

theorem own : ownKnob Try.prog.godebug = none := by kernel_rfl
theorem laidOut : laidOutB Try.prog = true := by kernel_rfl

theorem moreL_sz {b : Bool} {zs : List TMessage} {n n9 N : Nat} {x : TMessage} (h : szMessage zs n + n9 ≤ 1048576) (hl : zs.length = n) (hx : x.data.length = n9) (hN : (moreL b zs x).length = N) : szMessage (moreL b zs x) N ≤ 1048577 ∧ sumTo totMessage (moreL b zs x) N ≤ 2097152 := by
  have ht : ∀ ts : List TMessage, ∀ k, sumTo totMessage ts k = sumTo seMessage ts k := by
    intro ts k
    induction k with
    | zero => rfl
    | succ k ih => rw [sumTo, sumTo, ih]; unfold totMessage seMessage; omega
  rw [ht]
  have hz : szMessage zs n = n + sumTo seMessage zs n := rfl
  have e1 : szMessage (moreL b zs x) N = N + sumTo seMessage (moreL b zs x) N := rfl
  cases b
  · have e : N = n := hN.symm.trans hl
    subst e
    show szMessage zs N ≤ _ ∧ sumTo seMessage zs N ≤ _
    omega
  · have e : N = n + 1 := hN.symm.trans (by show (zs ++ [x]).length = _; rw [List.length_append, hl]; rfl)
    subst e
    have h1 : sumTo seMessage (zs ++ [x]) n = sumTo seMessage zs n := by
      have : ∀ k, k ≤ n → sumTo seMessage (zs ++ [x]) k = sumTo seMessage zs k := by
        intro k
        induction k with
        | zero => intro _; rfl
        | succ k ih =>
          intro hk
          rw [sumTo, sumTo, ih (by omega), List.getD_eq_getElem?_getD, List.getElem?_append_left (by omega), ← List.getD_eq_getElem?_getD]
      exact this n (Nat.le_refl _)
    have h2 : (zs ++ [x]).getD n default = x := by rw [List.getD_eq_getElem?_getD, List.getElem?_append_right (by omega), hl, Nat.sub_self]; rfl
    have h3 : sumTo seMessage (zs ++ [x]) (n + 1) = sumTo seMessage zs n + n9 := by rw [sumTo, h1, h2]; unfold seMessage; omega
    show szMessage (zs ++ [x]) (n + 1) ≤ _ ∧ sumTo seMessage (zs ++ [x]) (n + 1) ≤ _
    have e2 : szMessage (zs ++ [x]) (n + 1) = (n + 1) + sumTo seMessage (zs ++ [x]) (n + 1) := rfl
    omega

set_option maxRecDepth 100000 in
set_option maxHeartbeats 4000000 in
theorem walk (a0_0 : Int) (a0_1 : Int) (a0_2 : Int) (a0_3 : Option Addr) (n0_3 c0_3 : Nat) (z0_3 : List TMessage) (a1_0 : Int) (a1_1 : Int) (a1_2 : Int) (a1_3 : Option Addr) (n1_3 c1_3 : Nat) (z1_3 : List TPathPart) (a1_4 : Int) (a1_5 : Int) (a1_6 : Int) (a1_7 : Int) (a1_8 : Int) (a1_9 : Option Addr) (n1_9 c1_9 : Nat) (z1_9 : List TByte) (w : World) (w0_0 : (Lit.int .i64 a0_0).wf = true) (w0_1 : (Lit.int .i64 a0_1).wf = true) (w0_2 : (Lit.int .i64 a0_2).wf = true) (h0_3 : HasMessage w w.heap.size a0_3 n0_3 z0_3) (m0_3 : n0_3 ≤ 9223372036854775807) (f0_3 : ∀ x ∈ z0_3, TMessage.fits x) (w1_0 : (Lit.int .i64 a1_0).wf = true) (w1_1 : (Lit.int .i64 a1_1).wf = true) (w1_2 : (Lit.int .i64 a1_2).wf = true) (h1_3 : HasPathPart w w.heap.size a1_3 n1_3 z1_3) (m1_3 : n1_3 ≤ 9223372036854775807) (f1_3 : ∀ x ∈ z1_3, TPathPart.fits x) (w1_4 : (Lit.int .i64 a1_4).wf = true) (w1_5 : (Lit.int .i64 a1_5).wf = true) (w1_6 : (Lit.int .i64 a1_6).wf = true) (w1_7 : (Lit.int .i64 a1_7).wf = true) (w1_8 : (Lit.int .i64 a1_8).wf = true) (h1_9 : HasByte w w.heap.size a1_9 n1_9 z1_9) (m1_9 : n1_9 ≤ 9223372036854775807) (f1_9 : ∀ x ∈ z1_9, TByte.fits x) :
    Calls Try.prog 6 #[.agg #[.int .i64 a0_0, .int .i64 a0_1, .int .i64 a0_2, .slice a0_3 n0_3 c0_3], .agg #[.int .i64 a1_0, .int .i64 a1_1, .int .i64 a1_2, .slice a1_3 n1_3 c1_3, .int .i64 a1_4, .int .i64 a1_5, .int .i64 a1_6, .int .i64 a1_7, .int .i64 a1_8, .slice a1_9 n1_9 c1_9]] w fun e w' => e = .returned (.bool true) ∧ Below w.heap.size w w' := by
  by_cases hbig0 : (1048576 : Int) < ((szMessage z0_3 n0_3 : Nat) : Int)
  · go_enter Try.func6, Try.ntmps6
    go_wp2_with fail
    have M0 : Mk0 w ((w.alloc (Obj.cells #[Value.int .i64 a0_0, Value.int .i64 a0_1, Value.int .i64 a0_2, Value.slice a0_3 n0_3 c0_3] 48)).alloc (Obj.cells #[Value.int .i64 a1_0, Value.int .i64 a1_1, Value.int .i64 a1_2, Value.slice a1_3 n1_3 c1_3, Value.int .i64 a1_4, Value.int .i64 a1_5, Value.int .i64 a1_6, Value.int .i64 a1_7, Value.int .i64 a1_8, Value.slice a1_9 n1_9 c1_9] 54)) := ((Mk.alloc w _).new _)
    have k0_0 : ((w.alloc (Obj.cells #[Value.int .i64 a0_0, Value.int .i64 a0_1, Value.int .i64 a0_2, Value.slice a0_3 n0_3 c0_3] 48)).alloc (Obj.cells #[Value.int .i64 a1_0, Value.int .i64 a1_1, Value.int .i64 a1_2, Value.slice a1_3 n1_3 c1_3, Value.int .i64 a1_4, Value.int .i64 a1_5, Value.int .i64 a1_6, Value.int .i64 a1_7, Value.int .i64 a1_8, Value.slice a1_9 n1_9 c1_9] 54)).cell? ⟨w.heap.size, 0, none⟩ = some (.int .i64 a0_0) := by simp [go_sem]
    have k0_1 : ((w.alloc (Obj.cells #[Value.int .i64 a0_0, Value.int .i64 a0_1, Value.int .i64 a0_2, Value.slice a0_3 n0_3 c0_3] 48)).alloc (Obj.cells #[Value.int .i64 a1_0, Value.int .i64 a1_1, Value.int .i64 a1_2, Value.slice a1_3 n1_3 c1_3, Value.int .i64 a1_4, Value.int .i64 a1_5, Value.int .i64 a1_6, Value.int .i64 a1_7, Value.int .i64 a1_8, Value.slice a1_9 n1_9 c1_9] 54)).cell? ⟨w.heap.size, 1, none⟩ = some (.int .i64 a0_1) := by simp [go_sem]
    have k0_2 : ((w.alloc (Obj.cells #[Value.int .i64 a0_0, Value.int .i64 a0_1, Value.int .i64 a0_2, Value.slice a0_3 n0_3 c0_3] 48)).alloc (Obj.cells #[Value.int .i64 a1_0, Value.int .i64 a1_1, Value.int .i64 a1_2, Value.slice a1_3 n1_3 c1_3, Value.int .i64 a1_4, Value.int .i64 a1_5, Value.int .i64 a1_6, Value.int .i64 a1_7, Value.int .i64 a1_8, Value.slice a1_9 n1_9 c1_9] 54)).cell? ⟨w.heap.size, 2, none⟩ = some (.int .i64 a0_2) := by simp [go_sem]
    have k0_3 : ((w.alloc (Obj.cells #[Value.int .i64 a0_0, Value.int .i64 a0_1, Value.int .i64 a0_2, Value.slice a0_3 n0_3 c0_3] 48)).alloc (Obj.cells #[Value.int .i64 a1_0, Value.int .i64 a1_1, Value.int .i64 a1_2, Value.slice a1_3 n1_3 c1_3, Value.int .i64 a1_4, Value.int .i64 a1_5, Value.int .i64 a1_6, Value.int .i64 a1_7, Value.int .i64 a1_8, Value.slice a1_9 n1_9 c1_9] 54)).cell? ⟨w.heap.size, 3, none⟩ = some (.slice a0_3 n0_3 c0_3) := by simp [go_sem]
    have k1_0 : ((w.alloc (Obj.cells #[Value.int .i64 a0_0, Value.int .i64 a0_1, Value.int .i64 a0_2, Value.slice a0_3 n0_3 c0_3] 48)).alloc (Obj.cells #[Value.int .i64 a1_0, Value.int .i64 a1_1, Value.int .i64 a1_2, Value.slice a1_3 n1_3 c1_3, Value.int .i64 a1_4, Value.int .i64 a1_5, Value.int .i64 a1_6, Value.int .i64 a1_7, Value.int .i64 a1_8, Value.slice a1_9 n1_9 c1_9] 54)).cell? ⟨w.heap.size + 1, 0, none⟩ = some (.int .i64 a1_0) := by simp [go_sem]
    have k1_1 : ((w.alloc (Obj.cells #[Value.int .i64 a0_0, Value.int .i64 a0_1, Value.int .i64 a0_2, Value.slice a0_3 n0_3 c0_3] 48)).alloc (Obj.cells #[Value.int .i64 a1_0, Value.int .i64 a1_1, Value.int .i64 a1_2, Value.slice a1_3 n1_3 c1_3, Value.int .i64 a1_4, Value.int .i64 a1_5, Value.int .i64 a1_6, Value.int .i64 a1_7, Value.int .i64 a1_8, Value.slice a1_9 n1_9 c1_9] 54)).cell? ⟨w.heap.size + 1, 1, none⟩ = some (.int .i64 a1_1) := by simp [go_sem]
    have k1_2 : ((w.alloc (Obj.cells #[Value.int .i64 a0_0, Value.int .i64 a0_1, Value.int .i64 a0_2, Value.slice a0_3 n0_3 c0_3] 48)).alloc (Obj.cells #[Value.int .i64 a1_0, Value.int .i64 a1_1, Value.int .i64 a1_2, Value.slice a1_3 n1_3 c1_3, Value.int .i64 a1_4, Value.int .i64 a1_5, Value.int .i64 a1_6, Value.int .i64 a1_7, Value.int .i64 a1_8, Value.slice a1_9 n1_9 c1_9] 54)).cell? ⟨w.heap.size + 1, 2, none⟩ = some (.int .i64 a1_2) := by simp [go_sem]
    have k1_3 : ((w.alloc (Obj.cells #[Value.int .i64 a0_0, Value.int .i64 a0_1, Value.int .i64 a0_2, Value.slice a0_3 n0_3 c0_3] 48)).alloc (Obj.cells #[Value.int .i64 a1_0, Value.int .i64 a1_1, Value.int .i64 a1_2, Value.slice a1_3 n1_3 c1_3, Value.int .i64 a1_4, Value.int .i64 a1_5, Value.int .i64 a1_6, Value.int .i64 a1_7, Value.int .i64 a1_8, Value.slice a1_9 n1_9 c1_9] 54)).cell? ⟨w.heap.size + 1, 3, none⟩ = some (.slice a1_3 n1_3 c1_3) := by simp [go_sem]
    have k1_4 : ((w.alloc (Obj.cells #[Value.int .i64 a0_0, Value.int .i64 a0_1, Value.int .i64 a0_2, Value.slice a0_3 n0_3 c0_3] 48)).alloc (Obj.cells #[Value.int .i64 a1_0, Value.int .i64 a1_1, Value.int .i64 a1_2, Value.slice a1_3 n1_3 c1_3, Value.int .i64 a1_4, Value.int .i64 a1_5, Value.int .i64 a1_6, Value.int .i64 a1_7, Value.int .i64 a1_8, Value.slice a1_9 n1_9 c1_9] 54)).cell? ⟨w.heap.size + 1, 4, none⟩ = some (.int .i64 a1_4) := by simp [go_sem]
    have k1_5 : ((w.alloc (Obj.cells #[Value.int .i64 a0_0, Value.int .i64 a0_1, Value.int .i64 a0_2, Value.slice a0_3 n0_3 c0_3] 48)).alloc (Obj.cells #[Value.int .i64 a1_0, Value.int .i64 a1_1, Value.int .i64 a1_2, Value.slice a1_3 n1_3 c1_3, Value.int .i64 a1_4, Value.int .i64 a1_5, Value.int .i64 a1_6, Value.int .i64 a1_7, Value.int .i64 a1_8, Value.slice a1_9 n1_9 c1_9] 54)).cell? ⟨w.heap.size + 1, 5, none⟩ = some (.int .i64 a1_5) := by simp [go_sem]
    have k1_6 : ((w.alloc (Obj.cells #[Value.int .i64 a0_0, Value.int .i64 a0_1, Value.int .i64 a0_2, Value.slice a0_3 n0_3 c0_3] 48)).alloc (Obj.cells #[Value.int .i64 a1_0, Value.int .i64 a1_1, Value.int .i64 a1_2, Value.slice a1_3 n1_3 c1_3, Value.int .i64 a1_4, Value.int .i64 a1_5, Value.int .i64 a1_6, Value.int .i64 a1_7, Value.int .i64 a1_8, Value.slice a1_9 n1_9 c1_9] 54)).cell? ⟨w.heap.size + 1, 6, none⟩ = some (.int .i64 a1_6) := by simp [go_sem]
    have k1_7 : ((w.alloc (Obj.cells #[Value.int .i64 a0_0, Value.int .i64 a0_1, Value.int .i64 a0_2, Value.slice a0_3 n0_3 c0_3] 48)).alloc (Obj.cells #[Value.int .i64 a1_0, Value.int .i64 a1_1, Value.int .i64 a1_2, Value.slice a1_3 n1_3 c1_3, Value.int .i64 a1_4, Value.int .i64 a1_5, Value.int .i64 a1_6, Value.int .i64 a1_7, Value.int .i64 a1_8, Value.slice a1_9 n1_9 c1_9] 54)).cell? ⟨w.heap.size + 1, 7, none⟩ = some (.int .i64 a1_7) := by simp [go_sem]
    have k1_8 : ((w.alloc (Obj.cells #[Value.int .i64 a0_0, Value.int .i64 a0_1, Value.int .i64 a0_2, Value.slice a0_3 n0_3 c0_3] 48)).alloc (Obj.cells #[Value.int .i64 a1_0, Value.int .i64 a1_1, Value.int .i64 a1_2, Value.slice a1_3 n1_3 c1_3, Value.int .i64 a1_4, Value.int .i64 a1_5, Value.int .i64 a1_6, Value.int .i64 a1_7, Value.int .i64 a1_8, Value.slice a1_9 n1_9 c1_9] 54)).cell? ⟨w.heap.size + 1, 8, none⟩ = some (.int .i64 a1_8) := by simp [go_sem]
    have k1_9 : ((w.alloc (Obj.cells #[Value.int .i64 a0_0, Value.int .i64 a0_1, Value.int .i64 a0_2, Value.slice a0_3 n0_3 c0_3] 48)).alloc (Obj.cells #[Value.int .i64 a1_0, Value.int .i64 a1_1, Value.int .i64 a1_2, Value.slice a1_3 n1_3 c1_3, Value.int .i64 a1_4, Value.int .i64 a1_5, Value.int .i64 a1_6, Value.int .i64 a1_7, Value.int .i64 a1_8, Value.slice a1_9 n1_9 c1_9] 54)).cell? ⟨w.heap.size + 1, 9, none⟩ = some (.slice a1_9 n1_9 c1_9) := by simp [go_sem]
    refine (szInboxB _ _ _ _ _ _ z0_3 w.heap.size _ _ (h0_3.mk M0 (Nat.le_refl _) (.inr (Nat.le_refl _))) M0.size (by omega) (by omega) (by omega) m0_3).mono ?_
    rintro e w1 ⟨rfl, m1⟩
    go_wp2_with fail
    go_ret
    exact ⟨rfl, (M0.trans m1).below0⟩
  have hn0 : ((szMessage z0_3 n0_3 : Nat) : Int) ≤ (1048576 : Int) := by omega
  clear hbig0
  by_cases hbig1 : (1048576 - ((szMessage z0_3 n0_3 : Nat) : Int) : Int) < ((szPathPart z1_3 n1_3 : Nat) : Int) + (n1_9 : Int)
  · go_enter Try.func6, Try.ntmps6
    go_wp2_with fail
    have M0 : Mk0 w ((w.alloc (Obj.cells #[Value.int .i64 a0_0, Value.int .i64 a0_1, Value.int .i64 a0_2, Value.slice a0_3 n0_3 c0_3] 48)).alloc (Obj.cells #[Value.int .i64 a1_0, Value.int .i64 a1_1, Value.int .i64 a1_2, Value.slice a1_3 n1_3 c1_3, Value.int .i64 a1_4, Value.int .i64 a1_5, Value.int .i64 a1_6, Value.int .i64 a1_7, Value.int .i64 a1_8, Value.slice a1_9 n1_9 c1_9] 54)) := ((Mk.alloc w _).new _)
    have k0_0 : ((w.alloc (Obj.cells #[Value.int .i64 a0_0, Value.int .i64 a0_1, Value.int .i64 a0_2, Value.slice a0_3 n0_3 c0_3] 48)).alloc (Obj.cells #[Value.int .i64 a1_0, Value.int .i64 a1_1, Value.int .i64 a1_2, Value.slice a1_3 n1_3 c1_3, Value.int .i64 a1_4, Value.int .i64 a1_5, Value.int .i64 a1_6, Value.int .i64 a1_7, Value.int .i64 a1_8, Value.slice a1_9 n1_9 c1_9] 54)).cell? ⟨w.heap.size, 0, none⟩ = some (.int .i64 a0_0) := by simp [go_sem]
    have k0_1 : ((w.alloc (Obj.cells #[Value.int .i64 a0_0, Value.int .i64 a0_1, Value.int .i64 a0_2, Value.slice a0_3 n0_3 c0_3] 48)).alloc (Obj.cells #[Value.int .i64 a1_0, Value.int .i64 a1_1, Value.int .i64 a1_2, Value.slice a1_3 n1_3 c1_3, Value.int .i64 a1_4, Value.int .i64 a1_5, Value.int .i64 a1_6, Value.int .i64 a1_7, Value.int .i64 a1_8, Value.slice a1_9 n1_9 c1_9] 54)).cell? ⟨w.heap.size, 1, none⟩ = some (.int .i64 a0_1) := by simp [go_sem]
    have k0_2 : ((w.alloc (Obj.cells #[Value.int .i64 a0_0, Value.int .i64 a0_1, Value.int .i64 a0_2, Value.slice a0_3 n0_3 c0_3] 48)).alloc (Obj.cells #[Value.int .i64 a1_0, Value.int .i64 a1_1, Value.int .i64 a1_2, Value.slice a1_3 n1_3 c1_3, Value.int .i64 a1_4, Value.int .i64 a1_5, Value.int .i64 a1_6, Value.int .i64 a1_7, Value.int .i64 a1_8, Value.slice a1_9 n1_9 c1_9] 54)).cell? ⟨w.heap.size, 2, none⟩ = some (.int .i64 a0_2) := by simp [go_sem]
    have k0_3 : ((w.alloc (Obj.cells #[Value.int .i64 a0_0, Value.int .i64 a0_1, Value.int .i64 a0_2, Value.slice a0_3 n0_3 c0_3] 48)).alloc (Obj.cells #[Value.int .i64 a1_0, Value.int .i64 a1_1, Value.int .i64 a1_2, Value.slice a1_3 n1_3 c1_3, Value.int .i64 a1_4, Value.int .i64 a1_5, Value.int .i64 a1_6, Value.int .i64 a1_7, Value.int .i64 a1_8, Value.slice a1_9 n1_9 c1_9] 54)).cell? ⟨w.heap.size, 3, none⟩ = some (.slice a0_3 n0_3 c0_3) := by simp [go_sem]
    have k1_0 : ((w.alloc (Obj.cells #[Value.int .i64 a0_0, Value.int .i64 a0_1, Value.int .i64 a0_2, Value.slice a0_3 n0_3 c0_3] 48)).alloc (Obj.cells #[Value.int .i64 a1_0, Value.int .i64 a1_1, Value.int .i64 a1_2, Value.slice a1_3 n1_3 c1_3, Value.int .i64 a1_4, Value.int .i64 a1_5, Value.int .i64 a1_6, Value.int .i64 a1_7, Value.int .i64 a1_8, Value.slice a1_9 n1_9 c1_9] 54)).cell? ⟨w.heap.size + 1, 0, none⟩ = some (.int .i64 a1_0) := by simp [go_sem]
    have k1_1 : ((w.alloc (Obj.cells #[Value.int .i64 a0_0, Value.int .i64 a0_1, Value.int .i64 a0_2, Value.slice a0_3 n0_3 c0_3] 48)).alloc (Obj.cells #[Value.int .i64 a1_0, Value.int .i64 a1_1, Value.int .i64 a1_2, Value.slice a1_3 n1_3 c1_3, Value.int .i64 a1_4, Value.int .i64 a1_5, Value.int .i64 a1_6, Value.int .i64 a1_7, Value.int .i64 a1_8, Value.slice a1_9 n1_9 c1_9] 54)).cell? ⟨w.heap.size + 1, 1, none⟩ = some (.int .i64 a1_1) := by simp [go_sem]
    have k1_2 : ((w.alloc (Obj.cells #[Value.int .i64 a0_0, Value.int .i64 a0_1, Value.int .i64 a0_2, Value.slice a0_3 n0_3 c0_3] 48)).alloc (Obj.cells #[Value.int .i64 a1_0, Value.int .i64 a1_1, Value.int .i64 a1_2, Value.slice a1_3 n1_3 c1_3, Value.int .i64 a1_4, Value.int .i64 a1_5, Value.int .i64 a1_6, Value.int .i64 a1_7, Value.int .i64 a1_8, Value.slice a1_9 n1_9 c1_9] 54)).cell? ⟨w.heap.size + 1, 2, none⟩ = some (.int .i64 a1_2) := by simp [go_sem]
    have k1_3 : ((w.alloc (Obj.cells #[Value.int .i64 a0_0, Value.int .i64 a0_1, Value.int .i64 a0_2, Value.slice a0_3 n0_3 c0_3] 48)).alloc (Obj.cells #[Value.int .i64 a1_0, Value.int .i64 a1_1, Value.int .i64 a1_2, Value.slice a1_3 n1_3 c1_3, Value.int .i64 a1_4, Value.int .i64 a1_5, Value.int .i64 a1_6, Value.int .i64 a1_7, Value.int .i64 a1_8, Value.slice a1_9 n1_9 c1_9] 54)).cell? ⟨w.heap.size + 1, 3, none⟩ = some (.slice a1_3 n1_3 c1_3) := by simp [go_sem]
    have k1_4 : ((w.alloc (Obj.cells #[Value.int .i64 a0_0, Value.int .i64 a0_1, Value.int .i64 a0_2, Value.slice a0_3 n0_3 c0_3] 48)).alloc (Obj.cells #[Value.int .i64 a1_0, Value.int .i64 a1_1, Value.int .i64 a1_2, Value.slice a1_3 n1_3 c1_3, Value.int .i64 a1_4, Value.int .i64 a1_5, Value.int .i64 a1_6, Value.int .i64 a1_7, Value.int .i64 a1_8, Value.slice a1_9 n1_9 c1_9] 54)).cell? ⟨w.heap.size + 1, 4, none⟩ = some (.int .i64 a1_4) := by simp [go_sem]
    have k1_5 : ((w.alloc (Obj.cells #[Value.int .i64 a0_0, Value.int .i64 a0_1, Value.int .i64 a0_2, Value.slice a0_3 n0_3 c0_3] 48)).alloc (Obj.cells #[Value.int .i64 a1_0, Value.int .i64 a1_1, Value.int .i64 a1_2, Value.slice a1_3 n1_3 c1_3, Value.int .i64 a1_4, Value.int .i64 a1_5, Value.int .i64 a1_6, Value.int .i64 a1_7, Value.int .i64 a1_8, Value.slice a1_9 n1_9 c1_9] 54)).cell? ⟨w.heap.size + 1, 5, none⟩ = some (.int .i64 a1_5) := by simp [go_sem]
    have k1_6 : ((w.alloc (Obj.cells #[Value.int .i64 a0_0, Value.int .i64 a0_1, Value.int .i64 a0_2, Value.slice a0_3 n0_3 c0_3] 48)).alloc (Obj.cells #[Value.int .i64 a1_0, Value.int .i64 a1_1, Value.int .i64 a1_2, Value.slice a1_3 n1_3 c1_3, Value.int .i64 a1_4, Value.int .i64 a1_5, Value.int .i64 a1_6, Value.int .i64 a1_7, Value.int .i64 a1_8, Value.slice a1_9 n1_9 c1_9] 54)).cell? ⟨w.heap.size + 1, 6, none⟩ = some (.int .i64 a1_6) := by simp [go_sem]
    have k1_7 : ((w.alloc (Obj.cells #[Value.int .i64 a0_0, Value.int .i64 a0_1, Value.int .i64 a0_2, Value.slice a0_3 n0_3 c0_3] 48)).alloc (Obj.cells #[Value.int .i64 a1_0, Value.int .i64 a1_1, Value.int .i64 a1_2, Value.slice a1_3 n1_3 c1_3, Value.int .i64 a1_4, Value.int .i64 a1_5, Value.int .i64 a1_6, Value.int .i64 a1_7, Value.int .i64 a1_8, Value.slice a1_9 n1_9 c1_9] 54)).cell? ⟨w.heap.size + 1, 7, none⟩ = some (.int .i64 a1_7) := by simp [go_sem]
    have k1_8 : ((w.alloc (Obj.cells #[Value.int .i64 a0_0, Value.int .i64 a0_1, Value.int .i64 a0_2, Value.slice a0_3 n0_3 c0_3] 48)).alloc (Obj.cells #[Value.int .i64 a1_0, Value.int .i64 a1_1, Value.int .i64 a1_2, Value.slice a1_3 n1_3 c1_3, Value.int .i64 a1_4, Value.int .i64 a1_5, Value.int .i64 a1_6, Value.int .i64 a1_7, Value.int .i64 a1_8, Value.slice a1_9 n1_9 c1_9] 54)).cell? ⟨w.heap.size + 1, 8, none⟩ = some (.int .i64 a1_8) := by simp [go_sem]
    have k1_9 : ((w.alloc (Obj.cells #[Value.int .i64 a0_0, Value.int .i64 a0_1, Value.int .i64 a0_2, Value.slice a0_3 n0_3 c0_3] 48)).alloc (Obj.cells #[Value.int .i64 a1_0, Value.int .i64 a1_1, Value.int .i64 a1_2, Value.slice a1_3 n1_3 c1_3, Value.int .i64 a1_4, Value.int .i64 a1_5, Value.int .i64 a1_6, Value.int .i64 a1_7, Value.int .i64 a1_8, Value.slice a1_9 n1_9 c1_9] 54)).cell? ⟨w.heap.size + 1, 9, none⟩ = some (.slice a1_9 n1_9 c1_9) := by simp [go_sem]
    refine (szInboxC _ _ _ _ _ _ z0_3 w.heap.size _ _ (h0_3.mk M0 (Nat.le_refl _) (.inr (Nat.le_refl _))) M0.size (by omega) (by omega) (by omega)).mono ?_
    rintro e w1 ⟨l1, hl1, rfl, m1⟩
    have M1 := M0.trans m1
    replace k0_0 := m1.cellAt k0_0
    replace k0_1 := m1.cellAt k0_1
    replace k0_2 := m1.cellAt k0_2
    replace k0_3 := m1.cellAt k0_3
    replace k1_0 := m1.cellAt k1_0
    replace k1_1 := m1.cellAt k1_1
    replace k1_2 := m1.cellAt k1_2
    replace k1_3 := m1.cellAt k1_3
    replace k1_4 := m1.cellAt k1_4
    replace k1_5 := m1.cellAt k1_5
    replace k1_6 := m1.cellAt k1_6
    replace k1_7 := m1.cellAt k1_7
    replace k1_8 := m1.cellAt k1_8
    replace k1_9 := m1.cellAt k1_9
    have z1 := m1.size
    simp only [World.size_alloc] at z1
    go_wp2_with fail
    refine (szPacketB _ _ _ _ _ _ _ _ _ _ _ _ _ _ z1_3 w.heap.size _ _ (h1_3.mk M1 (Nat.le_refl _) (.inr (Nat.le_refl _))) M1.size (by omega) (by omega) (by omega) m1_3 m1_9).mono ?_
    rintro e w2 ⟨rfl, m2⟩
    go_wp2_with fail
    go_ret
    exact ⟨rfl, (M1.trans m2).below0⟩
  have hn1 : ((szPathPart z1_3 n1_3 : Nat) : Int) + (n1_9 : Int) ≤ (1048576 - ((szMessage z0_3 n0_3 : Nat) : Int) : Int) := by omega
  clear hbig1
  go_enter Try.func6, Try.ntmps6
  go_wp2_with fail
  have M0 : Mk0 w ((w.alloc (Obj.cells #[Value.int .i64 a0_0, Value.int .i64 a0_1, Value.int .i64 a0_2, Value.slice a0_3 n0_3 c0_3] 48)).alloc (Obj.cells #[Value.int .i64 a1_0, Value.int .i64 a1_1, Value.int .i64 a1_2, Value.slice a1_3 n1_3 c1_3, Value.int .i64 a1_4, Value.int .i64 a1_5, Value.int .i64 a1_6, Value.int .i64 a1_7, Value.int .i64 a1_8, Value.slice a1_9 n1_9 c1_9] 54)) := ((Mk.alloc w _).new _)
  have k0_0 : ((w.alloc (Obj.cells #[Value.int .i64 a0_0, Value.int .i64 a0_1, Value.int .i64 a0_2, Value.slice a0_3 n0_3 c0_3] 48)).alloc (Obj.cells #[Value.int .i64 a1_0, Value.int .i64 a1_1, Value.int .i64 a1_2, Value.slice a1_3 n1_3 c1_3, Value.int .i64 a1_4, Value.int .i64 a1_5, Value.int .i64 a1_6, Value.int .i64 a1_7, Value.int .i64 a1_8, Value.slice a1_9 n1_9 c1_9] 54)).cell? ⟨w.heap.size, 0, none⟩ = some (.int .i64 a0_0) := by simp [go_sem]
  have k0_1 : ((w.alloc (Obj.cells #[Value.int .i64 a0_0, Value.int .i64 a0_1, Value.int .i64 a0_2, Value.slice a0_3 n0_3 c0_3] 48)).alloc (Obj.cells #[Value.int .i64 a1_0, Value.int .i64 a1_1, Value.int .i64 a1_2, Value.slice a1_3 n1_3 c1_3, Value.int .i64 a1_4, Value.int .i64 a1_5, Value.int .i64 a1_6, Value.int .i64 a1_7, Value.int .i64 a1_8, Value.slice a1_9 n1_9 c1_9] 54)).cell? ⟨w.heap.size, 1, none⟩ = some (.int .i64 a0_1) := by simp [go_sem]
  have k0_2 : ((w.alloc (Obj.cells #[Value.int .i64 a0_0, Value.int .i64 a0_1, Value.int .i64 a0_2, Value.slice a0_3 n0_3 c0_3] 48)).alloc (Obj.cells #[Value.int .i64 a1_0, Value.int .i64 a1_1, Value.int .i64 a1_2, Value.slice a1_3 n1_3 c1_3, Value.int .i64 a1_4, Value.int .i64 a1_5, Value.int .i64 a1_6, Value.int .i64 a1_7, Value.int .i64 a1_8, Value.slice a1_9 n1_9 c1_9] 54)).cell? ⟨w.heap.size, 2, none⟩ = some (.int .i64 a0_2) := by simp [go_sem]
  have k0_3 : ((w.alloc (Obj.cells #[Value.int .i64 a0_0, Value.int .i64 a0_1, Value.int .i64 a0_2, Value.slice a0_3 n0_3 c0_3] 48)).alloc (Obj.cells #[Value.int .i64 a1_0, Value.int .i64 a1_1, Value.int .i64 a1_2, Value.slice a1_3 n1_3 c1_3, Value.int .i64 a1_4, Value.int .i64 a1_5, Value.int .i64 a1_6, Value.int .i64 a1_7, Value.int .i64 a1_8, Value.slice a1_9 n1_9 c1_9] 54)).cell? ⟨w.heap.size, 3, none⟩ = some (.slice a0_3 n0_3 c0_3) := by simp [go_sem]
  have k1_0 : ((w.alloc (Obj.cells #[Value.int .i64 a0_0, Value.int .i64 a0_1, Value.int .i64 a0_2, Value.slice a0_3 n0_3 c0_3] 48)).alloc (Obj.cells #[Value.int .i64 a1_0, Value.int .i64 a1_1, Value.int .i64 a1_2, Value.slice a1_3 n1_3 c1_3, Value.int .i64 a1_4, Value.int .i64 a1_5, Value.int .i64 a1_6, Value.int .i64 a1_7, Value.int .i64 a1_8, Value.slice a1_9 n1_9 c1_9] 54)).cell? ⟨w.heap.size + 1, 0, none⟩ = some (.int .i64 a1_0) := by simp [go_sem]
  have k1_1 : ((w.alloc (Obj.cells #[Value.int .i64 a0_0, Value.int .i64 a0_1, Value.int .i64 a0_2, Value.slice a0_3 n0_3 c0_3] 48)).alloc (Obj.cells #[Value.int .i64 a1_0, Value.int .i64 a1_1, Value.int .i64 a1_2, Value.slice a1_3 n1_3 c1_3, Value.int .i64 a1_4, Value.int .i64 a1_5, Value.int .i64 a1_6, Value.int .i64 a1_7, Value.int .i64 a1_8, Value.slice a1_9 n1_9 c1_9] 54)).cell? ⟨w.heap.size + 1, 1, none⟩ = some (.int .i64 a1_1) := by simp [go_sem]
  have k1_2 : ((w.alloc (Obj.cells #[Value.int .i64 a0_0, Value.int .i64 a0_1, Value.int .i64 a0_2, Value.slice a0_3 n0_3 c0_3] 48)).alloc (Obj.cells #[Value.int .i64 a1_0, Value.int .i64 a1_1, Value.int .i64 a1_2, Value.slice a1_3 n1_3 c1_3, Value.int .i64 a1_4, Value.int .i64 a1_5, Value.int .i64 a1_6, Value.int .i64 a1_7, Value.int .i64 a1_8, Value.slice a1_9 n1_9 c1_9] 54)).cell? ⟨w.heap.size + 1, 2, none⟩ = some (.int .i64 a1_2) := by simp [go_sem]
  have k1_3 : ((w.alloc (Obj.cells #[Value.int .i64 a0_0, Value.int .i64 a0_1, Value.int .i64 a0_2, Value.slice a0_3 n0_3 c0_3] 48)).alloc (Obj.cells #[Value.int .i64 a1_0, Value.int .i64 a1_1, Value.int .i64 a1_2, Value.slice a1_3 n1_3 c1_3, Value.int .i64 a1_4, Value.int .i64 a1_5, Value.int .i64 a1_6, Value.int .i64 a1_7, Value.int .i64 a1_8, Value.slice a1_9 n1_9 c1_9] 54)).cell? ⟨w.heap.size + 1, 3, none⟩ = some (.slice a1_3 n1_3 c1_3) := by simp [go_sem]
  have k1_4 : ((w.alloc (Obj.cells #[Value.int .i64 a0_0, Value.int .i64 a0_1, Value.int .i64 a0_2, Value.slice a0_3 n0_3 c0_3] 48)).alloc (Obj.cells #[Value.int .i64 a1_0, Value.int .i64 a1_1, Value.int .i64 a1_2, Value.slice a1_3 n1_3 c1_3, Value.int .i64 a1_4, Value.int .i64 a1_5, Value.int .i64 a1_6, Value.int .i64 a1_7, Value.int .i64 a1_8, Value.slice a1_9 n1_9 c1_9] 54)).cell? ⟨w.heap.size + 1, 4, none⟩ = some (.int .i64 a1_4) := by simp [go_sem]
  have k1_5 : ((w.alloc (Obj.cells #[Value.int .i64 a0_0, Value.int .i64 a0_1, Value.int .i64 a0_2, Value.slice a0_3 n0_3 c0_3] 48)).alloc (Obj.cells #[Value.int .i64 a1_0, Value.int .i64 a1_1, Value.int .i64 a1_2, Value.slice a1_3 n1_3 c1_3, Value.int .i64 a1_4, Value.int .i64 a1_5, Value.int .i64 a1_6, Value.int .i64 a1_7, Value.int .i64 a1_8, Value.slice a1_9 n1_9 c1_9] 54)).cell? ⟨w.heap.size + 1, 5, none⟩ = some (.int .i64 a1_5) := by simp [go_sem]
  have k1_6 : ((w.alloc (Obj.cells #[Value.int .i64 a0_0, Value.int .i64 a0_1, Value.int .i64 a0_2, Value.slice a0_3 n0_3 c0_3] 48)).alloc (Obj.cells #[Value.int .i64 a1_0, Value.int .i64 a1_1, Value.int .i64 a1_2, Value.slice a1_3 n1_3 c1_3, Value.int .i64 a1_4, Value.int .i64 a1_5, Value.int .i64 a1_6, Value.int .i64 a1_7, Value.int .i64 a1_8, Value.slice a1_9 n1_9 c1_9] 54)).cell? ⟨w.heap.size + 1, 6, none⟩ = some (.int .i64 a1_6) := by simp [go_sem]
  have k1_7 : ((w.alloc (Obj.cells #[Value.int .i64 a0_0, Value.int .i64 a0_1, Value.int .i64 a0_2, Value.slice a0_3 n0_3 c0_3] 48)).alloc (Obj.cells #[Value.int .i64 a1_0, Value.int .i64 a1_1, Value.int .i64 a1_2, Value.slice a1_3 n1_3 c1_3, Value.int .i64 a1_4, Value.int .i64 a1_5, Value.int .i64 a1_6, Value.int .i64 a1_7, Value.int .i64 a1_8, Value.slice a1_9 n1_9 c1_9] 54)).cell? ⟨w.heap.size + 1, 7, none⟩ = some (.int .i64 a1_7) := by simp [go_sem]
  have k1_8 : ((w.alloc (Obj.cells #[Value.int .i64 a0_0, Value.int .i64 a0_1, Value.int .i64 a0_2, Value.slice a0_3 n0_3 c0_3] 48)).alloc (Obj.cells #[Value.int .i64 a1_0, Value.int .i64 a1_1, Value.int .i64 a1_2, Value.slice a1_3 n1_3 c1_3, Value.int .i64 a1_4, Value.int .i64 a1_5, Value.int .i64 a1_6, Value.int .i64 a1_7, Value.int .i64 a1_8, Value.slice a1_9 n1_9 c1_9] 54)).cell? ⟨w.heap.size + 1, 8, none⟩ = some (.int .i64 a1_8) := by simp [go_sem]
  have k1_9 : ((w.alloc (Obj.cells #[Value.int .i64 a0_0, Value.int .i64 a0_1, Value.int .i64 a0_2, Value.slice a0_3 n0_3 c0_3] 48)).alloc (Obj.cells #[Value.int .i64 a1_0, Value.int .i64 a1_1, Value.int .i64 a1_2, Value.slice a1_3 n1_3 c1_3, Value.int .i64 a1_4, Value.int .i64 a1_5, Value.int .i64 a1_6, Value.int .i64 a1_7, Value.int .i64 a1_8, Value.slice a1_9 n1_9 c1_9] 54)).cell? ⟨w.heap.size + 1, 9, none⟩ = some (.slice a1_9 n1_9 c1_9) := by simp [go_sem]
  refine (szInboxC _ _ _ _ _ _ z0_3 w.heap.size _ _ (h0_3.mk M0 (Nat.le_refl _) (.inr (Nat.le_refl _))) M0.size (by omega) (by omega) (by omega)).mono ?_
  rintro e w1 ⟨l1, hl1, rfl, m1⟩
  have M1 := M0.trans m1
  replace k0_0 := m1.cellAt k0_0
  replace k0_1 := m1.cellAt k0_1
  replace k0_2 := m1.cellAt k0_2
  replace k0_3 := m1.cellAt k0_3
  replace k1_0 := m1.cellAt k1_0
  replace k1_1 := m1.cellAt k1_1
  replace k1_2 := m1.cellAt k1_2
  replace k1_3 := m1.cellAt k1_3
  replace k1_4 := m1.cellAt k1_4
  replace k1_5 := m1.cellAt k1_5
  replace k1_6 := m1.cellAt k1_6
  replace k1_7 := m1.cellAt k1_7
  replace k1_8 := m1.cellAt k1_8
  replace k1_9 := m1.cellAt k1_9
  have z1 := m1.size
  simp only [World.size_alloc] at z1
  go_wp2_with fail
  refine (szPacketC _ _ _ _ _ _ _ _ _ _ _ _ _ _ z1_3 w.heap.size _ _ (h1_3.mk M1 (Nat.le_refl _) (.inr (Nat.le_refl _))) M1.size (by omega) (by omega) (by omega)).mono ?_
  rintro e w2 ⟨l2, hl2, rfl, m2⟩
  have M2 := M1.trans m2
  have z2 := m2.size
  replace k0_0 := m2.cellAt k0_0
  replace k0_1 := m2.cellAt k0_1
  replace k0_2 := m2.cellAt k0_2
  replace k0_3 := m2.cellAt k0_3
  replace k1_0 := m2.cellAt k1_0
  replace k1_1 := m2.cellAt k1_1
  replace k1_2 := m2.cellAt k1_2
  replace k1_3 := m2.cellAt k1_3
  replace k1_4 := m2.cellAt k1_4
  replace k1_5 := m2.cellAt k1_5
  replace k1_6 := m2.cellAt k1_6
  replace k1_7 := m2.cellAt k1_7
  replace k1_8 := m2.cellAt k1_8
  replace k1_9 := m2.cellAt k1_9
  go_wp2_with fail
  have yr3_0 : w.heap.size < w2.heap.size := by omega
  have yr3_1 : w.heap.size + 1 < w2.heap.size := by omega
  have hN0_3 : szMessage z0_3 n0_3 ≤ 1048576 := by omega
  have hN1_3 : szPathPart z1_3 n1_3 ≤ 1048576 := by omega
  have hN1_9 : n1_9 ≤ 1048576 := by omega
  refine wp_region_fg (fun (g : Bxs) w' => (Mk0 w2 w' ∧ w'.cell? ⟨w.heap.size, 0, none⟩ = some (.int .i64 a0_0) ∧ w'.cell? ⟨w.heap.size, 1, none⟩ = some (.int .i64 a0_1) ∧ w'.cell? ⟨w.heap.size, 2, none⟩ = some (.int .i64 a0_2) ∧ w'.cell? ⟨w.heap.size, 3, none⟩ = some (.slice a0_3 n0_3 c0_3) ∧ w'.cell? ⟨w.heap.size + 1, 0, none⟩ = some (.int .i64 a1_0) ∧ w'.cell? ⟨w.heap.size + 1, 1, none⟩ = some (.int .i64 a1_1) ∧ w'.cell? ⟨w.heap.size + 1, 2, none⟩ = some (.int .i64 a1_2) ∧ w'.cell? ⟨w.heap.size + 1, 3, none⟩ = some (.slice a1_3 n1_3 c1_3) ∧ w'.cell? ⟨w.heap.size + 1, 4, none⟩ = some (.int .i64 a1_4) ∧ w'.cell? ⟨w.heap.size + 1, 5, none⟩ = some (.int .i64 a1_5) ∧ w'.cell? ⟨w.heap.size + 1, 6, none⟩ = some (.int .i64 a1_6) ∧ w'.cell? ⟨w.heap.size + 1, 7, none⟩ = some (.int .i64 a1_7) ∧ w'.cell? ⟨w.heap.size + 1, 8, none⟩ = some (.int .i64 a1_8) ∧ w'.cell? ⟨w.heap.size + 1, 9, none⟩ = some (.slice a1_9 n1_9 c1_9)) ∧ BxS w2.heap.size g w') (fgF [fun g v w => v = .agg #[.int .i64 a0_0, .int .i64 a0_1, .int .i64 a0_2, .slice a0_3 n0_3 c0_3], fun g v w => ∃ b0_3, v = .agg #[.int .i64 a0_0, .int .i64 a0_1, .int .i64 a0_2, .slice (some ⟨b0_3, 0, none⟩) n0_3 n0_3] ∧ HasMessage w w.heap.size (some ⟨b0_3, 0, none⟩) n0_3 z0_3, fun g v w => v = .agg #[.int .i64 a1_0, .int .i64 a1_1, .int .i64 a1_2, .slice a1_3 n1_3 c1_3, .int .i64 a1_4, .int .i64 a1_5, .int .i64 a1_6, .int .i64 a1_7, .int .i64 a1_8, .slice a1_9 n1_9 c1_9], fun g v w => ∃ b1_3 b1_9, v = .agg #[.int .i64 a1_0, .int .i64 a1_1, .int .i64 a1_2, .slice (some ⟨b1_3, 0, none⟩) n1_3 n1_3, .int .i64 a1_4, .int .i64 a1_5, .int .i64 a1_6, .int .i64 a1_7, .int .i64 a1_8, .slice (some ⟨b1_9, 0, none⟩) n1_9 n1_9] ∧ HasPathPart w w.heap.size (some ⟨b1_3, 0, none⟩) n1_3 z1_3 ∧ HasByte w w.heap.size (some ⟨b1_9, 0, none⟩) n1_9 z1_9, fun g v w => ∃ A N C lo hi, v = .agg #[.int .i64 a0_0, .int .i64 a0_1, .int .i64 (nextV (hdB a0_0 a0_1 a0_2 a1_0 a1_1 a1_2 a1_8) a0_2), .slice A N C] ∧ ((A = none → C = 0) ∧ (N ≤ C ∧ C ≤ 9223372036854775807)) ∧ w2.heap.size ≤ lo ∧ lo ≤ hi ∧ hi ≤ w.heap.size ∧ OwnN WMessage w lo hi A N (moreL (hdB a0_0 a0_1 a0_2 a1_0 a1_1 a1_2 a1_8) z0_3 ⟨z1_9⟩) ∧ BxA g lo hi, fun g v w => BxZ g 5 [.int .i64 0, .int .i64 0, .int .i64 0, .slice none 0 0] v w]) BxX (fun _ _ => False) 7 6 (by kernel_rfl) (by kernel_rfl) (by decide) (by decide) (by kernel_rfl) (fun h => absurd h (by decide)) (fgM_mono ⟨fun g g' v w w' h x => h, fun g g' v w w' h x => (by obtain ⟨b0_3, h1, r0_3⟩ := h; exact ⟨_, h1, (r0_3.mk x.far (Nat.le_refl _) (.inr (Nat.le_refl _))).mono x.far.size⟩), fun g g' v w w' h x => h, fun g g' v w w' h x => (by obtain ⟨b1_3, b1_9, h1, r1_3, r1_9⟩ := h; exact ⟨_, _, h1, (r1_3.mk x.far (Nat.le_refl _) (.inr (Nat.le_refl _))).mono x.far.size, (r1_9.mk x.far (Nat.le_refl _) (.inr (Nat.le_refl _))).mono x.far.size⟩), fun g g' v w w' h x => (by obtain ⟨A, N, C, lo, hi, h1, h2, h3, h4, h5, h6, h7⟩ := h; exact ⟨A, N, C, lo, hi, h1, h2, h3, h4, Nat.le_trans h5 x.far.size, h6.mk x.far h5 (.inr (.inr (Nat.le_refl _))), h7.step x h5⟩), fun g g' v w w' h x => h.step x, trivial⟩) ⟨⟨Mk.drew1 _, k0_0, k0_1, k0_2, k0_3, k1_0, k1_1, k1_2, k1_3, k1_4, k1_5, k1_6, k1_7, k1_8, k1_9⟩, BxS.none_ _ _⟩ ?_
  change WkG _ _ _ _ _ _ 7 6 6 0 _
  refine WkG.value (m := 5) (k := 0) (by decide) rfl rfl (of_decide_eq_true (by rfl)) rfl (fun g w hS hF => ?_) (fun v0 => ?_)
  · obtain ⟨⟨s0, s1, s2, s3, s4, s5, s6, s7, s8, s9, s10, s11, s12, s13, s14⟩, hB⟩ := hS
    exact ⟨.agg #[.int .i64 a0_0, .int .i64 a0_1, .int .i64 a0_2, .slice a0_3 n0_3 c0_3], w, g, (by go_simp; try with_reducible rfl), ⟨⟨s0, s1, s2, s3, s4, s5, s6, s7, s8, s9, s10, s11, s12, s13, s14⟩, hB⟩, BxX.same (Mk.refl _ _ _), rfl⟩
  try simp only [Act.put, List.getElem_toArray, List.getElem_cons_zero, List.setIfInBounds_toArray, List.set_cons_zero, List.set_cons_succ]
  refine WkG.call (m := 4) (k := 1) (by decide) rfl rfl (of_decide_eq_true (by rfl)) rfl (fun g w hS hF => ?_) (fun v1 => ?_)
  · obtain ⟨⟨s0, s1, s2, s3, s4, s5, s6, s7, s8, s9, s10, s11, s12, s13, s14⟩, hB⟩ := hS
    have f0 : v0 = .agg #[.int .i64 a0_0, .int .i64 a0_1, .int .i64 a0_2, .slice a0_3 n0_3 c0_3] := hF 0 (by rfl)
    obtain rfl := f0
    refine ⟨_, _, (by go_simp; first | done | exact ⟨rfl, rfl⟩ | with_reducible rfl), ?_⟩
    refine (toInboxC a0_0 a0_1 a0_2 a0_3 n0_3 c0_3 z0_3 _ w (h0_3.mk (M2.trans s0) (Nat.le_refl _) (.inr (Nat.le_refl _))) (M2.trans s0).size hN0_3).mono ?_
    rintro e w' ⟨b0_3, rfl, o0, g0, mm⟩
    exact ⟨_, g, rfl, ⟨⟨s0.trans mm, mm.cellAt s1, mm.cellAt s2, mm.cellAt s3, mm.cellAt s4, mm.cellAt s5, mm.cellAt s6, mm.cellAt s7, mm.cellAt s8, mm.cellAt s9, mm.cellAt s10, mm.cellAt s11, mm.cellAt s12, mm.cellAt s13, mm.cellAt s14⟩, hB.mk0 mm⟩, BxX.same mm, ⟨_, rfl, o0.has.mono (Nat.le_refl _)⟩⟩
  try simp only [Act.put, List.getElem_toArray, List.getElem_cons_succ, List.getElem_cons_zero, List.setIfInBounds_toArray, List.set_cons_zero, List.set_cons_succ]
  refine WkG.value (m := 3) (k := 2) (by decide) rfl rfl (of_decide_eq_true (by rfl)) rfl (fun g w hS hF => ?_) (fun v2 => ?_)
  · obtain ⟨⟨s0, s1, s2, s3, s4, s5, s6, s7, s8, s9, s10, s11, s12, s13, s14⟩, hB⟩ := hS
    exact ⟨.agg #[.int .i64 a1_0, .int .i64 a1_1, .int .i64 a1_2, .slice a1_3 n1_3 c1_3, .int .i64 a1_4, .int .i64 a1_5, .int .i64 a1_6, .int .i64 a1_7, .int .i64 a1_8, .slice a1_9 n1_9 c1_9], w, g, (by go_simp; try with_reducible rfl), ⟨⟨s0, s1, s2, s3, s4, s5, s6, s7, s8, s9, s10, s11, s12, s13, s14⟩, hB⟩, BxX.same (Mk.refl _ _ _), rfl⟩
  try simp only [Act.put, List.getElem_toArray, List.getElem_cons_succ, List.getElem_cons_zero, List.setIfInBounds_toArray, List.set_cons_zero, List.set_cons_succ]
  refine WkG.call (m := 2) (k := 3) (by decide) rfl rfl (of_decide_eq_true (by rfl)) rfl (fun g w hS hF => ?_) (fun v3 => ?_)
  · obtain ⟨⟨s0, s1, s2, s3, s4, s5, s6, s7, s8, s9, s10, s11, s12, s13, s14⟩, hB⟩ := hS
    have f2 : v2 = .agg #[.int .i64 a1_0, .int .i64 a1_1, .int .i64 a1_2, .slice a1_3 n1_3 c1_3, .int .i64 a1_4, .int .i64 a1_5, .int .i64 a1_6, .int .i64 a1_7, .int .i64 a1_8, .slice a1_9 n1_9 c1_9] := hF 2 (by rfl)
    obtain rfl := f2
    refine ⟨_, _, (by go_simp; first | done | exact ⟨rfl, rfl⟩ | with_reducible rfl), ?_⟩
    refine (toPacketC a1_0 a1_1 a1_2 a1_4 a1_5 a1_6 a1_7 a1_8 a1_3 n1_3 c1_3 z1_3 a1_9 n1_9 c1_9 z1_9 _ w (h1_3.mk (M2.trans s0) (Nat.le_refl _) (.inr (Nat.le_refl _))) (h1_9.mk (M2.trans s0) (Nat.le_refl _) (.inr (Nat.le_refl _))) (M2.trans s0).size hN1_3 hN1_9).mono ?_
    rintro e w' ⟨b1_3, b1_9, d0, rfl, o0, o1, g0, g1, mm⟩
    exact ⟨_, g, rfl, ⟨⟨s0.trans mm, mm.cellAt s1, mm.cellAt s2, mm.cellAt s3, mm.cellAt s4, mm.cellAt s5, mm.cellAt s6, mm.cellAt s7, mm.cellAt s8, mm.cellAt s9, mm.cellAt s10, mm.cellAt s11, mm.cellAt s12, mm.cellAt s13, mm.cellAt s14⟩, hB.mk0 mm⟩, BxX.same mm, ⟨_, _, rfl, o0.has.mono g1, o1.has.mono (Nat.le_refl _)⟩⟩
  try simp only [Act.put, List.getElem_toArray, List.getElem_cons_succ, List.getElem_cons_zero, List.setIfInBounds_toArray, List.set_cons_zero, List.set_cons_succ]
  refine WkG.call (m := 1) (k := 4) (by decide) rfl rfl (of_decide_eq_true (by rfl)) rfl (fun g w hS hF => ?_) (fun v4 => ?_)
  · obtain ⟨⟨s0, s1, s2, s3, s4, s5, s6, s7, s8, s9, s10, s11, s12, s13, s14⟩, hB⟩ := hS
    have f1 : ∃ b0_3, v1 = .agg #[.int .i64 a0_0, .int .i64 a0_1, .int .i64 a0_2, .slice (some ⟨b0_3, 0, none⟩) n0_3 n0_3] ∧ HasMessage w w.heap.size (some ⟨b0_3, 0, none⟩) n0_3 z0_3 := hF 1 (by rfl)
    obtain ⟨b0_3, rfl, r0_3⟩ := f1
    have f3 : ∃ b1_3 b1_9, v3 = .agg #[.int .i64 a1_0, .int .i64 a1_1, .int .i64 a1_2, .slice (some ⟨b1_3, 0, none⟩) n1_3 n1_3, .int .i64 a1_4, .int .i64 a1_5, .int .i64 a1_6, .int .i64 a1_7, .int .i64 a1_8, .slice (some ⟨b1_9, 0, none⟩) n1_9 n1_9] ∧ HasPathPart w w.heap.size (some ⟨b1_3, 0, none⟩) n1_3 z1_3 ∧ HasByte w w.heap.size (some ⟨b1_9, 0, none⟩) n1_9 z1_9 := hF 3 (by rfl)
    obtain ⟨b1_3, b1_9, rfl, r1_3, r1_9⟩ := f3
    refine ⟨_, _, (by go_simp; first | done | exact ⟨rfl, rfl⟩ | with_reducible rfl), ?_⟩
    refine (specHData a0_0 a0_1 a0_2 _ _ _ _ z0_3 a1_0 a1_1 a1_2 a1_4 a1_5 a1_6 a1_7 a1_8 _ _ _ _ _ _ _ z1_9 _ r0_3 (Nat.le_refl _) hN0_3 r1_9 (Nat.le_refl _) hN1_9 (i64_of w0_2).1).mono ?_
    rintro e w' ⟨A, N, C, rfl, hc, ow, mm⟩
    exact ⟨_, g, rfl, ⟨⟨s0.trans mm, mm.cellAt s1, mm.cellAt s2, mm.cellAt s3, mm.cellAt s4, mm.cellAt s5, mm.cellAt s6, mm.cellAt s7, mm.cellAt s8, mm.cellAt s9, mm.cellAt s10, mm.cellAt s11, mm.cellAt s12, mm.cellAt s13, mm.cellAt s14⟩, hB.mk0 mm⟩, BxX.same mm, ⟨A, N, C, w.heap.size, w'.heap.size, rfl, hc, s0.size, mm.size, Nat.le_refl _, ow, BxA.of hB⟩⟩
  try simp only [Act.put, List.getElem_toArray, List.getElem_cons_succ, List.getElem_cons_zero, List.setIfInBounds_toArray, List.set_cons_zero, List.set_cons_succ]
  refine WkG.value (m := 0) (k := 5) (by decide) rfl rfl (of_decide_eq_true (by rfl)) rfl (fun g w hS hF => ?_) (fun v5 => ?_)
  · obtain ⟨⟨s0, s1, s2, s3, s4, s5, s6, s7, s8, s9, s10, s11, s12, s13, s14⟩, hB⟩ := hS
    have mm := Mk.alloc w (Obj.cells #[.int .i64 0, .int .i64 0, .int .i64 0, .slice none 0 0] 59)
    exact ⟨.pointer (some ⟨w.heap.size, 0, none⟩), (w.alloc (Obj.cells #[.int .i64 0, .int .i64 0, .int .i64 0, .slice none 0 0] 59)), bxP g 5 w.heap.size, (by go_simp; try with_reducible rfl), ⟨⟨s0.trans mm, mm.cellAt s1, mm.cellAt s2, mm.cellAt s3, mm.cellAt s4, mm.cellAt s5, mm.cellAt s6, mm.cellAt s7, mm.cellAt s8, mm.cellAt s9, mm.cellAt s10, mm.cellAt s11, mm.cellAt s12, mm.cellAt s13, mm.cellAt s14⟩, hB.put s0.size 5 (Obj.cells #[.int .i64 0, .int .i64 0, .int .i64 0, .slice none 0 0] 59)⟩, BxX.put 5 (Obj.cells #[.int .i64 0, .int .i64 0, .int .i64 0, .slice none 0 0] 59), BxZ.new g 5 [.int .i64 0, .int .i64 0, .int .i64 0, .slice none 0 0] 59 w⟩
  try simp only [Act.put, List.getElem_toArray, List.getElem_cons_succ, List.getElem_cons_zero, List.setIfInBounds_toArray, List.set_cons_zero, List.set_cons_succ]
  refine WkG.done fun gE wq3 hE hF => ?_
  clear k0_0 k0_1 k0_2 k0_3 k1_0 k1_1 k1_2 k1_3 k1_4 k1_5 k1_6 k1_7 k1_8 k1_9
  obtain ⟨⟨m3, k0_0, k0_1, k0_2, k0_3, k1_0, k1_1, k1_2, k1_3, k1_4, k1_5, k1_6, k1_7, k1_8, k1_9⟩, hBE⟩ := hE
  change wpAny _ _ _ _ 1 _ _ _
  have f4 : ∃ A N C lo hi, v4 = .agg #[.int .i64 a0_0, .int .i64 a0_1, .int .i64 (nextV (hdB a0_0 a0_1 a0_2 a1_0 a1_1 a1_2 a1_8) a0_2), .slice A N C] ∧ ((A = none → C = 0) ∧ (N ≤ C ∧ C ≤ 9223372036854775807)) ∧ w2.heap.size ≤ lo ∧ lo ≤ hi ∧ hi ≤ wq3.heap.size ∧ OwnN WMessage wq3 lo hi A N (moreL (hdB a0_0 a0_1 a0_2 a1_0 a1_1 a1_2 a1_8) z0_3 ⟨z1_9⟩) ∧ BxA gE lo hi := hF 4 (by decide)
  obtain ⟨Aw0, Nw0, Cw0, low0, hiw0, rfl, hcw0, hlw0, hmw0, hhw0, ow0, hAw0⟩ := f4
  have f5 : BxZ gE 5 [.int .i64 0, .int .i64 0, .int .i64 0, .slice none 0 0] v5 wq3 := hF 5 (by decide)
  obtain ⟨Bw0, hgw0, rfl, hltw0, hzw0, hfw0⟩ := f5
  have hsw0 := hAw0 5 Bw0 hgw0
  have hbw00 := hBE.lo 5 Bw0 hgw0
  have xw0_0 := hzw0 0 _ rfl
  have xw0_1 := hzw0 1 _ rfl
  have xw0_2 := hzw0 2 _ rfl
  have xw0_3 := hzw0 3 _ rfl
  clear hF
  refine wpAny_ready (rs := [6]) (by kernel_rfl) (by simp) ?_
  refine (AllReady.cons rfl (fun K hK => ?_) AllReady.nil)
  go_simp
  refine hK _ _ ?_
  clear hK K
  try simp only [Act.put, List.getElem_toArray, List.getElem_cons_succ, List.getElem_cons_zero, List.setIfInBounds_toArray, List.set_cons_zero, List.set_cons_succ]
  have yn0 : Bw0 ≠ w.heap.size := by omega
  have yn1 : Bw0 ≠ w.heap.size + 1 := by omega
  replace xw0_0 := World.cell?_setCell_same _ _ (.int .i64 a0_0) xw0_0
  replace xw0_1 := cell_set xw0_1 ⟨Bw0, 0, none⟩ (.int .i64 a0_0) (.inr (by simp))
  replace xw0_2 := cell_set xw0_2 ⟨Bw0, 0, none⟩ (.int .i64 a0_0) (.inr (by simp))
  replace xw0_3 := cell_set xw0_3 ⟨Bw0, 0, none⟩ (.int .i64 a0_0) (.inr (by simp))
  replace k0_0 := cell_set k0_0 ⟨Bw0, 0, none⟩ (.int .i64 a0_0) (.inl yn0)
  replace k0_1 := cell_set k0_1 ⟨Bw0, 0, none⟩ (.int .i64 a0_0) (.inl yn0)
  replace k0_2 := cell_set k0_2 ⟨Bw0, 0, none⟩ (.int .i64 a0_0) (.inl yn0)
  replace k0_3 := cell_set k0_3 ⟨Bw0, 0, none⟩ (.int .i64 a0_0) (.inl yn0)
  replace k1_0 := cell_set k1_0 ⟨Bw0, 0, none⟩ (.int .i64 a0_0) (.inl yn1)
  replace k1_1 := cell_set k1_1 ⟨Bw0, 0, none⟩ (.int .i64 a0_0) (.inl yn1)
  replace k1_2 := cell_set k1_2 ⟨Bw0, 0, none⟩ (.int .i64 a0_0) (.inl yn1)
  replace k1_3 := cell_set k1_3 ⟨Bw0, 0, none⟩ (.int .i64 a0_0) (.inl yn1)
  replace k1_4 := cell_set k1_4 ⟨Bw0, 0, none⟩ (.int .i64 a0_0) (.inl yn1)
  replace k1_5 := cell_set k1_5 ⟨Bw0, 0, none⟩ (.int .i64 a0_0) (.inl yn1)
  replace k1_6 := cell_set k1_6 ⟨Bw0, 0, none⟩ (.int .i64 a0_0) (.inl yn1)
  replace k1_7 := cell_set k1_7 ⟨Bw0, 0, none⟩ (.int .i64 a0_0) (.inl yn1)
  replace k1_8 := cell_set k1_8 ⟨Bw0, 0, none⟩ (.int .i64 a0_0) (.inl yn1)
  replace k1_9 := cell_set k1_9 ⟨Bw0, 0, none⟩ (.int .i64 a0_0) (.inl yn1)
  replace ow0 := ow0.set ⟨Bw0, 0, none⟩ (.int .i64 a0_0) hsw0
  replace m3 := m3.put ⟨Bw0, 0, none⟩ (.int .i64 a0_0) hbw00
  replace xw0_0 := cell_set xw0_0 ⟨Bw0, 1, none⟩ (.int .i64 a0_1) (.inr (by simp))
  replace xw0_1 := World.cell?_setCell_same _ _ (.int .i64 a0_1) xw0_1
  replace xw0_2 := cell_set xw0_2 ⟨Bw0, 1, none⟩ (.int .i64 a0_1) (.inr (by simp))
  replace xw0_3 := cell_set xw0_3 ⟨Bw0, 1, none⟩ (.int .i64 a0_1) (.inr (by simp))
  replace k0_0 := cell_set k0_0 ⟨Bw0, 1, none⟩ (.int .i64 a0_1) (.inl yn0)
  replace k0_1 := cell_set k0_1 ⟨Bw0, 1, none⟩ (.int .i64 a0_1) (.inl yn0)
  replace k0_2 := cell_set k0_2 ⟨Bw0, 1, none⟩ (.int .i64 a0_1) (.inl yn0)
  replace k0_3 := cell_set k0_3 ⟨Bw0, 1, none⟩ (.int .i64 a0_1) (.inl yn0)
  replace k1_0 := cell_set k1_0 ⟨Bw0, 1, none⟩ (.int .i64 a0_1) (.inl yn1)
  replace k1_1 := cell_set k1_1 ⟨Bw0, 1, none⟩ (.int .i64 a0_1) (.inl yn1)
  replace k1_2 := cell_set k1_2 ⟨Bw0, 1, none⟩ (.int .i64 a0_1) (.inl yn1)
  replace k1_3 := cell_set k1_3 ⟨Bw0, 1, none⟩ (.int .i64 a0_1) (.inl yn1)
  replace k1_4 := cell_set k1_4 ⟨Bw0, 1, none⟩ (.int .i64 a0_1) (.inl yn1)
  replace k1_5 := cell_set k1_5 ⟨Bw0, 1, none⟩ (.int .i64 a0_1) (.inl yn1)
  replace k1_6 := cell_set k1_6 ⟨Bw0, 1, none⟩ (.int .i64 a0_1) (.inl yn1)
  replace k1_7 := cell_set k1_7 ⟨Bw0, 1, none⟩ (.int .i64 a0_1) (.inl yn1)
  replace k1_8 := cell_set k1_8 ⟨Bw0, 1, none⟩ (.int .i64 a0_1) (.inl yn1)
  replace k1_9 := cell_set k1_9 ⟨Bw0, 1, none⟩ (.int .i64 a0_1) (.inl yn1)
  replace ow0 := ow0.set ⟨Bw0, 1, none⟩ (.int .i64 a0_1) hsw0
  replace m3 := m3.put ⟨Bw0, 1, none⟩ (.int .i64 a0_1) hbw00
  replace xw0_0 := cell_set xw0_0 ⟨Bw0, 2, none⟩ (.int .i64 (nextV (hdB a0_0 a0_1 a0_2 a1_0 a1_1 a1_2 a1_8) a0_2)) (.inr (by simp))
  replace xw0_1 := cell_set xw0_1 ⟨Bw0, 2, none⟩ (.int .i64 (nextV (hdB a0_0 a0_1 a0_2 a1_0 a1_1 a1_2 a1_8) a0_2)) (.inr (by simp))
  replace xw0_2 := World.cell?_setCell_same _ _ (.int .i64 (nextV (hdB a0_0 a0_1 a0_2 a1_0 a1_1 a1_2 a1_8) a0_2)) xw0_2
  replace xw0_3 := cell_set xw0_3 ⟨Bw0, 2, none⟩ (.int .i64 (nextV (hdB a0_0 a0_1 a0_2 a1_0 a1_1 a1_2 a1_8) a0_2)) (.inr (by simp))
  replace k0_0 := cell_set k0_0 ⟨Bw0, 2, none⟩ (.int .i64 (nextV (hdB a0_0 a0_1 a0_2 a1_0 a1_1 a1_2 a1_8) a0_2)) (.inl yn0)
  replace k0_1 := cell_set k0_1 ⟨Bw0, 2, none⟩ (.int .i64 (nextV (hdB a0_0 a0_1 a0_2 a1_0 a1_1 a1_2 a1_8) a0_2)) (.inl yn0)
  replace k0_2 := cell_set k0_2 ⟨Bw0, 2, none⟩ (.int .i64 (nextV (hdB a0_0 a0_1 a0_2 a1_0 a1_1 a1_2 a1_8) a0_2)) (.inl yn0)
  replace k0_3 := cell_set k0_3 ⟨Bw0, 2, none⟩ (.int .i64 (nextV (hdB a0_0 a0_1 a0_2 a1_0 a1_1 a1_2 a1_8) a0_2)) (.inl yn0)
  replace k1_0 := cell_set k1_0 ⟨Bw0, 2, none⟩ (.int .i64 (nextV (hdB a0_0 a0_1 a0_2 a1_0 a1_1 a1_2 a1_8) a0_2)) (.inl yn1)
  replace k1_1 := cell_set k1_1 ⟨Bw0, 2, none⟩ (.int .i64 (nextV (hdB a0_0 a0_1 a0_2 a1_0 a1_1 a1_2 a1_8) a0_2)) (.inl yn1)
  replace k1_2 := cell_set k1_2 ⟨Bw0, 2, none⟩ (.int .i64 (nextV (hdB a0_0 a0_1 a0_2 a1_0 a1_1 a1_2 a1_8) a0_2)) (.inl yn1)
  replace k1_3 := cell_set k1_3 ⟨Bw0, 2, none⟩ (.int .i64 (nextV (hdB a0_0 a0_1 a0_2 a1_0 a1_1 a1_2 a1_8) a0_2)) (.inl yn1)
  replace k1_4 := cell_set k1_4 ⟨Bw0, 2, none⟩ (.int .i64 (nextV (hdB a0_0 a0_1 a0_2 a1_0 a1_1 a1_2 a1_8) a0_2)) (.inl yn1)
  replace k1_5 := cell_set k1_5 ⟨Bw0, 2, none⟩ (.int .i64 (nextV (hdB a0_0 a0_1 a0_2 a1_0 a1_1 a1_2 a1_8) a0_2)) (.inl yn1)
  replace k1_6 := cell_set k1_6 ⟨Bw0, 2, none⟩ (.int .i64 (nextV (hdB a0_0 a0_1 a0_2 a1_0 a1_1 a1_2 a1_8) a0_2)) (.inl yn1)
  replace k1_7 := cell_set k1_7 ⟨Bw0, 2, none⟩ (.int .i64 (nextV (hdB a0_0 a0_1 a0_2 a1_0 a1_1 a1_2 a1_8) a0_2)) (.inl yn1)
  replace k1_8 := cell_set k1_8 ⟨Bw0, 2, none⟩ (.int .i64 (nextV (hdB a0_0 a0_1 a0_2 a1_0 a1_1 a1_2 a1_8) a0_2)) (.inl yn1)
  replace k1_9 := cell_set k1_9 ⟨Bw0, 2, none⟩ (.int .i64 (nextV (hdB a0_0 a0_1 a0_2 a1_0 a1_1 a1_2 a1_8) a0_2)) (.inl yn1)
  replace ow0 := ow0.set ⟨Bw0, 2, none⟩ (.int .i64 (nextV (hdB a0_0 a0_1 a0_2 a1_0 a1_1 a1_2 a1_8) a0_2)) hsw0
  replace m3 := m3.put ⟨Bw0, 2, none⟩ (.int .i64 (nextV (hdB a0_0 a0_1 a0_2 a1_0 a1_1 a1_2 a1_8) a0_2)) hbw00
  replace xw0_0 := cell_set xw0_0 ⟨Bw0, 3, none⟩ (.slice Aw0 Nw0 Cw0) (.inr (by simp))
  replace xw0_1 := cell_set xw0_1 ⟨Bw0, 3, none⟩ (.slice Aw0 Nw0 Cw0) (.inr (by simp))
  replace xw0_2 := cell_set xw0_2 ⟨Bw0, 3, none⟩ (.slice Aw0 Nw0 Cw0) (.inr (by simp))
  replace xw0_3 := World.cell?_setCell_same _ _ (.slice Aw0 Nw0 Cw0) xw0_3
  replace k0_0 := cell_set k0_0 ⟨Bw0, 3, none⟩ (.slice Aw0 Nw0 Cw0) (.inl yn0)
  replace k0_1 := cell_set k0_1 ⟨Bw0, 3, none⟩ (.slice Aw0 Nw0 Cw0) (.inl yn0)
  replace k0_2 := cell_set k0_2 ⟨Bw0, 3, none⟩ (.slice Aw0 Nw0 Cw0) (.inl yn0)
  replace k0_3 := cell_set k0_3 ⟨Bw0, 3, none⟩ (.slice Aw0 Nw0 Cw0) (.inl yn0)
  replace k1_0 := cell_set k1_0 ⟨Bw0, 3, none⟩ (.slice Aw0 Nw0 Cw0) (.inl yn1)
  replace k1_1 := cell_set k1_1 ⟨Bw0, 3, none⟩ (.slice Aw0 Nw0 Cw0) (.inl yn1)
  replace k1_2 := cell_set k1_2 ⟨Bw0, 3, none⟩ (.slice Aw0 Nw0 Cw0) (.inl yn1)
  replace k1_3 := cell_set k1_3 ⟨Bw0, 3, none⟩ (.slice Aw0 Nw0 Cw0) (.inl yn1)
  replace k1_4 := cell_set k1_4 ⟨Bw0, 3, none⟩ (.slice Aw0 Nw0 Cw0) (.inl yn1)
  replace k1_5 := cell_set k1_5 ⟨Bw0, 3, none⟩ (.slice Aw0 Nw0 Cw0) (.inl yn1)
  replace k1_6 := cell_set k1_6 ⟨Bw0, 3, none⟩ (.slice Aw0 Nw0 Cw0) (.inl yn1)
  replace k1_7 := cell_set k1_7 ⟨Bw0, 3, none⟩ (.slice Aw0 Nw0 Cw0) (.inl yn1)
  replace k1_8 := cell_set k1_8 ⟨Bw0, 3, none⟩ (.slice Aw0 Nw0 Cw0) (.inl yn1)
  replace k1_9 := cell_set k1_9 ⟨Bw0, 3, none⟩ (.slice Aw0 Nw0 Cw0) (.inl yn1)
  replace ow0 := ow0.set ⟨Bw0, 3, none⟩ (.slice Aw0 Nw0 Cw0) hsw0
  replace m3 := m3.put ⟨Bw0, 3, none⟩ (.slice Aw0 Nw0 Cw0) hbw00
  have zq : ((((wq3.setCell ⟨Bw0, 0, none⟩ (.int .i64 a0_0)).setCell ⟨Bw0, 1, none⟩ (.int .i64 a0_1)).setCell ⟨Bw0, 2, none⟩ (.int .i64 (nextV (hdB a0_0 a0_1 a0_2 a1_0 a1_1 a1_2 a1_8) a0_2))).setCell ⟨Bw0, 3, none⟩ (.slice Aw0 Nw0 Cw0)).heap.size = wq3.heap.size := by simp only [World.size_set]
  clear hzw0 hfw0 hAw0 hgw0 hBE
  generalize ((((wq3.setCell ⟨Bw0, 0, none⟩ (.int .i64 a0_0)).setCell ⟨Bw0, 1, none⟩ (.int .i64 a0_1)).setCell ⟨Bw0, 2, none⟩ (.int .i64 (nextV (hdB a0_0 a0_1 a0_2 a1_0 a1_1 a1_2 a1_8) a0_2))).setCell ⟨Bw0, 3, none⟩ (.slice Aw0 Nw0 Cw0)) = w3 at *
  rw [← zq] at hhw0 hltw0
  clear zq
  clear yn0 yn1
  refine wpAny_doneN (by kernel_rfl) ?_
  refine ‹∀ (a : Act) (w : World), _ → _› _ _ ?_
  clear hN0_3 hN1_3 hN1_9 yr3_0 yr3_1
  have hbw0 : szMessage (moreL (hdB a0_0 a0_1 a0_2 a1_0 a1_1 a1_2 a1_8) z0_3 ⟨z1_9⟩) Nw0 ≤ 1048577 := (moreL_sz (n := n0_3) (n9 := n1_9) (by omega) h0_3.1 h1_9.1 ow0.1).1
  have hbw0n : Nw0 ≤ 1048577 := Nat.le_trans (szMessage_n _ _) hbw0
  have hbw0t : sumTo totMessage (moreL (hdB a0_0 a0_1 a0_2 a1_0 a1_1 a1_2 a1_8) z0_3 ⟨z1_9⟩) Nw0 ≤ 2097152 := (moreL_sz (n := n0_3) (n9 := n1_9) (by omega) h0_3.1 h1_9.1 ow0.1).2
  have M3 := M2.trans m3
  have z3 := m3.size
  go_wp2_with fail
  refine (toInboxC _ _ _ _ _ _ _ w.heap.size _ (h0_3.mk M3 (Nat.le_refl _) (.inr (Nat.le_refl _))) (by omega) (by omega)).mono ?_
  rintro e w4 ⟨b1, rfl, o2, g3, m4⟩
  have M4 := M3.trans m4
  have z4 := m4.size
  replace k0_0 := m4.cellAt k0_0
  replace k0_1 := m4.cellAt k0_1
  replace k0_2 := m4.cellAt k0_2
  replace k0_3 := m4.cellAt k0_3
  replace k1_0 := m4.cellAt k1_0
  replace k1_1 := m4.cellAt k1_1
  replace k1_2 := m4.cellAt k1_2
  replace k1_3 := m4.cellAt k1_3
  replace k1_4 := m4.cellAt k1_4
  replace k1_5 := m4.cellAt k1_5
  replace k1_6 := m4.cellAt k1_6
  replace k1_7 := m4.cellAt k1_7
  replace k1_8 := m4.cellAt k1_8
  replace k1_9 := m4.cellAt k1_9
  replace xw0_0 := m4.cellAt xw0_0
  replace xw0_1 := m4.cellAt xw0_1
  replace xw0_2 := m4.cellAt xw0_2
  replace xw0_3 := m4.cellAt xw0_3
  replace ow0 := ow0.mk m4 (by omega) (.inr (.inr (Nat.le_refl _)))
  have h4 := o2.has.mono (B' := w4.heap.size) (by omega)
  have yb5 : w.heap.size < w4.heap.size := by omega
  have yb6 : w.heap.size + 1 < w4.heap.size := by omega
  have yb7 : Bw0 < w4.heap.size := by omega
  go_wp2_with fail
  have xx0_0 : (w4.alloc (Obj.cells #[Value.int .i64 a0_0, Value.int .i64 a0_1, Value.int .i64 a0_2, Value.slice (some ⟨b1, 0, none⟩) n0_3 n0_3] 59)).cell? ⟨w4.heap.size, 0, none⟩ = some (.int .i64 a0_0) := by rw [World.cell?_alloc_at _ _ _ _ rfl]; rfl
  have xx0_1 : (w4.alloc (Obj.cells #[Value.int .i64 a0_0, Value.int .i64 a0_1, Value.int .i64 a0_2, Value.slice (some ⟨b1, 0, none⟩) n0_3 n0_3] 59)).cell? ⟨w4.heap.size, 1, none⟩ = some (.int .i64 a0_1) := by rw [World.cell?_alloc_at _ _ _ _ rfl]; rfl
  have xx0_2 : (w4.alloc (Obj.cells #[Value.int .i64 a0_0, Value.int .i64 a0_1, Value.int .i64 a0_2, Value.slice (some ⟨b1, 0, none⟩) n0_3 n0_3] 59)).cell? ⟨w4.heap.size, 2, none⟩ = some (.int .i64 a0_2) := by rw [World.cell?_alloc_at _ _ _ _ rfl]; rfl
  have xx0_3 : (w4.alloc (Obj.cells #[Value.int .i64 a0_0, Value.int .i64 a0_1, Value.int .i64 a0_2, Value.slice (some ⟨b1, 0, none⟩) n0_3 n0_3] 59)).cell? ⟨w4.heap.size, 3, none⟩ = some (.slice (some ⟨b1, 0, none⟩) n0_3 n0_3) := by rw [World.cell?_alloc_at _ _ _ _ rfl]; rfl
  have m5 := Mk.alloc w4 (Obj.cells #[Value.int .i64 a0_0, Value.int .i64 a0_1, Value.int .i64 a0_2, Value.slice (some ⟨b1, 0, none⟩) n0_3 n0_3] 59)
  replace k0_0 := m5.cellAt k0_0
  replace k0_1 := m5.cellAt k0_1
  replace k0_2 := m5.cellAt k0_2
  replace k0_3 := m5.cellAt k0_3
  replace k1_0 := m5.cellAt k1_0
  replace k1_1 := m5.cellAt k1_1
  replace k1_2 := m5.cellAt k1_2
  replace k1_3 := m5.cellAt k1_3
  replace k1_4 := m5.cellAt k1_4
  replace k1_5 := m5.cellAt k1_5
  replace k1_6 := m5.cellAt k1_6
  replace k1_7 := m5.cellAt k1_7
  replace k1_8 := m5.cellAt k1_8
  replace k1_9 := m5.cellAt k1_9
  replace xw0_0 := m5.cellAt xw0_0
  replace xw0_1 := m5.cellAt xw0_1
  replace xw0_2 := m5.cellAt xw0_2
  replace xw0_3 := m5.cellAt xw0_3
  replace h4 := h4.mk m5 (by omega) (.inr (Nat.le_refl _))
  replace o2 := o2.mk m5 (by omega) (.inr (.inr (Nat.le_refl _)))
  replace ow0 := ow0.mk m5 (by omega) (.inr (.inr (Nat.le_refl _)))
  have M5 := M4.trans m5
  have z5 := m5.size
  have zz5 : w4.heap.size < (w4.alloc (Obj.cells #[Value.int .i64 a0_0, Value.int .i64 a0_1, Value.int .i64 a0_2, Value.slice (some ⟨b1, 0, none⟩) n0_3 n0_3] 59)).heap.size := by rw [World.size_alloc]; omega
  generalize (w4.alloc (Obj.cells #[Value.int .i64 a0_0, Value.int .i64 a0_1, Value.int .i64 a0_2, Value.slice (some ⟨b1, 0, none⟩) n0_3 n0_3] 59)) = w5 at *
  refine (toPacketC _ _ _ _ _ _ _ _ _ _ _ _ _ _ _ _ w.heap.size _ (h1_3.mk M5 (Nat.le_refl _) (.inr (Nat.le_refl _))) (h1_9.mk M5 (Nat.le_refl _) (.inr (Nat.le_refl _))) (by omega) (by omega) (by omega)).mono ?_
  rintro e w6 ⟨b8, b9, d10, rfl, o11, o12, g13, g14, m6⟩
  have M6 := M5.trans m6
  have z6 := m6.size
  replace k0_0 := m6.cellAt k0_0
  replace k0_1 := m6.cellAt k0_1
  replace k0_2 := m6.cellAt k0_2
  replace k0_3 := m6.cellAt k0_3
  replace k1_0 := m6.cellAt k1_0
  replace k1_1 := m6.cellAt k1_1
  replace k1_2 := m6.cellAt k1_2
  replace k1_3 := m6.cellAt k1_3
  replace k1_4 := m6.cellAt k1_4
  replace k1_5 := m6.cellAt k1_5
  replace k1_6 := m6.cellAt k1_6
  replace k1_7 := m6.cellAt k1_7
  replace k1_8 := m6.cellAt k1_8
  replace k1_9 := m6.cellAt k1_9
  replace xw0_0 := m6.cellAt xw0_0
  replace xw0_1 := m6.cellAt xw0_1
  replace xw0_2 := m6.cellAt xw0_2
  replace xw0_3 := m6.cellAt xw0_3
  replace xx0_0 := m6.cellAt xx0_0
  replace xx0_1 := m6.cellAt xx0_1
  replace xx0_2 := m6.cellAt xx0_2
  replace xx0_3 := m6.cellAt xx0_3
  replace h4 := h4.mk m6 (by omega) (.inr (Nat.le_refl _))
  replace o2 := o2.mk m6 (by omega) (.inr (.inr (Nat.le_refl _)))
  replace ow0 := ow0.mk m6 (by omega) (.inr (.inr (Nat.le_refl _)))
  have h15 := o11.has.mono (B' := w6.heap.size) (by omega)
  have h16 := o12.has.mono (B' := w6.heap.size) (by omega)
  have yb17 : w.heap.size < w6.heap.size := by omega
  have yb18 : w.heap.size + 1 < w6.heap.size := by omega
  have yb19 : Bw0 < w6.heap.size := by omega
  have yb20 : w4.heap.size < w6.heap.size := by omega
  go_wp2_with fail
  have xx1_0 : (w6.alloc (Obj.cells #[Value.int .i64 a1_0, Value.int .i64 a1_1, Value.int .i64 a1_2, Value.slice (some ⟨b8, 0, none⟩) n1_3 n1_3, Value.int .i64 a1_4, Value.int .i64 a1_5, Value.int .i64 a1_6, Value.int .i64 a1_7, Value.int .i64 a1_8, Value.slice (some ⟨b9, 0, none⟩) n1_9 n1_9] 66)).cell? ⟨w6.heap.size, 0, none⟩ = some (.int .i64 a1_0) := by rw [World.cell?_alloc_at _ _ _ _ rfl]; rfl
  have xx1_1 : (w6.alloc (Obj.cells #[Value.int .i64 a1_0, Value.int .i64 a1_1, Value.int .i64 a1_2, Value.slice (some ⟨b8, 0, none⟩) n1_3 n1_3, Value.int .i64 a1_4, Value.int .i64 a1_5, Value.int .i64 a1_6, Value.int .i64 a1_7, Value.int .i64 a1_8, Value.slice (some ⟨b9, 0, none⟩) n1_9 n1_9] 66)).cell? ⟨w6.heap.size, 1, none⟩ = some (.int .i64 a1_1) := by rw [World.cell?_alloc_at _ _ _ _ rfl]; rfl
  have xx1_2 : (w6.alloc (Obj.cells #[Value.int .i64 a1_0, Value.int .i64 a1_1, Value.int .i64 a1_2, Value.slice (some ⟨b8, 0, none⟩) n1_3 n1_3, Value.int .i64 a1_4, Value.int .i64 a1_5, Value.int .i64 a1_6, Value.int .i64 a1_7, Value.int .i64 a1_8, Value.slice (some ⟨b9, 0, none⟩) n1_9 n1_9] 66)).cell? ⟨w6.heap.size, 2, none⟩ = some (.int .i64 a1_2) := by rw [World.cell?_alloc_at _ _ _ _ rfl]; rfl
  have xx1_3 : (w6.alloc (Obj.cells #[Value.int .i64 a1_0, Value.int .i64 a1_1, Value.int .i64 a1_2, Value.slice (some ⟨b8, 0, none⟩) n1_3 n1_3, Value.int .i64 a1_4, Value.int .i64 a1_5, Value.int .i64 a1_6, Value.int .i64 a1_7, Value.int .i64 a1_8, Value.slice (some ⟨b9, 0, none⟩) n1_9 n1_9] 66)).cell? ⟨w6.heap.size, 3, none⟩ = some (.slice (some ⟨b8, 0, none⟩) n1_3 n1_3) := by rw [World.cell?_alloc_at _ _ _ _ rfl]; rfl
  have xx1_4 : (w6.alloc (Obj.cells #[Value.int .i64 a1_0, Value.int .i64 a1_1, Value.int .i64 a1_2, Value.slice (some ⟨b8, 0, none⟩) n1_3 n1_3, Value.int .i64 a1_4, Value.int .i64 a1_5, Value.int .i64 a1_6, Value.int .i64 a1_7, Value.int .i64 a1_8, Value.slice (some ⟨b9, 0, none⟩) n1_9 n1_9] 66)).cell? ⟨w6.heap.size, 4, none⟩ = some (.int .i64 a1_4) := by rw [World.cell?_alloc_at _ _ _ _ rfl]; rfl
  have xx1_5 : (w6.alloc (Obj.cells #[Value.int .i64 a1_0, Value.int .i64 a1_1, Value.int .i64 a1_2, Value.slice (some ⟨b8, 0, none⟩) n1_3 n1_3, Value.int .i64 a1_4, Value.int .i64 a1_5, Value.int .i64 a1_6, Value.int .i64 a1_7, Value.int .i64 a1_8, Value.slice (some ⟨b9, 0, none⟩) n1_9 n1_9] 66)).cell? ⟨w6.heap.size, 5, none⟩ = some (.int .i64 a1_5) := by rw [World.cell?_alloc_at _ _ _ _ rfl]; rfl
  have xx1_6 : (w6.alloc (Obj.cells #[Value.int .i64 a1_0, Value.int .i64 a1_1, Value.int .i64 a1_2, Value.slice (some ⟨b8, 0, none⟩) n1_3 n1_3, Value.int .i64 a1_4, Value.int .i64 a1_5, Value.int .i64 a1_6, Value.int .i64 a1_7, Value.int .i64 a1_8, Value.slice (some ⟨b9, 0, none⟩) n1_9 n1_9] 66)).cell? ⟨w6.heap.size, 6, none⟩ = some (.int .i64 a1_6) := by rw [World.cell?_alloc_at _ _ _ _ rfl]; rfl
  have xx1_7 : (w6.alloc (Obj.cells #[Value.int .i64 a1_0, Value.int .i64 a1_1, Value.int .i64 a1_2, Value.slice (some ⟨b8, 0, none⟩) n1_3 n1_3, Value.int .i64 a1_4, Value.int .i64 a1_5, Value.int .i64 a1_6, Value.int .i64 a1_7, Value.int .i64 a1_8, Value.slice (some ⟨b9, 0, none⟩) n1_9 n1_9] 66)).cell? ⟨w6.heap.size, 7, none⟩ = some (.int .i64 a1_7) := by rw [World.cell?_alloc_at _ _ _ _ rfl]; rfl
  have xx1_8 : (w6.alloc (Obj.cells #[Value.int .i64 a1_0, Value.int .i64 a1_1, Value.int .i64 a1_2, Value.slice (some ⟨b8, 0, none⟩) n1_3 n1_3, Value.int .i64 a1_4, Value.int .i64 a1_5, Value.int .i64 a1_6, Value.int .i64 a1_7, Value.int .i64 a1_8, Value.slice (some ⟨b9, 0, none⟩) n1_9 n1_9] 66)).cell? ⟨w6.heap.size, 8, none⟩ = some (.int .i64 a1_8) := by rw [World.cell?_alloc_at _ _ _ _ rfl]; rfl
  have xx1_9 : (w6.alloc (Obj.cells #[Value.int .i64 a1_0, Value.int .i64 a1_1, Value.int .i64 a1_2, Value.slice (some ⟨b8, 0, none⟩) n1_3 n1_3, Value.int .i64 a1_4, Value.int .i64 a1_5, Value.int .i64 a1_6, Value.int .i64 a1_7, Value.int .i64 a1_8, Value.slice (some ⟨b9, 0, none⟩) n1_9 n1_9] 66)).cell? ⟨w6.heap.size, 9, none⟩ = some (.slice (some ⟨b9, 0, none⟩) n1_9 n1_9) := by rw [World.cell?_alloc_at _ _ _ _ rfl]; rfl
  have m7 := Mk.alloc w6 (Obj.cells #[Value.int .i64 a1_0, Value.int .i64 a1_1, Value.int .i64 a1_2, Value.slice (some ⟨b8, 0, none⟩) n1_3 n1_3, Value.int .i64 a1_4, Value.int .i64 a1_5, Value.int .i64 a1_6, Value.int .i64 a1_7, Value.int .i64 a1_8, Value.slice (some ⟨b9, 0, none⟩) n1_9 n1_9] 66)
  replace k0_0 := m7.cellAt k0_0
  replace k0_1 := m7.cellAt k0_1
  replace k0_2 := m7.cellAt k0_2
  replace k0_3 := m7.cellAt k0_3
  replace k1_0 := m7.cellAt k1_0
  replace k1_1 := m7.cellAt k1_1
  replace k1_2 := m7.cellAt k1_2
  replace k1_3 := m7.cellAt k1_3
  replace k1_4 := m7.cellAt k1_4
  replace k1_5 := m7.cellAt k1_5
  replace k1_6 := m7.cellAt k1_6
  replace k1_7 := m7.cellAt k1_7
  replace k1_8 := m7.cellAt k1_8
  replace k1_9 := m7.cellAt k1_9
  replace xw0_0 := m7.cellAt xw0_0
  replace xw0_1 := m7.cellAt xw0_1
  replace xw0_2 := m7.cellAt xw0_2
  replace xw0_3 := m7.cellAt xw0_3
  replace xx0_0 := m7.cellAt xx0_0
  replace xx0_1 := m7.cellAt xx0_1
  replace xx0_2 := m7.cellAt xx0_2
  replace xx0_3 := m7.cellAt xx0_3
  replace h4 := h4.mk m7 (by omega) (.inr (Nat.le_refl _))
  replace h15 := h15.mk m7 (by omega) (.inr (Nat.le_refl _))
  replace h16 := h16.mk m7 (by omega) (.inr (Nat.le_refl _))
  replace o2 := o2.mk m7 (by omega) (.inr (.inr (Nat.le_refl _)))
  replace o11 := o11.mk m7 (by omega) (.inr (.inr (Nat.le_refl _)))
  replace o12 := o12.mk m7 (by omega) (.inr (.inr (Nat.le_refl _)))
  replace ow0 := ow0.mk m7 (by omega) (.inr (.inr (Nat.le_refl _)))
  have M7 := M6.trans m7
  have z7 := m7.size
  have zz7 : w6.heap.size < (w6.alloc (Obj.cells #[Value.int .i64 a1_0, Value.int .i64 a1_1, Value.int .i64 a1_2, Value.slice (some ⟨b8, 0, none⟩) n1_3 n1_3, Value.int .i64 a1_4, Value.int .i64 a1_5, Value.int .i64 a1_6, Value.int .i64 a1_7, Value.int .i64 a1_8, Value.slice (some ⟨b9, 0, none⟩) n1_9 n1_9] 66)).heap.size := by rw [World.size_alloc]; omega
  generalize (w6.alloc (Obj.cells #[Value.int .i64 a1_0, Value.int .i64 a1_1, Value.int .i64 a1_2, Value.slice (some ⟨b8, 0, none⟩) n1_3 n1_3, Value.int .i64 a1_4, Value.int .i64 a1_5, Value.int .i64 a1_6, Value.int .i64 a1_7, Value.int .i64 a1_8, Value.slice (some ⟨b9, 0, none⟩) n1_9 n1_9] 66)) = w7 at *
  have hN0_3 : szMessage z0_3 n0_3 ≤ 1048576 := by omega
  have hN1_3 : szPathPart z1_3 n1_3 ≤ 1048576 := by omega
  have hN1_9 : n1_9 ≤ 1048576 := by omega
  refine (implHData a0_0 a0_1 a0_2 _ _ _ _ z0_3 a1_0 a1_1 a1_2 a1_4 a1_5 a1_6 a1_7 a1_8 _ _ _ _ _ _ _ z1_9 _ h4 (by omega) hN0_3 h16 (by omega) hN1_9 (i64_of w0_2).1).mono ?_
  rintro e w8 ⟨A8, N8, C8, rfl, hc8, og0, m8⟩
  clear hc8
  obtain rfl : Nw0 = N8 := ow0.1.symm.trans og0.1
  have M8 := M7.trans m8
  have z8 := m8.size
  replace k0_0 := m8.cellAt k0_0
  replace k0_1 := m8.cellAt k0_1
  replace k0_2 := m8.cellAt k0_2
  replace k0_3 := m8.cellAt k0_3
  replace k1_0 := m8.cellAt k1_0
  replace k1_1 := m8.cellAt k1_1
  replace k1_2 := m8.cellAt k1_2
  replace k1_3 := m8.cellAt k1_3
  replace k1_4 := m8.cellAt k1_4
  replace k1_5 := m8.cellAt k1_5
  replace k1_6 := m8.cellAt k1_6
  replace k1_7 := m8.cellAt k1_7
  replace k1_8 := m8.cellAt k1_8
  replace k1_9 := m8.cellAt k1_9
  replace xw0_0 := m8.cellAt xw0_0
  replace xw0_1 := m8.cellAt xw0_1
  replace xw0_2 := m8.cellAt xw0_2
  replace xw0_3 := m8.cellAt xw0_3
  replace xx0_0 := m8.cellAt xx0_0
  replace xx0_1 := m8.cellAt xx0_1
  replace xx0_2 := m8.cellAt xx0_2
  replace xx0_3 := m8.cellAt xx0_3
  replace xx1_0 := m8.cellAt xx1_0
  replace xx1_1 := m8.cellAt xx1_1
  replace xx1_2 := m8.cellAt xx1_2
  replace xx1_3 := m8.cellAt xx1_3
  replace xx1_4 := m8.cellAt xx1_4
  replace xx1_5 := m8.cellAt xx1_5
  replace xx1_6 := m8.cellAt xx1_6
  replace xx1_7 := m8.cellAt xx1_7
  replace xx1_8 := m8.cellAt xx1_8
  replace xx1_9 := m8.cellAt xx1_9
  replace h4 := h4.mk m8 (by omega) (.inr (Nat.le_refl _))
  replace h15 := h15.mk m8 (by omega) (.inr (Nat.le_refl _))
  replace h16 := h16.mk m8 (by omega) (.inr (Nat.le_refl _))
  replace o2 := o2.mk m8 (by omega) (.inr (.inr (Nat.le_refl _)))
  replace o11 := o11.mk m8 (by omega) (.inr (.inr (Nat.le_refl _)))
  replace o12 := o12.mk m8 (by omega) (.inr (.inr (Nat.le_refl _)))
  replace ow0 := ow0.mk m8 (by omega) (.inr (.inr (Nat.le_refl _)))
  have yb21 : w.heap.size < w8.heap.size := by omega
  have yb22 : w.heap.size + 1 < w8.heap.size := by omega
  have yb23 : Bw0 < w8.heap.size := by omega
  have yb24 : w4.heap.size < w8.heap.size := by omega
  have yb25 : w6.heap.size < w8.heap.size := by omega
  go_wp2_with fail
  have xg0_0 : (w8.alloc (Obj.cells #[Value.int .i64 a0_0, Value.int .i64 a0_1, Value.int .i64 (nextV (hdB a0_0 a0_1 a0_2 a1_0 a1_1 a1_2 a1_8) a0_2), Value.slice A8 Nw0 C8] 59)).cell? ⟨w8.heap.size, 0, none⟩ = some (.int .i64 a0_0) := by rw [World.cell?_alloc_at _ _ _ _ rfl]; rfl
  have xg0_1 : (w8.alloc (Obj.cells #[Value.int .i64 a0_0, Value.int .i64 a0_1, Value.int .i64 (nextV (hdB a0_0 a0_1 a0_2 a1_0 a1_1 a1_2 a1_8) a0_2), Value.slice A8 Nw0 C8] 59)).cell? ⟨w8.heap.size, 1, none⟩ = some (.int .i64 a0_1) := by rw [World.cell?_alloc_at _ _ _ _ rfl]; rfl
  have xg0_2 : (w8.alloc (Obj.cells #[Value.int .i64 a0_0, Value.int .i64 a0_1, Value.int .i64 (nextV (hdB a0_0 a0_1 a0_2 a1_0 a1_1 a1_2 a1_8) a0_2), Value.slice A8 Nw0 C8] 59)).cell? ⟨w8.heap.size, 2, none⟩ = some (.int .i64 (nextV (hdB a0_0 a0_1 a0_2 a1_0 a1_1 a1_2 a1_8) a0_2)) := by rw [World.cell?_alloc_at _ _ _ _ rfl]; rfl
  have xg0_3 : (w8.alloc (Obj.cells #[Value.int .i64 a0_0, Value.int .i64 a0_1, Value.int .i64 (nextV (hdB a0_0 a0_1 a0_2 a1_0 a1_1 a1_2 a1_8) a0_2), Value.slice A8 Nw0 C8] 59)).cell? ⟨w8.heap.size, 3, none⟩ = some (.slice A8 Nw0 C8) := by rw [World.cell?_alloc_at _ _ _ _ rfl]; rfl
  have m9 := Mk.alloc w8 (Obj.cells #[Value.int .i64 a0_0, Value.int .i64 a0_1, Value.int .i64 (nextV (hdB a0_0 a0_1 a0_2 a1_0 a1_1 a1_2 a1_8) a0_2), Value.slice A8 Nw0 C8] 59)
  replace k0_0 := m9.cellAt k0_0
  replace k0_1 := m9.cellAt k0_1
  replace k0_2 := m9.cellAt k0_2
  replace k0_3 := m9.cellAt k0_3
  replace k1_0 := m9.cellAt k1_0
  replace k1_1 := m9.cellAt k1_1
  replace k1_2 := m9.cellAt k1_2
  replace k1_3 := m9.cellAt k1_3
  replace k1_4 := m9.cellAt k1_4
  replace k1_5 := m9.cellAt k1_5
  replace k1_6 := m9.cellAt k1_6
  replace k1_7 := m9.cellAt k1_7
  replace k1_8 := m9.cellAt k1_8
  replace k1_9 := m9.cellAt k1_9
  replace xw0_0 := m9.cellAt xw0_0
  replace xw0_1 := m9.cellAt xw0_1
  replace xw0_2 := m9.cellAt xw0_2
  replace xw0_3 := m9.cellAt xw0_3
  replace xx0_0 := m9.cellAt xx0_0
  replace xx0_1 := m9.cellAt xx0_1
  replace xx0_2 := m9.cellAt xx0_2
  replace xx0_3 := m9.cellAt xx0_3
  replace xx1_0 := m9.cellAt xx1_0
  replace xx1_1 := m9.cellAt xx1_1
  replace xx1_2 := m9.cellAt xx1_2
  replace xx1_3 := m9.cellAt xx1_3
  replace xx1_4 := m9.cellAt xx1_4
  replace xx1_5 := m9.cellAt xx1_5
  replace xx1_6 := m9.cellAt xx1_6
  replace xx1_7 := m9.cellAt xx1_7
  replace xx1_8 := m9.cellAt xx1_8
  replace xx1_9 := m9.cellAt xx1_9
  replace h4 := h4.mk m9 (by omega) (.inr (Nat.le_refl _))
  replace h15 := h15.mk m9 (by omega) (.inr (Nat.le_refl _))
  replace h16 := h16.mk m9 (by omega) (.inr (Nat.le_refl _))
  replace o2 := o2.mk m9 (by omega) (.inr (.inr (Nat.le_refl _)))
  replace o11 := o11.mk m9 (by omega) (.inr (.inr (Nat.le_refl _)))
  replace o12 := o12.mk m9 (by omega) (.inr (.inr (Nat.le_refl _)))
  replace ow0 := ow0.mk m9 (by omega) (.inr (.inr (Nat.le_refl _)))
  replace og0 := og0.mk m9 (by omega) (.inr (.inr (Nat.le_refl _)))
  have M9 := M8.trans m9
  have z9 := m9.size
  have zz9 : w8.heap.size < (w8.alloc (Obj.cells #[Value.int .i64 a0_0, Value.int .i64 a0_1, Value.int .i64 (nextV (hdB a0_0 a0_1 a0_2 a1_0 a1_1 a1_2 a1_8) a0_2), Value.slice A8 Nw0 C8] 59)).heap.size := by rw [World.size_alloc]; omega
  generalize (w8.alloc (Obj.cells #[Value.int .i64 a0_0, Value.int .i64 a0_1, Value.int .i64 (nextV (hdB a0_0 a0_1 a0_2 a1_0 a1_1 a1_2 a1_8) a0_2), Value.slice A8 Nw0 C8] 59)) = w9 at *
  clear hN0_3 hN1_3 hN1_9
  refine (eqInboxCB _ _ _ _ _ _ _ _ _ _ _ _ og0.hasMessage ow0.hasMessage (by omega) (by omega) hbw0).mono ?_
  rintro e w10 ⟨rfl, m10⟩
  have M10 := M9.trans m10
  have z10 := m10.size
  replace k0_0 := m10.cellAt k0_0
  replace k0_1 := m10.cellAt k0_1
  replace k0_2 := m10.cellAt k0_2
  replace k0_3 := m10.cellAt k0_3
  replace k1_0 := m10.cellAt k1_0
  replace k1_1 := m10.cellAt k1_1
  replace k1_2 := m10.cellAt k1_2
  replace k1_3 := m10.cellAt k1_3
  replace k1_4 := m10.cellAt k1_4
  replace k1_5 := m10.cellAt k1_5
  replace k1_6 := m10.cellAt k1_6
  replace k1_7 := m10.cellAt k1_7
  replace k1_8 := m10.cellAt k1_8
  replace k1_9 := m10.cellAt k1_9
  replace xw0_0 := m10.cellAt xw0_0
  replace xw0_1 := m10.cellAt xw0_1
  replace xw0_2 := m10.cellAt xw0_2
  replace xw0_3 := m10.cellAt xw0_3
  replace xx0_0 := m10.cellAt xx0_0
  replace xx0_1 := m10.cellAt xx0_1
  replace xx0_2 := m10.cellAt xx0_2
  replace xx0_3 := m10.cellAt xx0_3
  replace xx1_0 := m10.cellAt xx1_0
  replace xx1_1 := m10.cellAt xx1_1
  replace xx1_2 := m10.cellAt xx1_2
  replace xx1_3 := m10.cellAt xx1_3
  replace xx1_4 := m10.cellAt xx1_4
  replace xx1_5 := m10.cellAt xx1_5
  replace xx1_6 := m10.cellAt xx1_6
  replace xx1_7 := m10.cellAt xx1_7
  replace xx1_8 := m10.cellAt xx1_8
  replace xx1_9 := m10.cellAt xx1_9
  replace xg0_0 := m10.cellAt xg0_0
  replace xg0_1 := m10.cellAt xg0_1
  replace xg0_2 := m10.cellAt xg0_2
  replace xg0_3 := m10.cellAt xg0_3
  replace h4 := h4.mk m10 (by omega) (.inr (Nat.le_refl _))
  replace h15 := h15.mk m10 (by omega) (.inr (Nat.le_refl _))
  replace h16 := h16.mk m10 (by omega) (.inr (Nat.le_refl _))
  replace o2 := o2.mk m10 (by omega) (.inr (.inr (Nat.le_refl _)))
  replace o11 := o11.mk m10 (by omega) (.inr (.inr (Nat.le_refl _)))
  replace o12 := o12.mk m10 (by omega) (.inr (.inr (Nat.le_refl _)))
  replace ow0 := ow0.mk m10 (by omega) (.inr (.inr (Nat.le_refl _)))
  replace og0 := og0.mk m10 (by omega) (.inr (.inr (Nat.le_refl _)))
  go_wp2_with fail
  have e26 : ∀ w', Mk0 w10 w' → HasMessage w' w4.heap.size (some ⟨b1, 0, none⟩) n0_3 z0_3 := fun w' m => h4.mk m (by omega) (.inr (Nat.le_refl _))
  have e27 : ∀ w', Mk0 w10 w' → w4.heap.size ≤ w'.heap.size := fun w' m => Nat.le_trans (by omega) m.size
  have e28 : ∀ w', Mk0 w10 w' → HasMessage w' w.heap.size a0_3 n0_3 z0_3 := fun w' m => h0_3.mk (M10.trans m) (Nat.le_refl _) (.inr (Nat.le_refl _))
  have hN0_3 : szMessage z0_3 n0_3 ≤ 1048576 := by omega
  go_region_held3 (fun w' => Mk0 w10 w' ∧ w'.cell? ⟨w.heap.size, 0, none⟩ = some (.int .i64 a0_0) ∧ w'.cell? ⟨w.heap.size, 1, none⟩ = some (.int .i64 a0_1) ∧ w'.cell? ⟨w.heap.size, 2, none⟩ = some (.int .i64 a0_2) ∧ w'.cell? ⟨w.heap.size, 3, none⟩ = some (.slice a0_3 n0_3 c0_3) ∧ w'.cell? ⟨w.heap.size + 1, 0, none⟩ = some (.int .i64 a1_0) ∧ w'.cell? ⟨w.heap.size + 1, 1, none⟩ = some (.int .i64 a1_1) ∧ w'.cell? ⟨w.heap.size + 1, 2, none⟩ = some (.int .i64 a1_2) ∧ w'.cell? ⟨w.heap.size + 1, 3, none⟩ = some (.slice a1_3 n1_3 c1_3) ∧ w'.cell? ⟨w.heap.size + 1, 4, none⟩ = some (.int .i64 a1_4) ∧ w'.cell? ⟨w.heap.size + 1, 5, none⟩ = some (.int .i64 a1_5) ∧ w'.cell? ⟨w.heap.size + 1, 6, none⟩ = some (.int .i64 a1_6) ∧ w'.cell? ⟨w.heap.size + 1, 7, none⟩ = some (.int .i64 a1_7) ∧ w'.cell? ⟨w.heap.size + 1, 8, none⟩ = some (.int .i64 a1_8) ∧ w'.cell? ⟨w.heap.size + 1, 9, none⟩ = some (.slice a1_9 n1_9 c1_9) ∧ w'.cell? ⟨Bw0, 0, none⟩ = some (.int .i64 a0_0) ∧ w'.cell? ⟨Bw0, 1, none⟩ = some (.int .i64 a0_1) ∧ w'.cell? ⟨Bw0, 2, none⟩ = some (.int .i64 (nextV (hdB a0_0 a0_1 a0_2 a1_0 a1_1 a1_2 a1_8) a0_2)) ∧ w'.cell? ⟨Bw0, 3, none⟩ = some (.slice Aw0 Nw0 Cw0) ∧ w'.cell? ⟨w4.heap.size, 0, none⟩ = some (.int .i64 a0_0) ∧ w'.cell? ⟨w4.heap.size, 1, none⟩ = some (.int .i64 a0_1) ∧ w'.cell? ⟨w4.heap.size, 2, none⟩ = some (.int .i64 a0_2) ∧ w'.cell? ⟨w4.heap.size, 3, none⟩ = some (.slice (some ⟨b1, 0, none⟩) n0_3 n0_3) ∧ w'.cell? ⟨w6.heap.size, 0, none⟩ = some (.int .i64 a1_0) ∧ w'.cell? ⟨w6.heap.size, 1, none⟩ = some (.int .i64 a1_1) ∧ w'.cell? ⟨w6.heap.size, 2, none⟩ = some (.int .i64 a1_2) ∧ w'.cell? ⟨w6.heap.size, 3, none⟩ = some (.slice (some ⟨b8, 0, none⟩) n1_3 n1_3) ∧ w'.cell? ⟨w6.heap.size, 4, none⟩ = some (.int .i64 a1_4) ∧ w'.cell? ⟨w6.heap.size, 5, none⟩ = some (.int .i64 a1_5) ∧ w'.cell? ⟨w6.heap.size, 6, none⟩ = some (.int .i64 a1_6) ∧ w'.cell? ⟨w6.heap.size, 7, none⟩ = some (.int .i64 a1_7) ∧ w'.cell? ⟨w6.heap.size, 8, none⟩ = some (.int .i64 a1_8) ∧ w'.cell? ⟨w6.heap.size, 9, none⟩ = some (.slice (some ⟨b9, 0, none⟩) n1_9 n1_9) ∧ w'.cell? ⟨w8.heap.size, 0, none⟩ = some (.int .i64 a0_0) ∧ w'.cell? ⟨w8.heap.size, 1, none⟩ = some (.int .i64 a0_1) ∧ w'.cell? ⟨w8.heap.size, 2, none⟩ = some (.int .i64 (nextV (hdB a0_0 a0_1 a0_2 a1_0 a1_1 a1_2 a1_8) a0_2)) ∧ w'.cell? ⟨w8.heap.size, 3, none⟩ = some (.slice A8 Nw0 C8)) (first | exact ⟨Mk.drew1 _, k0_0, k0_1, k0_2, k0_3, k1_0, k1_1, k1_2, k1_3, k1_4, k1_5, k1_6, k1_7, k1_8, k1_9, xw0_0, xw0_1, xw0_2, xw0_3, xx0_0, xx0_1, xx0_2, xx0_3, xx1_0, xx1_1, xx1_2, xx1_3, xx1_4, xx1_5, xx1_6, xx1_7, xx1_8, xx1_9, xg0_0, xg0_1, xg0_2, xg0_3⟩ | (obtain ⟨s0, s1, s2, s3, s4, s5, s6, s7, s8, s9, s10, s11, s12, s13, s14, s15, s16, s17, s18, s19, s20, s21, s22, s23, s24, s25, s26, s27, s28, s29, s30, s31, s32, s33, s34, s35, s36⟩ := ‹Mk0 w10 _ ∧ _›; exact ⟨s0.trans mm, mm.cellAt s1, mm.cellAt s2, mm.cellAt s3, mm.cellAt s4, mm.cellAt s5, mm.cellAt s6, mm.cellAt s7, mm.cellAt s8, mm.cellAt s9, mm.cellAt s10, mm.cellAt s11, mm.cellAt s12, mm.cellAt s13, mm.cellAt s14, mm.cellAt s15, mm.cellAt s16, mm.cellAt s17, mm.cellAt s18, mm.cellAt s19, mm.cellAt s20, mm.cellAt s21, mm.cellAt s22, mm.cellAt s23, mm.cellAt s24, mm.cellAt s25, mm.cellAt s26, mm.cellAt s27, mm.cellAt s28, mm.cellAt s29, mm.cellAt s30, mm.cellAt s31, mm.cellAt s32, mm.cellAt s33, mm.cellAt s34, mm.cellAt s35, mm.cellAt s36⟩)) (first | (go_at_call 28; refine (toInboxC _ _ _ _ _ _ _ w.heap.size _ (e28 _ (‹Mk0 w10 _ ∧ _›).1) (M10.trans (‹Mk0 w10 _ ∧ _›).1).size hN0_3).mono ?_; rintro e wa ⟨bb0, rfl, oo0, gg0, mm⟩) | (go_at_call 31; refine (eqInboxC _ _ _ _ _ _ _ _ _ _ _ _ (e26 _ (‹Mk0 w10 _ ∧ _›).1) (oo0.has.mono (Nat.le_refl _)) (e27 _ (‹Mk0 w10 _ ∧ _›).1) (Nat.le_refl _) hN0_3).mono ?_; rintro e wb11 ⟨rfl, mm⟩))
  obtain ⟨m11, k0_0, k0_1, k0_2, k0_3, k1_0, k1_1, k1_2, k1_3, k1_4, k1_5, k1_6, k1_7, k1_8, k1_9, xw0_0, xw0_1, xw0_2, xw0_3, xx0_0, xx0_1, xx0_2, xx0_3, xx1_0, xx1_1, xx1_2, xx1_3, xx1_4, xx1_5, xx1_6, xx1_7, xx1_8, xx1_9, xg0_0, xg0_1, xg0_2, xg0_3⟩ := ‹Mk0 w10 _ ∧ _›
  clear e26 e27 e28 hN0_3
  refine ‹∀ (a : Act) (w : World), _ → _› _ _ ?_
  have M11 := M10.trans m11
  have z11 := m11.size
  replace h4 := h4.mk m11 (by omega) (.inr (Nat.le_refl _))
  replace h15 := h15.mk m11 (by omega) (.inr (Nat.le_refl _))
  replace h16 := h16.mk m11 (by omega) (.inr (Nat.le_refl _))
  replace o2 := o2.mk m11 (by omega) (.inr (.inr (Nat.le_refl _)))
  replace o11 := o11.mk m11 (by omega) (.inr (.inr (Nat.le_refl _)))
  replace o12 := o12.mk m11 (by omega) (.inr (.inr (Nat.le_refl _)))
  replace ow0 := ow0.mk m11 (by omega) (.inr (.inr (Nat.le_refl _)))
  replace og0 := og0.mk m11 (by omega) (.inr (.inr (Nat.le_refl _)))
  go_wp2_with fail
  have e29 : ∀ w', Mk0 wb11 w' → HasPathPart w' w6.heap.size (some ⟨b8, 0, none⟩) n1_3 z1_3 := fun w' m => h15.mk m (by omega) (.inr (Nat.le_refl _))
  have e30 : ∀ w', Mk0 wb11 w' → HasByte w' w6.heap.size (some ⟨b9, 0, none⟩) n1_9 z1_9 := fun w' m => h16.mk m (by omega) (.inr (Nat.le_refl _))
  have e31 : ∀ w', Mk0 wb11 w' → w6.heap.size ≤ w'.heap.size := fun w' m => Nat.le_trans (by omega) m.size
  have e32 : ∀ w', Mk0 wb11 w' → HasPathPart w' w.heap.size a1_3 n1_3 z1_3 := fun w' m => h1_3.mk (M11.trans m) (Nat.le_refl _) (.inr (Nat.le_refl _))
  have e33 : ∀ w', Mk0 wb11 w' → HasByte w' w.heap.size a1_9 n1_9 z1_9 := fun w' m => h1_9.mk (M11.trans m) (Nat.le_refl _) (.inr (Nat.le_refl _))
  have hN1_3 : szPathPart z1_3 n1_3 ≤ 1048576 := by omega
  have hN1_9 : n1_9 ≤ 1048576 := by omega
  go_region_held3 (fun w' => Mk0 wb11 w' ∧ w'.cell? ⟨w.heap.size, 0, none⟩ = some (.int .i64 a0_0) ∧ w'.cell? ⟨w.heap.size, 1, none⟩ = some (.int .i64 a0_1) ∧ w'.cell? ⟨w.heap.size, 2, none⟩ = some (.int .i64 a0_2) ∧ w'.cell? ⟨w.heap.size, 3, none⟩ = some (.slice a0_3 n0_3 c0_3) ∧ w'.cell? ⟨w.heap.size + 1, 0, none⟩ = some (.int .i64 a1_0) ∧ w'.cell? ⟨w.heap.size + 1, 1, none⟩ = some (.int .i64 a1_1) ∧ w'.cell? ⟨w.heap.size + 1, 2, none⟩ = some (.int .i64 a1_2) ∧ w'.cell? ⟨w.heap.size + 1, 3, none⟩ = some (.slice a1_3 n1_3 c1_3) ∧ w'.cell? ⟨w.heap.size + 1, 4, none⟩ = some (.int .i64 a1_4) ∧ w'.cell? ⟨w.heap.size + 1, 5, none⟩ = some (.int .i64 a1_5) ∧ w'.cell? ⟨w.heap.size + 1, 6, none⟩ = some (.int .i64 a1_6) ∧ w'.cell? ⟨w.heap.size + 1, 7, none⟩ = some (.int .i64 a1_7) ∧ w'.cell? ⟨w.heap.size + 1, 8, none⟩ = some (.int .i64 a1_8) ∧ w'.cell? ⟨w.heap.size + 1, 9, none⟩ = some (.slice a1_9 n1_9 c1_9) ∧ w'.cell? ⟨Bw0, 0, none⟩ = some (.int .i64 a0_0) ∧ w'.cell? ⟨Bw0, 1, none⟩ = some (.int .i64 a0_1) ∧ w'.cell? ⟨Bw0, 2, none⟩ = some (.int .i64 (nextV (hdB a0_0 a0_1 a0_2 a1_0 a1_1 a1_2 a1_8) a0_2)) ∧ w'.cell? ⟨Bw0, 3, none⟩ = some (.slice Aw0 Nw0 Cw0) ∧ w'.cell? ⟨w4.heap.size, 0, none⟩ = some (.int .i64 a0_0) ∧ w'.cell? ⟨w4.heap.size, 1, none⟩ = some (.int .i64 a0_1) ∧ w'.cell? ⟨w4.heap.size, 2, none⟩ = some (.int .i64 a0_2) ∧ w'.cell? ⟨w4.heap.size, 3, none⟩ = some (.slice (some ⟨b1, 0, none⟩) n0_3 n0_3) ∧ w'.cell? ⟨w6.heap.size, 0, none⟩ = some (.int .i64 a1_0) ∧ w'.cell? ⟨w6.heap.size, 1, none⟩ = some (.int .i64 a1_1) ∧ w'.cell? ⟨w6.heap.size, 2, none⟩ = some (.int .i64 a1_2) ∧ w'.cell? ⟨w6.heap.size, 3, none⟩ = some (.slice (some ⟨b8, 0, none⟩) n1_3 n1_3) ∧ w'.cell? ⟨w6.heap.size, 4, none⟩ = some (.int .i64 a1_4) ∧ w'.cell? ⟨w6.heap.size, 5, none⟩ = some (.int .i64 a1_5) ∧ w'.cell? ⟨w6.heap.size, 6, none⟩ = some (.int .i64 a1_6) ∧ w'.cell? ⟨w6.heap.size, 7, none⟩ = some (.int .i64 a1_7) ∧ w'.cell? ⟨w6.heap.size, 8, none⟩ = some (.int .i64 a1_8) ∧ w'.cell? ⟨w6.heap.size, 9, none⟩ = some (.slice (some ⟨b9, 0, none⟩) n1_9 n1_9) ∧ w'.cell? ⟨w8.heap.size, 0, none⟩ = some (.int .i64 a0_0) ∧ w'.cell? ⟨w8.heap.size, 1, none⟩ = some (.int .i64 a0_1) ∧ w'.cell? ⟨w8.heap.size, 2, none⟩ = some (.int .i64 (nextV (hdB a0_0 a0_1 a0_2 a1_0 a1_1 a1_2 a1_8) a0_2)) ∧ w'.cell? ⟨w8.heap.size, 3, none⟩ = some (.slice A8 Nw0 C8)) (first | exact ⟨Mk.drew1 _, k0_0, k0_1, k0_2, k0_3, k1_0, k1_1, k1_2, k1_3, k1_4, k1_5, k1_6, k1_7, k1_8, k1_9, xw0_0, xw0_1, xw0_2, xw0_3, xx0_0, xx0_1, xx0_2, xx0_3, xx1_0, xx1_1, xx1_2, xx1_3, xx1_4, xx1_5, xx1_6, xx1_7, xx1_8, xx1_9, xg0_0, xg0_1, xg0_2, xg0_3⟩ | (obtain ⟨s0, s1, s2, s3, s4, s5, s6, s7, s8, s9, s10, s11, s12, s13, s14, s15, s16, s17, s18, s19, s20, s21, s22, s23, s24, s25, s26, s27, s28, s29, s30, s31, s32, s33, s34, s35, s36⟩ := ‹Mk0 wb11 _ ∧ _›; exact ⟨s0.trans mm, mm.cellAt s1, mm.cellAt s2, mm.cellAt s3, mm.cellAt s4, mm.cellAt s5, mm.cellAt s6, mm.cellAt s7, mm.cellAt s8, mm.cellAt s9, mm.cellAt s10, mm.cellAt s11, mm.cellAt s12, mm.cellAt s13, mm.cellAt s14, mm.cellAt s15, mm.cellAt s16, mm.cellAt s17, mm.cellAt s18, mm.cellAt s19, mm.cellAt s20, mm.cellAt s21, mm.cellAt s22, mm.cellAt s23, mm.cellAt s24, mm.cellAt s25, mm.cellAt s26, mm.cellAt s27, mm.cellAt s28, mm.cellAt s29, mm.cellAt s30, mm.cellAt s31, mm.cellAt s32, mm.cellAt s33, mm.cellAt s34, mm.cellAt s35, mm.cellAt s36⟩)) (first | (go_at_call 29; refine (toPacketC _ _ _ _ _ _ _ _ _ _ _ _ _ _ _ _ w.heap.size _ (e32 _ (‹Mk0 wb11 _ ∧ _›).1) (e33 _ (‹Mk0 wb11 _ ∧ _›).1) (M11.trans (‹Mk0 wb11 _ ∧ _›).1).size hN1_3 hN1_9).mono ?_; rintro e wa ⟨bb0, bb1, dd0, rfl, oo0, oo1, gg0, gg1, mm⟩) | (go_at_call 32; refine (eqPacketC _ _ _ _ _ _ _ _ _ _ _ _ _ _ _ _ _ _ _ _ _ _ _ (e29 _ (‹Mk0 wb11 _ ∧ _›).1) (e30 _ (‹Mk0 wb11 _ ∧ _›).1) (oo0.has.mono gg1) (oo1.has.mono (Nat.le_refl _)) (e31 _ (‹Mk0 wb11 _ ∧ _›).1) (Nat.le_refl _) hN1_3 hN1_9).mono ?_; rintro e wb12 ⟨rfl, mm⟩))
  obtain ⟨m12, k0_0, k0_1, k0_2, k0_3, k1_0, k1_1, k1_2, k1_3, k1_4, k1_5, k1_6, k1_7, k1_8, k1_9, xw0_0, xw0_1, xw0_2, xw0_3, xx0_0, xx0_1, xx0_2, xx0_3, xx1_0, xx1_1, xx1_2, xx1_3, xx1_4, xx1_5, xx1_6, xx1_7, xx1_8, xx1_9, xg0_0, xg0_1, xg0_2, xg0_3⟩ := ‹Mk0 wb11 _ ∧ _›
  clear e29 e30 e31 e32 e33 hN1_3 hN1_9
  refine ‹∀ (a : Act) (w : World), _ → _› _ _ ?_
  have M12 := M11.trans m12
  have z12 := m12.size
  replace h4 := h4.mk m12 (by omega) (.inr (Nat.le_refl _))
  replace h15 := h15.mk m12 (by omega) (.inr (Nat.le_refl _))
  replace h16 := h16.mk m12 (by omega) (.inr (Nat.le_refl _))
  replace o2 := o2.mk m12 (by omega) (.inr (.inr (Nat.le_refl _)))
  replace o11 := o11.mk m12 (by omega) (.inr (.inr (Nat.le_refl _)))
  replace o12 := o12.mk m12 (by omega) (.inr (.inr (Nat.le_refl _)))
  replace ow0 := ow0.mk m12 (by omega) (.inr (.inr (Nat.le_refl _)))
  replace og0 := og0.mk m12 (by omega) (.inr (.inr (Nat.le_refl _)))
  go_wp2_with fail
  clear h4
  clear h15 h16
  refine (markInboxC _ _ _ _ _ _ _ w3.heap.size w4.heap.size _ _ o2 (by omega) (by omega) (by omega) (by omega) (by omega)).mono ?_
  rintro e w13 ⟨l13, hl13, rfl, m13⟩
  have M13 := M12.andR m13 (.inl (by omega))
  have z13 := m13.size
  replace k0_0 := m13.cellAtR k0_0 (by omega)
  replace k0_1 := m13.cellAtR k0_1 (by omega)
  replace k0_2 := m13.cellAtR k0_2 (by omega)
  replace k0_3 := m13.cellAtR k0_3 (by omega)
  replace k1_0 := m13.cellAtR k1_0 (by omega)
  replace k1_1 := m13.cellAtR k1_1 (by omega)
  replace k1_2 := m13.cellAtR k1_2 (by omega)
  replace k1_3 := m13.cellAtR k1_3 (by omega)
  replace k1_4 := m13.cellAtR k1_4 (by omega)
  replace k1_5 := m13.cellAtR k1_5 (by omega)
  replace k1_6 := m13.cellAtR k1_6 (by omega)
  replace k1_7 := m13.cellAtR k1_7 (by omega)
  replace k1_8 := m13.cellAtR k1_8 (by omega)
  replace k1_9 := m13.cellAtR k1_9 (by omega)
  replace xw0_0 := m13.cellAtR xw0_0 (by omega)
  replace xw0_1 := m13.cellAtR xw0_1 (by omega)
  replace xw0_2 := m13.cellAtR xw0_2 (by omega)
  replace xw0_3 := m13.cellAtR xw0_3 (by omega)
  replace xx0_0 := m13.cellAtR xx0_0 (by omega)
  replace xx0_1 := m13.cellAtR xx0_1 (by omega)
  replace xx0_2 := m13.cellAtR xx0_2 (by omega)
  replace xx0_3 := m13.cellAtR xx0_3 (by omega)
  replace xx1_0 := m13.cellAtR xx1_0 (by omega)
  replace xx1_1 := m13.cellAtR xx1_1 (by omega)
  replace xx1_2 := m13.cellAtR xx1_2 (by omega)
  replace xx1_3 := m13.cellAtR xx1_3 (by omega)
  replace xx1_4 := m13.cellAtR xx1_4 (by omega)
  replace xx1_5 := m13.cellAtR xx1_5 (by omega)
  replace xx1_6 := m13.cellAtR xx1_6 (by omega)
  replace xx1_7 := m13.cellAtR xx1_7 (by omega)
  replace xx1_8 := m13.cellAtR xx1_8 (by omega)
  replace xx1_9 := m13.cellAtR xx1_9 (by omega)
  replace xg0_0 := m13.cellAtR xg0_0 (by omega)
  replace xg0_1 := m13.cellAtR xg0_1 (by omega)
  replace xg0_2 := m13.cellAtR xg0_2 (by omega)
  replace xg0_3 := m13.cellAtR xg0_3 (by omega)
  replace o11 := o11.mk m13 (by omega) (by omega)
  replace o12 := o12.mk m13 (by omega) (by omega)
  replace ow0 := ow0.mk m13 (by omega) (by omega)
  replace og0 := og0.mk m13 (by omega) (by omega)
  go_wp2_with fail
  refine (markPacketC _ _ _ _ _ _ _ _ _ _ _ _ _ _ _ _ w5.heap.size d10 w6.heap.size _ _ o11 o12 (by omega) (by omega) (by omega) (by omega) (by omega) (by omega) (by omega)).mono ?_
  rintro e w14 ⟨l14, hl14, rfl, m14⟩
  have M14 := M13.andR m14 (.inl (by omega))
  have z14 := m14.size
  replace k0_0 := m14.cellAtR k0_0 (by omega)
  replace k0_1 := m14.cellAtR k0_1 (by omega)
  replace k0_2 := m14.cellAtR k0_2 (by omega)
  replace k0_3 := m14.cellAtR k0_3 (by omega)
  replace k1_0 := m14.cellAtR k1_0 (by omega)
  replace k1_1 := m14.cellAtR k1_1 (by omega)
  replace k1_2 := m14.cellAtR k1_2 (by omega)
  replace k1_3 := m14.cellAtR k1_3 (by omega)
  replace k1_4 := m14.cellAtR k1_4 (by omega)
  replace k1_5 := m14.cellAtR k1_5 (by omega)
  replace k1_6 := m14.cellAtR k1_6 (by omega)
  replace k1_7 := m14.cellAtR k1_7 (by omega)
  replace k1_8 := m14.cellAtR k1_8 (by omega)
  replace k1_9 := m14.cellAtR k1_9 (by omega)
  replace xw0_0 := m14.cellAtR xw0_0 (by omega)
  replace xw0_1 := m14.cellAtR xw0_1 (by omega)
  replace xw0_2 := m14.cellAtR xw0_2 (by omega)
  replace xw0_3 := m14.cellAtR xw0_3 (by omega)
  replace xx0_0 := m14.cellAtR xx0_0 (by omega)
  replace xx0_1 := m14.cellAtR xx0_1 (by omega)
  replace xx0_2 := m14.cellAtR xx0_2 (by omega)
  replace xx0_3 := m14.cellAtR xx0_3 (by omega)
  replace xx1_0 := m14.cellAtR xx1_0 (by omega)
  replace xx1_1 := m14.cellAtR xx1_1 (by omega)
  replace xx1_2 := m14.cellAtR xx1_2 (by omega)
  replace xx1_3 := m14.cellAtR xx1_3 (by omega)
  replace xx1_4 := m14.cellAtR xx1_4 (by omega)
  replace xx1_5 := m14.cellAtR xx1_5 (by omega)
  replace xx1_6 := m14.cellAtR xx1_6 (by omega)
  replace xx1_7 := m14.cellAtR xx1_7 (by omega)
  replace xx1_8 := m14.cellAtR xx1_8 (by omega)
  replace xx1_9 := m14.cellAtR xx1_9 (by omega)
  replace xg0_0 := m14.cellAtR xg0_0 (by omega)
  replace xg0_1 := m14.cellAtR xg0_1 (by omega)
  replace xg0_2 := m14.cellAtR xg0_2 (by omega)
  replace xg0_3 := m14.cellAtR xg0_3 (by omega)
  replace ow0 := ow0.mk m14 (by omega) (by omega)
  replace og0 := og0.mk m14 (by omega) (by omega)
  go_wp2_with fail
  refine (eqInboxCB _ _ _ _ _ _ _ _ _ _ _ _ og0.hasMessage ow0.hasMessage (by omega) (by omega) hbw0).mono ?_
  rintro e w15 ⟨rfl, m15⟩
  have M15 := M14.trans m15
  have z15 := m15.size
  replace k0_0 := m15.cellAt k0_0
  replace k0_1 := m15.cellAt k0_1
  replace k0_2 := m15.cellAt k0_2
  replace k0_3 := m15.cellAt k0_3
  replace k1_0 := m15.cellAt k1_0
  replace k1_1 := m15.cellAt k1_1
  replace k1_2 := m15.cellAt k1_2
  replace k1_3 := m15.cellAt k1_3
  replace k1_4 := m15.cellAt k1_4
  replace k1_5 := m15.cellAt k1_5
  replace k1_6 := m15.cellAt k1_6
  replace k1_7 := m15.cellAt k1_7
  replace k1_8 := m15.cellAt k1_8
  replace k1_9 := m15.cellAt k1_9
  replace xw0_0 := m15.cellAt xw0_0
  replace xw0_1 := m15.cellAt xw0_1
  replace xw0_2 := m15.cellAt xw0_2
  replace xw0_3 := m15.cellAt xw0_3
  replace xx0_0 := m15.cellAt xx0_0
  replace xx0_1 := m15.cellAt xx0_1
  replace xx0_2 := m15.cellAt xx0_2
  replace xx0_3 := m15.cellAt xx0_3
  replace xx1_0 := m15.cellAt xx1_0
  replace xx1_1 := m15.cellAt xx1_1
  replace xx1_2 := m15.cellAt xx1_2
  replace xx1_3 := m15.cellAt xx1_3
  replace xx1_4 := m15.cellAt xx1_4
  replace xx1_5 := m15.cellAt xx1_5
  replace xx1_6 := m15.cellAt xx1_6
  replace xx1_7 := m15.cellAt xx1_7
  replace xx1_8 := m15.cellAt xx1_8
  replace xx1_9 := m15.cellAt xx1_9
  replace xg0_0 := m15.cellAt xg0_0
  replace xg0_1 := m15.cellAt xg0_1
  replace xg0_2 := m15.cellAt xg0_2
  replace xg0_3 := m15.cellAt xg0_3
  replace ow0 := ow0.mk m15 (by omega) (.inr (.inr (Nat.le_refl _)))
  replace og0 := og0.mk m15 (by omega) (.inr (.inr (Nat.le_refl _)))
  go_wp2_with fail
  refine (markInboxN _ _ _ _ _ _ w7.heap.size w8.heap.size _ _ _ og0 (by omega) (by omega) hbw0t (by omega) (by omega)).mono ?_
  rintro e w16 ⟨rfl, oo16, m16⟩
  replace og0 := oo16
  clear oo16
  have M16 := M15.andR m16 (.inl (by omega))
  have z16 := m16.size
  replace k0_0 := m16.cellAtR k0_0 (by omega)
  replace k0_1 := m16.cellAtR k0_1 (by omega)
  replace k0_2 := m16.cellAtR k0_2 (by omega)
  replace k0_3 := m16.cellAtR k0_3 (by omega)
  replace k1_0 := m16.cellAtR k1_0 (by omega)
  replace k1_1 := m16.cellAtR k1_1 (by omega)
  replace k1_2 := m16.cellAtR k1_2 (by omega)
  replace k1_3 := m16.cellAtR k1_3 (by omega)
  replace k1_4 := m16.cellAtR k1_4 (by omega)
  replace k1_5 := m16.cellAtR k1_5 (by omega)
  replace k1_6 := m16.cellAtR k1_6 (by omega)
  replace k1_7 := m16.cellAtR k1_7 (by omega)
  replace k1_8 := m16.cellAtR k1_8 (by omega)
  replace k1_9 := m16.cellAtR k1_9 (by omega)
  replace xw0_0 := m16.cellAtR xw0_0 (by omega)
  replace xw0_1 := m16.cellAtR xw0_1 (by omega)
  replace xw0_2 := m16.cellAtR xw0_2 (by omega)
  replace xw0_3 := m16.cellAtR xw0_3 (by omega)
  replace xx0_0 := m16.cellAtR xx0_0 (by omega)
  replace xx0_1 := m16.cellAtR xx0_1 (by omega)
  replace xx0_2 := m16.cellAtR xx0_2 (by omega)
  replace xx0_3 := m16.cellAtR xx0_3 (by omega)
  replace xx1_0 := m16.cellAtR xx1_0 (by omega)
  replace xx1_1 := m16.cellAtR xx1_1 (by omega)
  replace xx1_2 := m16.cellAtR xx1_2 (by omega)
  replace xx1_3 := m16.cellAtR xx1_3 (by omega)
  replace xx1_4 := m16.cellAtR xx1_4 (by omega)
  replace xx1_5 := m16.cellAtR xx1_5 (by omega)
  replace xx1_6 := m16.cellAtR xx1_6 (by omega)
  replace xx1_7 := m16.cellAtR xx1_7 (by omega)
  replace xx1_8 := m16.cellAtR xx1_8 (by omega)
  replace xx1_9 := m16.cellAtR xx1_9 (by omega)
  replace xg0_0 := m16.cellAtR xg0_0 (by omega)
  replace xg0_1 := m16.cellAtR xg0_1 (by omega)
  replace xg0_2 := m16.cellAtR xg0_2 (by omega)
  replace xg0_3 := m16.cellAtR xg0_3 (by omega)
  replace ow0 := ow0.mk m16 (by omega) (by omega)
  go_wp2_with fail
  refine (heldInboxN _ _ _ _ _ _ _ _ (moreL (hdB a0_0 a0_1 a0_2 a1_0 a1_1 a1_2 a1_8) z0_3 ⟨z1_9⟩) _ og0.hasMessage (by omega) (by omega) hbw0t (by omega) (by omega)).mono ?_
  rintro e w17 ⟨rfl, m17⟩
  have M17 := M16.trans m17
  have z17 := m17.size
  replace k0_0 := m17.cellAt k0_0
  replace k0_1 := m17.cellAt k0_1
  replace k0_2 := m17.cellAt k0_2
  replace k0_3 := m17.cellAt k0_3
  replace k1_0 := m17.cellAt k1_0
  replace k1_1 := m17.cellAt k1_1
  replace k1_2 := m17.cellAt k1_2
  replace k1_3 := m17.cellAt k1_3
  replace k1_4 := m17.cellAt k1_4
  replace k1_5 := m17.cellAt k1_5
  replace k1_6 := m17.cellAt k1_6
  replace k1_7 := m17.cellAt k1_7
  replace k1_8 := m17.cellAt k1_8
  replace k1_9 := m17.cellAt k1_9
  replace xw0_0 := m17.cellAt xw0_0
  replace xw0_1 := m17.cellAt xw0_1
  replace xw0_2 := m17.cellAt xw0_2
  replace xw0_3 := m17.cellAt xw0_3
  replace xx0_0 := m17.cellAt xx0_0
  replace xx0_1 := m17.cellAt xx0_1
  replace xx0_2 := m17.cellAt xx0_2
  replace xx0_3 := m17.cellAt xx0_3
  replace xx1_0 := m17.cellAt xx1_0
  replace xx1_1 := m17.cellAt xx1_1
  replace xx1_2 := m17.cellAt xx1_2
  replace xx1_3 := m17.cellAt xx1_3
  replace xx1_4 := m17.cellAt xx1_4
  replace xx1_5 := m17.cellAt xx1_5
  replace xx1_6 := m17.cellAt xx1_6
  replace xx1_7 := m17.cellAt xx1_7
  replace xx1_8 := m17.cellAt xx1_8
  replace xx1_9 := m17.cellAt xx1_9
  replace xg0_0 := m17.cellAt xg0_0
  replace xg0_1 := m17.cellAt xg0_1
  replace xg0_2 := m17.cellAt xg0_2
  replace xg0_3 := m17.cellAt xg0_3
  replace ow0 := ow0.mk m17 (by omega) (.inr (.inr (Nat.le_refl _)))
  replace og0 := og0.mk m17 (by omega) (.inr (.inr (Nat.le_refl _)))
  go_wp2_with fail
  have yr18_0 : w.heap.size < w17.heap.size := by omega
  have yr18_1 : w.heap.size + 1 < w17.heap.size := by omega
  have yr18_2 : Bw0 < w17.heap.size := by omega
  have yr18_3 : w4.heap.size < w17.heap.size := by omega
  have yr18_4 : w6.heap.size < w17.heap.size := by omega
  have yr18_5 : w8.heap.size < w17.heap.size := by omega
  have hN0_3 : szMessage z0_3 n0_3 ≤ 1048576 := by omega
  have hN1_3 : szPathPart z1_3 n1_3 ≤ 1048576 := by omega
  have hN1_9 : n1_9 ≤ 1048576 := by omega
  refine wp_region_fg (fun (g : Bxs) w' => (Mk0 w17 w' ∧ w'.cell? ⟨w.heap.size, 0, none⟩ = some (.int .i64 a0_0) ∧ w'.cell? ⟨w.heap.size, 1, none⟩ = some (.int .i64 a0_1) ∧ w'.cell? ⟨w.heap.size, 2, none⟩ = some (.int .i64 a0_2) ∧ w'.cell? ⟨w.heap.size, 3, none⟩ = some (.slice a0_3 n0_3 c0_3) ∧ w'.cell? ⟨w.heap.size + 1, 0, none⟩ = some (.int .i64 a1_0) ∧ w'.cell? ⟨w.heap.size + 1, 1, none⟩ = some (.int .i64 a1_1) ∧ w'.cell? ⟨w.heap.size + 1, 2, none⟩ = some (.int .i64 a1_2) ∧ w'.cell? ⟨w.heap.size + 1, 3, none⟩ = some (.slice a1_3 n1_3 c1_3) ∧ w'.cell? ⟨w.heap.size + 1, 4, none⟩ = some (.int .i64 a1_4) ∧ w'.cell? ⟨w.heap.size + 1, 5, none⟩ = some (.int .i64 a1_5) ∧ w'.cell? ⟨w.heap.size + 1, 6, none⟩ = some (.int .i64 a1_6) ∧ w'.cell? ⟨w.heap.size + 1, 7, none⟩ = some (.int .i64 a1_7) ∧ w'.cell? ⟨w.heap.size + 1, 8, none⟩ = some (.int .i64 a1_8) ∧ w'.cell? ⟨w.heap.size + 1, 9, none⟩ = some (.slice a1_9 n1_9 c1_9) ∧ w'.cell? ⟨Bw0, 0, none⟩ = some (.int .i64 a0_0) ∧ w'.cell? ⟨Bw0, 1, none⟩ = some (.int .i64 a0_1) ∧ w'.cell? ⟨Bw0, 2, none⟩ = some (.int .i64 (nextV (hdB a0_0 a0_1 a0_2 a1_0 a1_1 a1_2 a1_8) a0_2)) ∧ w'.cell? ⟨Bw0, 3, none⟩ = some (.slice Aw0 Nw0 Cw0) ∧ w'.cell? ⟨w4.heap.size, 0, none⟩ = some (.int .i64 a0_0) ∧ w'.cell? ⟨w4.heap.size, 1, none⟩ = some (.int .i64 a0_1) ∧ w'.cell? ⟨w4.heap.size, 2, none⟩ = some (.int .i64 a0_2) ∧ w'.cell? ⟨w4.heap.size, 3, none⟩ = some (.slice (some ⟨b1, 0, none⟩) n0_3 n0_3) ∧ w'.cell? ⟨w6.heap.size, 0, none⟩ = some (.int .i64 a1_0) ∧ w'.cell? ⟨w6.heap.size, 1, none⟩ = some (.int .i64 a1_1) ∧ w'.cell? ⟨w6.heap.size, 2, none⟩ = some (.int .i64 a1_2) ∧ w'.cell? ⟨w6.heap.size, 3, none⟩ = some (.slice (some ⟨b8, 0, none⟩) n1_3 n1_3) ∧ w'.cell? ⟨w6.heap.size, 4, none⟩ = some (.int .i64 a1_4) ∧ w'.cell? ⟨w6.heap.size, 5, none⟩ = some (.int .i64 a1_5) ∧ w'.cell? ⟨w6.heap.size, 6, none⟩ = some (.int .i64 a1_6) ∧ w'.cell? ⟨w6.heap.size, 7, none⟩ = some (.int .i64 a1_7) ∧ w'.cell? ⟨w6.heap.size, 8, none⟩ = some (.int .i64 a1_8) ∧ w'.cell? ⟨w6.heap.size, 9, none⟩ = some (.slice (some ⟨b9, 0, none⟩) n1_9 n1_9) ∧ w'.cell? ⟨w8.heap.size, 0, none⟩ = some (.int .i64 a0_0) ∧ w'.cell? ⟨w8.heap.size, 1, none⟩ = some (.int .i64 a0_1) ∧ w'.cell? ⟨w8.heap.size, 2, none⟩ = some (.int .i64 (nextV (hdB a0_0 a0_1 a0_2 a1_0 a1_1 a1_2 a1_8) a0_2)) ∧ w'.cell? ⟨w8.heap.size, 3, none⟩ = some (.slice A8 Nw0 C8)) ∧ BxS w17.heap.size g w') (fgF [fun g v w => v = .agg #[.int .i64 a0_0, .int .i64 a0_1, .int .i64 a0_2, .slice a0_3 n0_3 c0_3], fun g v w => ∃ b0_3, v = .agg #[.int .i64 a0_0, .int .i64 a0_1, .int .i64 a0_2, .slice (some ⟨b0_3, 0, none⟩) n0_3 n0_3] ∧ HasMessage w w.heap.size (some ⟨b0_3, 0, none⟩) n0_3 z0_3, fun g v w => v = .agg #[.int .i64 a1_0, .int .i64 a1_1, .int .i64 a1_2, .slice a1_3 n1_3 c1_3, .int .i64 a1_4, .int .i64 a1_5, .int .i64 a1_6, .int .i64 a1_7, .int .i64 a1_8, .slice a1_9 n1_9 c1_9], fun g v w => ∃ b1_3 b1_9, v = .agg #[.int .i64 a1_0, .int .i64 a1_1, .int .i64 a1_2, .slice (some ⟨b1_3, 0, none⟩) n1_3 n1_3, .int .i64 a1_4, .int .i64 a1_5, .int .i64 a1_6, .int .i64 a1_7, .int .i64 a1_8, .slice (some ⟨b1_9, 0, none⟩) n1_9 n1_9] ∧ HasPathPart w w.heap.size (some ⟨b1_3, 0, none⟩) n1_3 z1_3 ∧ HasByte w w.heap.size (some ⟨b1_9, 0, none⟩) n1_9 z1_9, fun g v w => ∃ A N C lo hi, v = .agg #[.int .i64 a0_0, .int .i64 a0_1, .int .i64 (nextV (hdB a0_0 a0_1 a0_2 a1_0 a1_1 a1_2 a1_8) a0_2), .slice A N C] ∧ ((A = none → C = 0) ∧ (N ≤ C ∧ C ≤ 9223372036854775807)) ∧ w17.heap.size ≤ lo ∧ lo ≤ hi ∧ hi ≤ w.heap.size ∧ OwnN WMessage w lo hi A N (moreL (hdB a0_0 a0_1 a0_2 a1_0 a1_1 a1_2 a1_8) z0_3 ⟨z1_9⟩) ∧ BxA g lo hi, fun g v w => BxZ g 5 [.int .i64 0, .int .i64 0, .int .i64 0, .slice none 0 0] v w]) BxX (fun _ _ => False) 7 6 (by kernel_rfl) (by kernel_rfl) (by decide) (by decide) (by kernel_rfl) (fun h => absurd h (by decide)) (fgM_mono ⟨fun g g' v w w' h x => h, fun g g' v w w' h x => (by obtain ⟨b0_3, h1, r0_3⟩ := h; exact ⟨_, h1, (r0_3.mk x.far (Nat.le_refl _) (.inr (Nat.le_refl _))).mono x.far.size⟩), fun g g' v w w' h x => h, fun g g' v w w' h x => (by obtain ⟨b1_3, b1_9, h1, r1_3, r1_9⟩ := h; exact ⟨_, _, h1, (r1_3.mk x.far (Nat.le_refl _) (.inr (Nat.le_refl _))).mono x.far.size, (r1_9.mk x.far (Nat.le_refl _) (.inr (Nat.le_refl _))).mono x.far.size⟩), fun g g' v w w' h x => (by obtain ⟨A, N, C, lo, hi, h1, h2, h3, h4, h5, h6, h7⟩ := h; exact ⟨A, N, C, lo, hi, h1, h2, h3, h4, Nat.le_trans h5 x.far.size, h6.mk x.far h5 (.inr (.inr (Nat.le_refl _))), h7.step x h5⟩), fun g g' v w w' h x => h.step x, trivial⟩) ⟨⟨Mk.drew1 _, k0_0, k0_1, k0_2, k0_3, k1_0, k1_1, k1_2, k1_3, k1_4, k1_5, k1_6, k1_7, k1_8, k1_9, xw0_0, xw0_1, xw0_2, xw0_3, xx0_0, xx0_1, xx0_2, xx0_3, xx1_0, xx1_1, xx1_2, xx1_3, xx1_4, xx1_5, xx1_6, xx1_7, xx1_8, xx1_9, xg0_0, xg0_1, xg0_2, xg0_3⟩, BxS.none_ _ _⟩ ?_
  change WkG _ _ _ _ _ _ 7 6 6 0 _
  refine WkG.value (m := 5) (k := 0) (by decide) rfl rfl (of_decide_eq_true (by rfl)) rfl (fun g w hS hF => ?_) (fun v0 => ?_)
  · obtain ⟨⟨s0, s1, s2, s3, s4, s5, s6, s7, s8, s9, s10, s11, s12, s13, s14, s15, s16, s17, s18, s19, s20, s21, s22, s23, s24, s25, s26, s27, s28, s29, s30, s31, s32, s33, s34, s35, s36⟩, hB⟩ := hS
    exact ⟨.agg #[.int .i64 a0_0, .int .i64 a0_1, .int .i64 a0_2, .slice a0_3 n0_3 c0_3], w, g, (by go_simp; try with_reducible rfl), ⟨⟨s0, s1, s2, s3, s4, s5, s6, s7, s8, s9, s10, s11, s12, s13, s14, s15, s16, s17, s18, s19, s20, s21, s22, s23, s24, s25, s26, s27, s28, s29, s30, s31, s32, s33, s34, s35, s36⟩, hB⟩, BxX.same (Mk.refl _ _ _), rfl⟩
  try simp only [Act.put, List.getElem_toArray, List.getElem_cons_zero, List.setIfInBounds_toArray, List.set_cons_zero, List.set_cons_succ]
  refine WkG.call (m := 4) (k := 1) (by decide) rfl rfl (of_decide_eq_true (by rfl)) rfl (fun g w hS hF => ?_) (fun v1 => ?_)
  · obtain ⟨⟨s0, s1, s2, s3, s4, s5, s6, s7, s8, s9, s10, s11, s12, s13, s14, s15, s16, s17, s18, s19, s20, s21, s22, s23, s24, s25, s26, s27, s28, s29, s30, s31, s32, s33, s34, s35, s36⟩, hB⟩ := hS
    have f0 : v0 = .agg #[.int .i64 a0_0, .int .i64 a0_1, .int .i64 a0_2, .slice a0_3 n0_3 c0_3] := hF 0 (by rfl)
    obtain rfl := f0
    refine ⟨_, _, (by go_simp; first | done | exact ⟨rfl, rfl⟩ | with_reducible rfl), ?_⟩
    refine (toInboxC a0_0 a0_1 a0_2 a0_3 n0_3 c0_3 z0_3 _ w (h0_3.mk (M17.trans s0) (Nat.le_refl _) (.inr (Nat.le_refl _))) (M17.trans s0).size hN0_3).mono ?_
    rintro e w' ⟨b0_3, rfl, o0, g0, mm⟩
    exact ⟨_, g, rfl, ⟨⟨s0.trans mm, mm.cellAt s1, mm.cellAt s2, mm.cellAt s3, mm.cellAt s4, mm.cellAt s5, mm.cellAt s6, mm.cellAt s7, mm.cellAt s8, mm.cellAt s9, mm.cellAt s10, mm.cellAt s11, mm.cellAt s12, mm.cellAt s13, mm.cellAt s14, mm.cellAt s15, mm.cellAt s16, mm.cellAt s17, mm.cellAt s18, mm.cellAt s19, mm.cellAt s20, mm.cellAt s21, mm.cellAt s22, mm.cellAt s23, mm.cellAt s24, mm.cellAt s25, mm.cellAt s26, mm.cellAt s27, mm.cellAt s28, mm.cellAt s29, mm.cellAt s30, mm.cellAt s31, mm.cellAt s32, mm.cellAt s33, mm.cellAt s34, mm.cellAt s35, mm.cellAt s36⟩, hB.mk0 mm⟩, BxX.same mm, ⟨_, rfl, o0.has.mono (Nat.le_refl _)⟩⟩
  try simp only [Act.put, List.getElem_toArray, List.getElem_cons_succ, List.getElem_cons_zero, List.setIfInBounds_toArray, List.set_cons_zero, List.set_cons_succ]
  refine WkG.value (m := 3) (k := 2) (by decide) rfl rfl (of_decide_eq_true (by rfl)) rfl (fun g w hS hF => ?_) (fun v2 => ?_)
  · obtain ⟨⟨s0, s1, s2, s3, s4, s5, s6, s7, s8, s9, s10, s11, s12, s13, s14, s15, s16, s17, s18, s19, s20, s21, s22, s23, s24, s25, s26, s27, s28, s29, s30, s31, s32, s33, s34, s35, s36⟩, hB⟩ := hS
    exact ⟨.agg #[.int .i64 a1_0, .int .i64 a1_1, .int .i64 a1_2, .slice a1_3 n1_3 c1_3, .int .i64 a1_4, .int .i64 a1_5, .int .i64 a1_6, .int .i64 a1_7, .int .i64 a1_8, .slice a1_9 n1_9 c1_9], w, g, (by go_simp; try with_reducible rfl), ⟨⟨s0, s1, s2, s3, s4, s5, s6, s7, s8, s9, s10, s11, s12, s13, s14, s15, s16, s17, s18, s19, s20, s21, s22, s23, s24, s25, s26, s27, s28, s29, s30, s31, s32, s33, s34, s35, s36⟩, hB⟩, BxX.same (Mk.refl _ _ _), rfl⟩
  try simp only [Act.put, List.getElem_toArray, List.getElem_cons_succ, List.getElem_cons_zero, List.setIfInBounds_toArray, List.set_cons_zero, List.set_cons_succ]
  refine WkG.call (m := 2) (k := 3) (by decide) rfl rfl (of_decide_eq_true (by rfl)) rfl (fun g w hS hF => ?_) (fun v3 => ?_)
  · obtain ⟨⟨s0, s1, s2, s3, s4, s5, s6, s7, s8, s9, s10, s11, s12, s13, s14, s15, s16, s17, s18, s19, s20, s21, s22, s23, s24, s25, s26, s27, s28, s29, s30, s31, s32, s33, s34, s35, s36⟩, hB⟩ := hS
    have f2 : v2 = .agg #[.int .i64 a1_0, .int .i64 a1_1, .int .i64 a1_2, .slice a1_3 n1_3 c1_3, .int .i64 a1_4, .int .i64 a1_5, .int .i64 a1_6, .int .i64 a1_7, .int .i64 a1_8, .slice a1_9 n1_9 c1_9] := hF 2 (by rfl)
    obtain rfl := f2
    refine ⟨_, _, (by go_simp; first | done | exact ⟨rfl, rfl⟩ | with_reducible rfl), ?_⟩
    refine (toPacketC a1_0 a1_1 a1_2 a1_4 a1_5 a1_6 a1_7 a1_8 a1_3 n1_3 c1_3 z1_3 a1_9 n1_9 c1_9 z1_9 _ w (h1_3.mk (M17.trans s0) (Nat.le_refl _) (.inr (Nat.le_refl _))) (h1_9.mk (M17.trans s0) (Nat.le_refl _) (.inr (Nat.le_refl _))) (M17.trans s0).size hN1_3 hN1_9).mono ?_
    rintro e w' ⟨b1_3, b1_9, d0, rfl, o0, o1, g0, g1, mm⟩
    exact ⟨_, g, rfl, ⟨⟨s0.trans mm, mm.cellAt s1, mm.cellAt s2, mm.cellAt s3, mm.cellAt s4, mm.cellAt s5, mm.cellAt s6, mm.cellAt s7, mm.cellAt s8, mm.cellAt s9, mm.cellAt s10, mm.cellAt s11, mm.cellAt s12, mm.cellAt s13, mm.cellAt s14, mm.cellAt s15, mm.cellAt s16, mm.cellAt s17, mm.cellAt s18, mm.cellAt s19, mm.cellAt s20, mm.cellAt s21, mm.cellAt s22, mm.cellAt s23, mm.cellAt s24, mm.cellAt s25, mm.cellAt s26, mm.cellAt s27, mm.cellAt s28, mm.cellAt s29, mm.cellAt s30, mm.cellAt s31, mm.cellAt s32, mm.cellAt s33, mm.cellAt s34, mm.cellAt s35, mm.cellAt s36⟩, hB.mk0 mm⟩, BxX.same mm, ⟨_, _, rfl, o0.has.mono g1, o1.has.mono (Nat.le_refl _)⟩⟩
  try simp only [Act.put, List.getElem_toArray, List.getElem_cons_succ, List.getElem_cons_zero, List.setIfInBounds_toArray, List.set_cons_zero, List.set_cons_succ]
  refine WkG.call (m := 1) (k := 4) (by decide) rfl rfl (of_decide_eq_true (by rfl)) rfl (fun g w hS hF => ?_) (fun v4 => ?_)
  · obtain ⟨⟨s0, s1, s2, s3, s4, s5, s6, s7, s8, s9, s10, s11, s12, s13, s14, s15, s16, s17, s18, s19, s20, s21, s22, s23, s24, s25, s26, s27, s28, s29, s30, s31, s32, s33, s34, s35, s36⟩, hB⟩ := hS
    have f1 : ∃ b0_3, v1 = .agg #[.int .i64 a0_0, .int .i64 a0_1, .int .i64 a0_2, .slice (some ⟨b0_3, 0, none⟩) n0_3 n0_3] ∧ HasMessage w w.heap.size (some ⟨b0_3, 0, none⟩) n0_3 z0_3 := hF 1 (by rfl)
    obtain ⟨b0_3, rfl, r0_3⟩ := f1
    have f3 : ∃ b1_3 b1_9, v3 = .agg #[.int .i64 a1_0, .int .i64 a1_1, .int .i64 a1_2, .slice (some ⟨b1_3, 0, none⟩) n1_3 n1_3, .int .i64 a1_4, .int .i64 a1_5, .int .i64 a1_6, .int .i64 a1_7, .int .i64 a1_8, .slice (some ⟨b1_9, 0, none⟩) n1_9 n1_9] ∧ HasPathPart w w.heap.size (some ⟨b1_3, 0, none⟩) n1_3 z1_3 ∧ HasByte w w.heap.size (some ⟨b1_9, 0, none⟩) n1_9 z1_9 := hF 3 (by rfl)
    obtain ⟨b1_3, b1_9, rfl, r1_3, r1_9⟩ := f3
    refine ⟨_, _, (by go_simp; first | done | exact ⟨rfl, rfl⟩ | with_reducible rfl), ?_⟩
    refine (implHData a0_0 a0_1 a0_2 _ _ _ _ z0_3 a1_0 a1_1 a1_2 a1_4 a1_5 a1_6 a1_7 a1_8 _ _ _ _ _ _ _ z1_9 _ r0_3 (Nat.le_refl _) hN0_3 r1_9 (Nat.le_refl _) hN1_9 (i64_of w0_2).1).mono ?_
    rintro e w' ⟨A, N, C, rfl, hc, ow, mm⟩
    exact ⟨_, g, rfl, ⟨⟨s0.trans mm, mm.cellAt s1, mm.cellAt s2, mm.cellAt s3, mm.cellAt s4, mm.cellAt s5, mm.cellAt s6, mm.cellAt s7, mm.cellAt s8, mm.cellAt s9, mm.cellAt s10, mm.cellAt s11, mm.cellAt s12, mm.cellAt s13, mm.cellAt s14, mm.cellAt s15, mm.cellAt s16, mm.cellAt s17, mm.cellAt s18, mm.cellAt s19, mm.cellAt s20, mm.cellAt s21, mm.cellAt s22, mm.cellAt s23, mm.cellAt s24, mm.cellAt s25, mm.cellAt s26, mm.cellAt s27, mm.cellAt s28, mm.cellAt s29, mm.cellAt s30, mm.cellAt s31, mm.cellAt s32, mm.cellAt s33, mm.cellAt s34, mm.cellAt s35, mm.cellAt s36⟩, hB.mk0 mm⟩, BxX.same mm, ⟨A, N, C, w.heap.size, w'.heap.size, rfl, hc, s0.size, mm.size, Nat.le_refl _, ow, BxA.of hB⟩⟩
  try simp only [Act.put, List.getElem_toArray, List.getElem_cons_succ, List.getElem_cons_zero, List.setIfInBounds_toArray, List.set_cons_zero, List.set_cons_succ]
  refine WkG.value (m := 0) (k := 5) (by decide) rfl rfl (of_decide_eq_true (by rfl)) rfl (fun g w hS hF => ?_) (fun v5 => ?_)
  · obtain ⟨⟨s0, s1, s2, s3, s4, s5, s6, s7, s8, s9, s10, s11, s12, s13, s14, s15, s16, s17, s18, s19, s20, s21, s22, s23, s24, s25, s26, s27, s28, s29, s30, s31, s32, s33, s34, s35, s36⟩, hB⟩ := hS
    have mm := Mk.alloc w (Obj.cells #[.int .i64 0, .int .i64 0, .int .i64 0, .slice none 0 0] 59)
    exact ⟨.pointer (some ⟨w.heap.size, 0, none⟩), (w.alloc (Obj.cells #[.int .i64 0, .int .i64 0, .int .i64 0, .slice none 0 0] 59)), bxP g 5 w.heap.size, (by go_simp; try with_reducible rfl), ⟨⟨s0.trans mm, mm.cellAt s1, mm.cellAt s2, mm.cellAt s3, mm.cellAt s4, mm.cellAt s5, mm.cellAt s6, mm.cellAt s7, mm.cellAt s8, mm.cellAt s9, mm.cellAt s10, mm.cellAt s11, mm.cellAt s12, mm.cellAt s13, mm.cellAt s14, mm.cellAt s15, mm.cellAt s16, mm.cellAt s17, mm.cellAt s18, mm.cellAt s19, mm.cellAt s20, mm.cellAt s21, mm.cellAt s22, mm.cellAt s23, mm.cellAt s24, mm.cellAt s25, mm.cellAt s26, mm.cellAt s27, mm.cellAt s28, mm.cellAt s29, mm.cellAt s30, mm.cellAt s31, mm.cellAt s32, mm.cellAt s33, mm.cellAt s34, mm.cellAt s35, mm.cellAt s36⟩, hB.put s0.size 5 (Obj.cells #[.int .i64 0, .int .i64 0, .int .i64 0, .slice none 0 0] 59)⟩, BxX.put 5 (Obj.cells #[.int .i64 0, .int .i64 0, .int .i64 0, .slice none 0 0] 59), BxZ.new g 5 [.int .i64 0, .int .i64 0, .int .i64 0, .slice none 0 0] 59 w⟩
  try simp only [Act.put, List.getElem_toArray, List.getElem_cons_succ, List.getElem_cons_zero, List.setIfInBounds_toArray, List.set_cons_zero, List.set_cons_succ]
  refine WkG.done fun gE wq18 hE hF => ?_
  clear k0_0 k0_1 k0_2 k0_3 k1_0 k1_1 k1_2 k1_3 k1_4 k1_5 k1_6 k1_7 k1_8 k1_9 xw0_0 xw0_1 xw0_2 xw0_3 xx0_0 xx0_1 xx0_2 xx0_3 xx1_0 xx1_1 xx1_2 xx1_3 xx1_4 xx1_5 xx1_6 xx1_7 xx1_8 xx1_9 xg0_0 xg0_1 xg0_2 xg0_3
  obtain ⟨⟨m18, k0_0, k0_1, k0_2, k0_3, k1_0, k1_1, k1_2, k1_3, k1_4, k1_5, k1_6, k1_7, k1_8, k1_9, xw0_0, xw0_1, xw0_2, xw0_3, xx0_0, xx0_1, xx0_2, xx0_3, xx1_0, xx1_1, xx1_2, xx1_3, xx1_4, xx1_5, xx1_6, xx1_7, xx1_8, xx1_9, xg0_0, xg0_1, xg0_2, xg0_3⟩, hBE⟩ := hE
  change wpAny _ _ _ _ 1 _ _ _
  have f4 : ∃ A N C lo hi, v4 = .agg #[.int .i64 a0_0, .int .i64 a0_1, .int .i64 (nextV (hdB a0_0 a0_1 a0_2 a1_0 a1_1 a1_2 a1_8) a0_2), .slice A N C] ∧ ((A = none → C = 0) ∧ (N ≤ C ∧ C ≤ 9223372036854775807)) ∧ w17.heap.size ≤ lo ∧ lo ≤ hi ∧ hi ≤ wq18.heap.size ∧ OwnN WMessage wq18 lo hi A N (moreL (hdB a0_0 a0_1 a0_2 a1_0 a1_1 a1_2 a1_8) z0_3 ⟨z1_9⟩) ∧ BxA gE lo hi := hF 4 (by decide)
  obtain ⟨Ah0, Nh0, Ch0, loh0, hih0, rfl, hch0, hlh0, hmh0, hhh0, oh0, hAh0⟩ := f4
  have f5 : BxZ gE 5 [.int .i64 0, .int .i64 0, .int .i64 0, .slice none 0 0] v5 wq18 := hF 5 (by decide)
  obtain ⟨Bh0, hgh0, rfl, hlth0, hzh0, hfh0⟩ := f5
  have hsh0 := hAh0 5 Bh0 hgh0
  have hbh00 := hBE.lo 5 Bh0 hgh0
  have xh0_0 := hzh0 0 _ rfl
  have xh0_1 := hzh0 1 _ rfl
  have xh0_2 := hzh0 2 _ rfl
  have xh0_3 := hzh0 3 _ rfl
  clear hF
  refine wpAny_ready (rs := [6]) (by kernel_rfl) (by simp) ?_
  refine (AllReady.cons rfl (fun K hK => ?_) AllReady.nil)
  go_simp
  refine hK _ _ ?_
  clear hK K
  try simp only [Act.put, List.getElem_toArray, List.getElem_cons_succ, List.getElem_cons_zero, List.setIfInBounds_toArray, List.set_cons_zero, List.set_cons_succ]
  have yn0 : Bh0 ≠ w.heap.size := by omega
  have yn1 : Bh0 ≠ w.heap.size + 1 := by omega
  have yn2 : Bh0 ≠ Bw0 := by omega
  have yn3 : Bh0 ≠ w4.heap.size := by omega
  have yn4 : Bh0 ≠ w6.heap.size := by omega
  have yn5 : Bh0 ≠ w8.heap.size := by omega
  replace xh0_0 := World.cell?_setCell_same _ _ (.int .i64 a0_0) xh0_0
  replace xh0_1 := cell_set xh0_1 ⟨Bh0, 0, none⟩ (.int .i64 a0_0) (.inr (by simp))
  replace xh0_2 := cell_set xh0_2 ⟨Bh0, 0, none⟩ (.int .i64 a0_0) (.inr (by simp))
  replace xh0_3 := cell_set xh0_3 ⟨Bh0, 0, none⟩ (.int .i64 a0_0) (.inr (by simp))
  replace k0_0 := cell_set k0_0 ⟨Bh0, 0, none⟩ (.int .i64 a0_0) (.inl yn0)
  replace k0_1 := cell_set k0_1 ⟨Bh0, 0, none⟩ (.int .i64 a0_0) (.inl yn0)
  replace k0_2 := cell_set k0_2 ⟨Bh0, 0, none⟩ (.int .i64 a0_0) (.inl yn0)
  replace k0_3 := cell_set k0_3 ⟨Bh0, 0, none⟩ (.int .i64 a0_0) (.inl yn0)
  replace k1_0 := cell_set k1_0 ⟨Bh0, 0, none⟩ (.int .i64 a0_0) (.inl yn1)
  replace k1_1 := cell_set k1_1 ⟨Bh0, 0, none⟩ (.int .i64 a0_0) (.inl yn1)
  replace k1_2 := cell_set k1_2 ⟨Bh0, 0, none⟩ (.int .i64 a0_0) (.inl yn1)
  replace k1_3 := cell_set k1_3 ⟨Bh0, 0, none⟩ (.int .i64 a0_0) (.inl yn1)
  replace k1_4 := cell_set k1_4 ⟨Bh0, 0, none⟩ (.int .i64 a0_0) (.inl yn1)
  replace k1_5 := cell_set k1_5 ⟨Bh0, 0, none⟩ (.int .i64 a0_0) (.inl yn1)
  replace k1_6 := cell_set k1_6 ⟨Bh0, 0, none⟩ (.int .i64 a0_0) (.inl yn1)
  replace k1_7 := cell_set k1_7 ⟨Bh0, 0, none⟩ (.int .i64 a0_0) (.inl yn1)
  replace k1_8 := cell_set k1_8 ⟨Bh0, 0, none⟩ (.int .i64 a0_0) (.inl yn1)
  replace k1_9 := cell_set k1_9 ⟨Bh0, 0, none⟩ (.int .i64 a0_0) (.inl yn1)
  replace xw0_0 := cell_set xw0_0 ⟨Bh0, 0, none⟩ (.int .i64 a0_0) (.inl yn2)
  replace xw0_1 := cell_set xw0_1 ⟨Bh0, 0, none⟩ (.int .i64 a0_0) (.inl yn2)
  replace xw0_2 := cell_set xw0_2 ⟨Bh0, 0, none⟩ (.int .i64 a0_0) (.inl yn2)
  replace xw0_3 := cell_set xw0_3 ⟨Bh0, 0, none⟩ (.int .i64 a0_0) (.inl yn2)
  replace xx0_0 := cell_set xx0_0 ⟨Bh0, 0, none⟩ (.int .i64 a0_0) (.inl yn3)
  replace xx0_1 := cell_set xx0_1 ⟨Bh0, 0, none⟩ (.int .i64 a0_0) (.inl yn3)
  replace xx0_2 := cell_set xx0_2 ⟨Bh0, 0, none⟩ (.int .i64 a0_0) (.inl yn3)
  replace xx0_3 := cell_set xx0_3 ⟨Bh0, 0, none⟩ (.int .i64 a0_0) (.inl yn3)
  replace xx1_0 := cell_set xx1_0 ⟨Bh0, 0, none⟩ (.int .i64 a0_0) (.inl yn4)
  replace xx1_1 := cell_set xx1_1 ⟨Bh0, 0, none⟩ (.int .i64 a0_0) (.inl yn4)
  replace xx1_2 := cell_set xx1_2 ⟨Bh0, 0, none⟩ (.int .i64 a0_0) (.inl yn4)
  replace xx1_3 := cell_set xx1_3 ⟨Bh0, 0, none⟩ (.int .i64 a0_0) (.inl yn4)
  replace xx1_4 := cell_set xx1_4 ⟨Bh0, 0, none⟩ (.int .i64 a0_0) (.inl yn4)
  replace xx1_5 := cell_set xx1_5 ⟨Bh0, 0, none⟩ (.int .i64 a0_0) (.inl yn4)
  replace xx1_6 := cell_set xx1_6 ⟨Bh0, 0, none⟩ (.int .i64 a0_0) (.inl yn4)
  replace xx1_7 := cell_set xx1_7 ⟨Bh0, 0, none⟩ (.int .i64 a0_0) (.inl yn4)
  replace xx1_8 := cell_set xx1_8 ⟨Bh0, 0, none⟩ (.int .i64 a0_0) (.inl yn4)
  replace xx1_9 := cell_set xx1_9 ⟨Bh0, 0, none⟩ (.int .i64 a0_0) (.inl yn4)
  replace xg0_0 := cell_set xg0_0 ⟨Bh0, 0, none⟩ (.int .i64 a0_0) (.inl yn5)
  replace xg0_1 := cell_set xg0_1 ⟨Bh0, 0, none⟩ (.int .i64 a0_0) (.inl yn5)
  replace xg0_2 := cell_set xg0_2 ⟨Bh0, 0, none⟩ (.int .i64 a0_0) (.inl yn5)
  replace xg0_3 := cell_set xg0_3 ⟨Bh0, 0, none⟩ (.int .i64 a0_0) (.inl yn5)
  replace oh0 := oh0.set ⟨Bh0, 0, none⟩ (.int .i64 a0_0) hsh0
  replace m18 := m18.put ⟨Bh0, 0, none⟩ (.int .i64 a0_0) hbh00
  replace xh0_0 := cell_set xh0_0 ⟨Bh0, 1, none⟩ (.int .i64 a0_1) (.inr (by simp))
  replace xh0_1 := World.cell?_setCell_same _ _ (.int .i64 a0_1) xh0_1
  replace xh0_2 := cell_set xh0_2 ⟨Bh0, 1, none⟩ (.int .i64 a0_1) (.inr (by simp))
  replace xh0_3 := cell_set xh0_3 ⟨Bh0, 1, none⟩ (.int .i64 a0_1) (.inr (by simp))
  replace k0_0 := cell_set k0_0 ⟨Bh0, 1, none⟩ (.int .i64 a0_1) (.inl yn0)
  replace k0_1 := cell_set k0_1 ⟨Bh0, 1, none⟩ (.int .i64 a0_1) (.inl yn0)
  replace k0_2 := cell_set k0_2 ⟨Bh0, 1, none⟩ (.int .i64 a0_1) (.inl yn0)
  replace k0_3 := cell_set k0_3 ⟨Bh0, 1, none⟩ (.int .i64 a0_1) (.inl yn0)
  replace k1_0 := cell_set k1_0 ⟨Bh0, 1, none⟩ (.int .i64 a0_1) (.inl yn1)
  replace k1_1 := cell_set k1_1 ⟨Bh0, 1, none⟩ (.int .i64 a0_1) (.inl yn1)
  replace k1_2 := cell_set k1_2 ⟨Bh0, 1, none⟩ (.int .i64 a0_1) (.inl yn1)
  replace k1_3 := cell_set k1_3 ⟨Bh0, 1, none⟩ (.int .i64 a0_1) (.inl yn1)
  replace k1_4 := cell_set k1_4 ⟨Bh0, 1, none⟩ (.int .i64 a0_1) (.inl yn1)
  replace k1_5 := cell_set k1_5 ⟨Bh0, 1, none⟩ (.int .i64 a0_1) (.inl yn1)
  replace k1_6 := cell_set k1_6 ⟨Bh0, 1, none⟩ (.int .i64 a0_1) (.inl yn1)
  replace k1_7 := cell_set k1_7 ⟨Bh0, 1, none⟩ (.int .i64 a0_1) (.inl yn1)
  replace k1_8 := cell_set k1_8 ⟨Bh0, 1, none⟩ (.int .i64 a0_1) (.inl yn1)
  replace k1_9 := cell_set k1_9 ⟨Bh0, 1, none⟩ (.int .i64 a0_1) (.inl yn1)
  replace xw0_0 := cell_set xw0_0 ⟨Bh0, 1, none⟩ (.int .i64 a0_1) (.inl yn2)
  replace xw0_1 := cell_set xw0_1 ⟨Bh0, 1, none⟩ (.int .i64 a0_1) (.inl yn2)
  replace xw0_2 := cell_set xw0_2 ⟨Bh0, 1, none⟩ (.int .i64 a0_1) (.inl yn2)
  replace xw0_3 := cell_set xw0_3 ⟨Bh0, 1, none⟩ (.int .i64 a0_1) (.inl yn2)
  replace xx0_0 := cell_set xx0_0 ⟨Bh0, 1, none⟩ (.int .i64 a0_1) (.inl yn3)
  replace xx0_1 := cell_set xx0_1 ⟨Bh0, 1, none⟩ (.int .i64 a0_1) (.inl yn3)
  replace xx0_2 := cell_set xx0_2 ⟨Bh0, 1, none⟩ (.int .i64 a0_1) (.inl yn3)
  replace xx0_3 := cell_set xx0_3 ⟨Bh0, 1, none⟩ (.int .i64 a0_1) (.inl yn3)
  replace xx1_0 := cell_set xx1_0 ⟨Bh0, 1, none⟩ (.int .i64 a0_1) (.inl yn4)
  replace xx1_1 := cell_set xx1_1 ⟨Bh0, 1, none⟩ (.int .i64 a0_1) (.inl yn4)
  replace xx1_2 := cell_set xx1_2 ⟨Bh0, 1, none⟩ (.int .i64 a0_1) (.inl yn4)
  replace xx1_3 := cell_set xx1_3 ⟨Bh0, 1, none⟩ (.int .i64 a0_1) (.inl yn4)
  replace xx1_4 := cell_set xx1_4 ⟨Bh0, 1, none⟩ (.int .i64 a0_1) (.inl yn4)
  replace xx1_5 := cell_set xx1_5 ⟨Bh0, 1, none⟩ (.int .i64 a0_1) (.inl yn4)
  replace xx1_6 := cell_set xx1_6 ⟨Bh0, 1, none⟩ (.int .i64 a0_1) (.inl yn4)
  replace xx1_7 := cell_set xx1_7 ⟨Bh0, 1, none⟩ (.int .i64 a0_1) (.inl yn4)
  replace xx1_8 := cell_set xx1_8 ⟨Bh0, 1, none⟩ (.int .i64 a0_1) (.inl yn4)
  replace xx1_9 := cell_set xx1_9 ⟨Bh0, 1, none⟩ (.int .i64 a0_1) (.inl yn4)
  replace xg0_0 := cell_set xg0_0 ⟨Bh0, 1, none⟩ (.int .i64 a0_1) (.inl yn5)
  replace xg0_1 := cell_set xg0_1 ⟨Bh0, 1, none⟩ (.int .i64 a0_1) (.inl yn5)
  replace xg0_2 := cell_set xg0_2 ⟨Bh0, 1, none⟩ (.int .i64 a0_1) (.inl yn5)
  replace xg0_3 := cell_set xg0_3 ⟨Bh0, 1, none⟩ (.int .i64 a0_1) (.inl yn5)
  replace oh0 := oh0.set ⟨Bh0, 1, none⟩ (.int .i64 a0_1) hsh0
  replace m18 := m18.put ⟨Bh0, 1, none⟩ (.int .i64 a0_1) hbh00
  replace xh0_0 := cell_set xh0_0 ⟨Bh0, 2, none⟩ (.int .i64 (nextV (hdB a0_0 a0_1 a0_2 a1_0 a1_1 a1_2 a1_8) a0_2)) (.inr (by simp))
  replace xh0_1 := cell_set xh0_1 ⟨Bh0, 2, none⟩ (.int .i64 (nextV (hdB a0_0 a0_1 a0_2 a1_0 a1_1 a1_2 a1_8) a0_2)) (.inr (by simp))
  replace xh0_2 := World.cell?_setCell_same _ _ (.int .i64 (nextV (hdB a0_0 a0_1 a0_2 a1_0 a1_1 a1_2 a1_8) a0_2)) xh0_2
  replace xh0_3 := cell_set xh0_3 ⟨Bh0, 2, none⟩ (.int .i64 (nextV (hdB a0_0 a0_1 a0_2 a1_0 a1_1 a1_2 a1_8) a0_2)) (.inr (by simp))
  replace k0_0 := cell_set k0_0 ⟨Bh0, 2, none⟩ (.int .i64 (nextV (hdB a0_0 a0_1 a0_2 a1_0 a1_1 a1_2 a1_8) a0_2)) (.inl yn0)
  replace k0_1 := cell_set k0_1 ⟨Bh0, 2, none⟩ (.int .i64 (nextV (hdB a0_0 a0_1 a0_2 a1_0 a1_1 a1_2 a1_8) a0_2)) (.inl yn0)
  replace k0_2 := cell_set k0_2 ⟨Bh0, 2, none⟩ (.int .i64 (nextV (hdB a0_0 a0_1 a0_2 a1_0 a1_1 a1_2 a1_8) a0_2)) (.inl yn0)
  replace k0_3 := cell_set k0_3 ⟨Bh0, 2, none⟩ (.int .i64 (nextV (hdB a0_0 a0_1 a0_2 a1_0 a1_1 a1_2 a1_8) a0_2)) (.inl yn0)
  replace k1_0 := cell_set k1_0 ⟨Bh0, 2, none⟩ (.int .i64 (nextV (hdB a0_0 a0_1 a0_2 a1_0 a1_1 a1_2 a1_8) a0_2)) (.inl yn1)
  replace k1_1 := cell_set k1_1 ⟨Bh0, 2, none⟩ (.int .i64 (nextV (hdB a0_0 a0_1 a0_2 a1_0 a1_1 a1_2 a1_8) a0_2)) (.inl yn1)
  replace k1_2 := cell_set k1_2 ⟨Bh0, 2, none⟩ (.int .i64 (nextV (hdB a0_0 a0_1 a0_2 a1_0 a1_1 a1_2 a1_8) a0_2)) (.inl yn1)
  replace k1_3 := cell_set k1_3 ⟨Bh0, 2, none⟩ (.int .i64 (nextV (hdB a0_0 a0_1 a0_2 a1_0 a1_1 a1_2 a1_8) a0_2)) (.inl yn1)
  replace k1_4 := cell_set k1_4 ⟨Bh0, 2, none⟩ (.int .i64 (nextV (hdB a0_0 a0_1 a0_2 a1_0 a1_1 a1_2 a1_8) a0_2)) (.inl yn1)
  replace k1_5 := cell_set k1_5 ⟨Bh0, 2, none⟩ (.int .i64 (nextV (hdB a0_0 a0_1 a0_2 a1_0 a1_1 a1_2 a1_8) a0_2)) (.inl yn1)
  replace k1_6 := cell_set k1_6 ⟨Bh0, 2, none⟩ (.int .i64 (nextV (hdB a0_0 a0_1 a0_2 a1_0 a1_1 a1_2 a1_8) a0_2)) (.inl yn1)
  replace k1_7 := cell_set k1_7 ⟨Bh0, 2, none⟩ (.int .i64 (nextV (hdB a0_0 a0_1 a0_2 a1_0 a1_1 a1_2 a1_8) a0_2)) (.inl yn1)
  replace k1_8 := cell_set k1_8 ⟨Bh0, 2, none⟩ (.int .i64 (nextV (hdB a0_0 a0_1 a0_2 a1_0 a1_1 a1_2 a1_8) a0_2)) (.inl yn1)
  replace k1_9 := cell_set k1_9 ⟨Bh0, 2, none⟩ (.int .i64 (nextV (hdB a0_0 a0_1 a0_2 a1_0 a1_1 a1_2 a1_8) a0_2)) (.inl yn1)
  replace xw0_0 := cell_set xw0_0 ⟨Bh0, 2, none⟩ (.int .i64 (nextV (hdB a0_0 a0_1 a0_2 a1_0 a1_1 a1_2 a1_8) a0_2)) (.inl yn2)
  replace xw0_1 := cell_set xw0_1 ⟨Bh0, 2, none⟩ (.int .i64 (nextV (hdB a0_0 a0_1 a0_2 a1_0 a1_1 a1_2 a1_8) a0_2)) (.inl yn2)
  replace xw0_2 := cell_set xw0_2 ⟨Bh0, 2, none⟩ (.int .i64 (nextV (hdB a0_0 a0_1 a0_2 a1_0 a1_1 a1_2 a1_8) a0_2)) (.inl yn2)
  replace xw0_3 := cell_set xw0_3 ⟨Bh0, 2, none⟩ (.int .i64 (nextV (hdB a0_0 a0_1 a0_2 a1_0 a1_1 a1_2 a1_8) a0_2)) (.inl yn2)
  replace xx0_0 := cell_set xx0_0 ⟨Bh0, 2, none⟩ (.int .i64 (nextV (hdB a0_0 a0_1 a0_2 a1_0 a1_1 a1_2 a1_8) a0_2)) (.inl yn3)
  replace xx0_1 := cell_set xx0_1 ⟨Bh0, 2, none⟩ (.int .i64 (nextV (hdB a0_0 a0_1 a0_2 a1_0 a1_1 a1_2 a1_8) a0_2)) (.inl yn3)
  replace xx0_2 := cell_set xx0_2 ⟨Bh0, 2, none⟩ (.int .i64 (nextV (hdB a0_0 a0_1 a0_2 a1_0 a1_1 a1_2 a1_8) a0_2)) (.inl yn3)
  replace xx0_3 := cell_set xx0_3 ⟨Bh0, 2, none⟩ (.int .i64 (nextV (hdB a0_0 a0_1 a0_2 a1_0 a1_1 a1_2 a1_8) a0_2)) (.inl yn3)
  replace xx1_0 := cell_set xx1_0 ⟨Bh0, 2, none⟩ (.int .i64 (nextV (hdB a0_0 a0_1 a0_2 a1_0 a1_1 a1_2 a1_8) a0_2)) (.inl yn4)
  replace xx1_1 := cell_set xx1_1 ⟨Bh0, 2, none⟩ (.int .i64 (nextV (hdB a0_0 a0_1 a0_2 a1_0 a1_1 a1_2 a1_8) a0_2)) (.inl yn4)
  replace xx1_2 := cell_set xx1_2 ⟨Bh0, 2, none⟩ (.int .i64 (nextV (hdB a0_0 a0_1 a0_2 a1_0 a1_1 a1_2 a1_8) a0_2)) (.inl yn4)
  replace xx1_3 := cell_set xx1_3 ⟨Bh0, 2, none⟩ (.int .i64 (nextV (hdB a0_0 a0_1 a0_2 a1_0 a1_1 a1_2 a1_8) a0_2)) (.inl yn4)
  replace xx1_4 := cell_set xx1_4 ⟨Bh0, 2, none⟩ (.int .i64 (nextV (hdB a0_0 a0_1 a0_2 a1_0 a1_1 a1_2 a1_8) a0_2)) (.inl yn4)
  replace xx1_5 := cell_set xx1_5 ⟨Bh0, 2, none⟩ (.int .i64 (nextV (hdB a0_0 a0_1 a0_2 a1_0 a1_1 a1_2 a1_8) a0_2)) (.inl yn4)
  replace xx1_6 := cell_set xx1_6 ⟨Bh0, 2, none⟩ (.int .i64 (nextV (hdB a0_0 a0_1 a0_2 a1_0 a1_1 a1_2 a1_8) a0_2)) (.inl yn4)
  replace xx1_7 := cell_set xx1_7 ⟨Bh0, 2, none⟩ (.int .i64 (nextV (hdB a0_0 a0_1 a0_2 a1_0 a1_1 a1_2 a1_8) a0_2)) (.inl yn4)
  replace xx1_8 := cell_set xx1_8 ⟨Bh0, 2, none⟩ (.int .i64 (nextV (hdB a0_0 a0_1 a0_2 a1_0 a1_1 a1_2 a1_8) a0_2)) (.inl yn4)
  replace xx1_9 := cell_set xx1_9 ⟨Bh0, 2, none⟩ (.int .i64 (nextV (hdB a0_0 a0_1 a0_2 a1_0 a1_1 a1_2 a1_8) a0_2)) (.inl yn4)
  replace xg0_0 := cell_set xg0_0 ⟨Bh0, 2, none⟩ (.int .i64 (nextV (hdB a0_0 a0_1 a0_2 a1_0 a1_1 a1_2 a1_8) a0_2)) (.inl yn5)
  replace xg0_1 := cell_set xg0_1 ⟨Bh0, 2, none⟩ (.int .i64 (nextV (hdB a0_0 a0_1 a0_2 a1_0 a1_1 a1_2 a1_8) a0_2)) (.inl yn5)
  replace xg0_2 := cell_set xg0_2 ⟨Bh0, 2, none⟩ (.int .i64 (nextV (hdB a0_0 a0_1 a0_2 a1_0 a1_1 a1_2 a1_8) a0_2)) (.inl yn5)
  replace xg0_3 := cell_set xg0_3 ⟨Bh0, 2, none⟩ (.int .i64 (nextV (hdB a0_0 a0_1 a0_2 a1_0 a1_1 a1_2 a1_8) a0_2)) (.inl yn5)
  replace oh0 := oh0.set ⟨Bh0, 2, none⟩ (.int .i64 (nextV (hdB a0_0 a0_1 a0_2 a1_0 a1_1 a1_2 a1_8) a0_2)) hsh0
  replace m18 := m18.put ⟨Bh0, 2, none⟩ (.int .i64 (nextV (hdB a0_0 a0_1 a0_2 a1_0 a1_1 a1_2 a1_8) a0_2)) hbh00
  replace xh0_0 := cell_set xh0_0 ⟨Bh0, 3, none⟩ (.slice Ah0 Nh0 Ch0) (.inr (by simp))
  replace xh0_1 := cell_set xh0_1 ⟨Bh0, 3, none⟩ (.slice Ah0 Nh0 Ch0) (.inr (by simp))
  replace xh0_2 := cell_set xh0_2 ⟨Bh0, 3, none⟩ (.slice Ah0 Nh0 Ch0) (.inr (by simp))
  replace xh0_3 := World.cell?_setCell_same _ _ (.slice Ah0 Nh0 Ch0) xh0_3
  replace k0_0 := cell_set k0_0 ⟨Bh0, 3, none⟩ (.slice Ah0 Nh0 Ch0) (.inl yn0)
  replace k0_1 := cell_set k0_1 ⟨Bh0, 3, none⟩ (.slice Ah0 Nh0 Ch0) (.inl yn0)
  replace k0_2 := cell_set k0_2 ⟨Bh0, 3, none⟩ (.slice Ah0 Nh0 Ch0) (.inl yn0)
  replace k0_3 := cell_set k0_3 ⟨Bh0, 3, none⟩ (.slice Ah0 Nh0 Ch0) (.inl yn0)
  replace k1_0 := cell_set k1_0 ⟨Bh0, 3, none⟩ (.slice Ah0 Nh0 Ch0) (.inl yn1)
  replace k1_1 := cell_set k1_1 ⟨Bh0, 3, none⟩ (.slice Ah0 Nh0 Ch0) (.inl yn1)
  replace k1_2 := cell_set k1_2 ⟨Bh0, 3, none⟩ (.slice Ah0 Nh0 Ch0) (.inl yn1)
  replace k1_3 := cell_set k1_3 ⟨Bh0, 3, none⟩ (.slice Ah0 Nh0 Ch0) (.inl yn1)
  replace k1_4 := cell_set k1_4 ⟨Bh0, 3, none⟩ (.slice Ah0 Nh0 Ch0) (.inl yn1)
  replace k1_5 := cell_set k1_5 ⟨Bh0, 3, none⟩ (.slice Ah0 Nh0 Ch0) (.inl yn1)
  replace k1_6 := cell_set k1_6 ⟨Bh0, 3, none⟩ (.slice Ah0 Nh0 Ch0) (.inl yn1)
  replace k1_7 := cell_set k1_7 ⟨Bh0, 3, none⟩ (.slice Ah0 Nh0 Ch0) (.inl yn1)
  replace k1_8 := cell_set k1_8 ⟨Bh0, 3, none⟩ (.slice Ah0 Nh0 Ch0) (.inl yn1)
  replace k1_9 := cell_set k1_9 ⟨Bh0, 3, none⟩ (.slice Ah0 Nh0 Ch0) (.inl yn1)
  replace xw0_0 := cell_set xw0_0 ⟨Bh0, 3, none⟩ (.slice Ah0 Nh0 Ch0) (.inl yn2)
  replace xw0_1 := cell_set xw0_1 ⟨Bh0, 3, none⟩ (.slice Ah0 Nh0 Ch0) (.inl yn2)
  replace xw0_2 := cell_set xw0_2 ⟨Bh0, 3, none⟩ (.slice Ah0 Nh0 Ch0) (.inl yn2)
  replace xw0_3 := cell_set xw0_3 ⟨Bh0, 3, none⟩ (.slice Ah0 Nh0 Ch0) (.inl yn2)
  replace xx0_0 := cell_set xx0_0 ⟨Bh0, 3, none⟩ (.slice Ah0 Nh0 Ch0) (.inl yn3)
  replace xx0_1 := cell_set xx0_1 ⟨Bh0, 3, none⟩ (.slice Ah0 Nh0 Ch0) (.inl yn3)
  replace xx0_2 := cell_set xx0_2 ⟨Bh0, 3, none⟩ (.slice Ah0 Nh0 Ch0) (.inl yn3)
  replace xx0_3 := cell_set xx0_3 ⟨Bh0, 3, none⟩ (.slice Ah0 Nh0 Ch0) (.inl yn3)
  replace xx1_0 := cell_set xx1_0 ⟨Bh0, 3, none⟩ (.slice Ah0 Nh0 Ch0) (.inl yn4)
  replace xx1_1 := cell_set xx1_1 ⟨Bh0, 3, none⟩ (.slice Ah0 Nh0 Ch0) (.inl yn4)
  replace xx1_2 := cell_set xx1_2 ⟨Bh0, 3, none⟩ (.slice Ah0 Nh0 Ch0) (.inl yn4)
  replace xx1_3 := cell_set xx1_3 ⟨Bh0, 3, none⟩ (.slice Ah0 Nh0 Ch0) (.inl yn4)
  replace xx1_4 := cell_set xx1_4 ⟨Bh0, 3, none⟩ (.slice Ah0 Nh0 Ch0) (.inl yn4)
  replace xx1_5 := cell_set xx1_5 ⟨Bh0, 3, none⟩ (.slice Ah0 Nh0 Ch0) (.inl yn4)
  replace xx1_6 := cell_set xx1_6 ⟨Bh0, 3, none⟩ (.slice Ah0 Nh0 Ch0) (.inl yn4)
  replace xx1_7 := cell_set xx1_7 ⟨Bh0, 3, none⟩ (.slice Ah0 Nh0 Ch0) (.inl yn4)
  replace xx1_8 := cell_set xx1_8 ⟨Bh0, 3, none⟩ (.slice Ah0 Nh0 Ch0) (.inl yn4)
  replace xx1_9 := cell_set xx1_9 ⟨Bh0, 3, none⟩ (.slice Ah0 Nh0 Ch0) (.inl yn4)
  replace xg0_0 := cell_set xg0_0 ⟨Bh0, 3, none⟩ (.slice Ah0 Nh0 Ch0) (.inl yn5)
  replace xg0_1 := cell_set xg0_1 ⟨Bh0, 3, none⟩ (.slice Ah0 Nh0 Ch0) (.inl yn5)
  replace xg0_2 := cell_set xg0_2 ⟨Bh0, 3, none⟩ (.slice Ah0 Nh0 Ch0) (.inl yn5)
  replace xg0_3 := cell_set xg0_3 ⟨Bh0, 3, none⟩ (.slice Ah0 Nh0 Ch0) (.inl yn5)
  replace oh0 := oh0.set ⟨Bh0, 3, none⟩ (.slice Ah0 Nh0 Ch0) hsh0
  replace m18 := m18.put ⟨Bh0, 3, none⟩ (.slice Ah0 Nh0 Ch0) hbh00
  have zq : ((((wq18.setCell ⟨Bh0, 0, none⟩ (.int .i64 a0_0)).setCell ⟨Bh0, 1, none⟩ (.int .i64 a0_1)).setCell ⟨Bh0, 2, none⟩ (.int .i64 (nextV (hdB a0_0 a0_1 a0_2 a1_0 a1_1 a1_2 a1_8) a0_2))).setCell ⟨Bh0, 3, none⟩ (.slice Ah0 Nh0 Ch0)).heap.size = wq18.heap.size := by simp only [World.size_set]
  clear hzh0 hfh0 hAh0 hgh0 hBE
  generalize ((((wq18.setCell ⟨Bh0, 0, none⟩ (.int .i64 a0_0)).setCell ⟨Bh0, 1, none⟩ (.int .i64 a0_1)).setCell ⟨Bh0, 2, none⟩ (.int .i64 (nextV (hdB a0_0 a0_1 a0_2 a1_0 a1_1 a1_2 a1_8) a0_2))).setCell ⟨Bh0, 3, none⟩ (.slice Ah0 Nh0 Ch0)) = w18 at *
  rw [← zq] at hhh0 hlth0
  clear zq
  clear yn0 yn1 yn2 yn3 yn4 yn5
  refine wpAny_doneN (by kernel_rfl) ?_
  refine ‹∀ (a : Act) (w : World), _ → _› _ _ ?_
  clear hN0_3 hN1_3 hN1_9 yr18_0 yr18_1 yr18_2 yr18_3 yr18_4 yr18_5
  obtain rfl : Nw0 = Nh0 := ow0.1.symm.trans oh0.1
  replace ow0 := ow0.mk m18 (by omega) (.inr (.inr (Nat.le_refl _)))
  replace og0 := og0.mk m18 (by omega) (.inr (.inr (Nat.le_refl _)))
  have M18 := M17.trans m18
  have z18 := m18.size
  go_wp2_with fail
  refine (eqInboxCB _ _ _ _ _ _ _ _ _ _ _ _ oh0.hasMessage ow0.hasMessage (by omega) (by omega) hbw0).mono ?_
  rintro e w19 ⟨rfl, m19⟩
  have M19 := M18.trans m19
  have z19 := m19.size
  replace k0_0 := m19.cellAt k0_0
  replace k0_1 := m19.cellAt k0_1
  replace k0_2 := m19.cellAt k0_2
  replace k0_3 := m19.cellAt k0_3
  replace k1_0 := m19.cellAt k1_0
  replace k1_1 := m19.cellAt k1_1
  replace k1_2 := m19.cellAt k1_2
  replace k1_3 := m19.cellAt k1_3
  replace k1_4 := m19.cellAt k1_4
  replace k1_5 := m19.cellAt k1_5
  replace k1_6 := m19.cellAt k1_6
  replace k1_7 := m19.cellAt k1_7
  replace k1_8 := m19.cellAt k1_8
  replace k1_9 := m19.cellAt k1_9
  replace xw0_0 := m19.cellAt xw0_0
  replace xw0_1 := m19.cellAt xw0_1
  replace xw0_2 := m19.cellAt xw0_2
  replace xw0_3 := m19.cellAt xw0_3
  replace xx0_0 := m19.cellAt xx0_0
  replace xx0_1 := m19.cellAt xx0_1
  replace xx0_2 := m19.cellAt xx0_2
  replace xx0_3 := m19.cellAt xx0_3
  replace xx1_0 := m19.cellAt xx1_0
  replace xx1_1 := m19.cellAt xx1_1
  replace xx1_2 := m19.cellAt xx1_2
  replace xx1_3 := m19.cellAt xx1_3
  replace xx1_4 := m19.cellAt xx1_4
  replace xx1_5 := m19.cellAt xx1_5
  replace xx1_6 := m19.cellAt xx1_6
  replace xx1_7 := m19.cellAt xx1_7
  replace xx1_8 := m19.cellAt xx1_8
  replace xx1_9 := m19.cellAt xx1_9
  replace xg0_0 := m19.cellAt xg0_0
  replace xg0_1 := m19.cellAt xg0_1
  replace xg0_2 := m19.cellAt xg0_2
  replace xg0_3 := m19.cellAt xg0_3
  replace xh0_0 := m19.cellAt xh0_0
  replace xh0_1 := m19.cellAt xh0_1
  replace xh0_2 := m19.cellAt xh0_2
  replace xh0_3 := m19.cellAt xh0_3
  replace ow0 := ow0.mk m19 (by omega) (.inr (.inr (Nat.le_refl _)))
  replace og0 := og0.mk m19 (by omega) (.inr (.inr (Nat.le_refl _)))
  replace oh0 := oh0.mk m19 (by omega) (.inr (.inr (Nat.le_refl _)))
  go_wp2_with fail
  refine (heldInboxN _ _ _ _ _ _ _ _ (moreL (hdB a0_0 a0_1 a0_2 a1_0 a1_1 a1_2 a1_8) z0_3 ⟨z1_9⟩) _ og0.hasMessage (by omega) (by omega) hbw0t (by omega) (by omega)).mono ?_
  rintro e w20 ⟨rfl, m20⟩
  have M20 := M19.trans m20
  have z20 := m20.size
  replace k0_0 := m20.cellAt k0_0
  replace k0_1 := m20.cellAt k0_1
  replace k0_2 := m20.cellAt k0_2
  replace k0_3 := m20.cellAt k0_3
  replace k1_0 := m20.cellAt k1_0
  replace k1_1 := m20.cellAt k1_1
  replace k1_2 := m20.cellAt k1_2
  replace k1_3 := m20.cellAt k1_3
  replace k1_4 := m20.cellAt k1_4
  replace k1_5 := m20.cellAt k1_5
  replace k1_6 := m20.cellAt k1_6
  replace k1_7 := m20.cellAt k1_7
  replace k1_8 := m20.cellAt k1_8
  replace k1_9 := m20.cellAt k1_9
  replace xw0_0 := m20.cellAt xw0_0
  replace xw0_1 := m20.cellAt xw0_1
  replace xw0_2 := m20.cellAt xw0_2
  replace xw0_3 := m20.cellAt xw0_3
  replace xx0_0 := m20.cellAt xx0_0
  replace xx0_1 := m20.cellAt xx0_1
  replace xx0_2 := m20.cellAt xx0_2
  replace xx0_3 := m20.cellAt xx0_3
  replace xx1_0 := m20.cellAt xx1_0
  replace xx1_1 := m20.cellAt xx1_1
  replace xx1_2 := m20.cellAt xx1_2
  replace xx1_3 := m20.cellAt xx1_3
  replace xx1_4 := m20.cellAt xx1_4
  replace xx1_5 := m20.cellAt xx1_5
  replace xx1_6 := m20.cellAt xx1_6
  replace xx1_7 := m20.cellAt xx1_7
  replace xx1_8 := m20.cellAt xx1_8
  replace xx1_9 := m20.cellAt xx1_9
  replace xg0_0 := m20.cellAt xg0_0
  replace xg0_1 := m20.cellAt xg0_1
  replace xg0_2 := m20.cellAt xg0_2
  replace xg0_3 := m20.cellAt xg0_3
  replace xh0_0 := m20.cellAt xh0_0
  replace xh0_1 := m20.cellAt xh0_1
  replace xh0_2 := m20.cellAt xh0_2
  replace xh0_3 := m20.cellAt xh0_3
  replace ow0 := ow0.mk m20 (by omega) (.inr (.inr (Nat.le_refl _)))
  replace og0 := og0.mk m20 (by omega) (.inr (.inr (Nat.le_refl _)))
  replace oh0 := oh0.mk m20 (by omega) (.inr (.inr (Nat.le_refl _)))
  go_wp2_with fail
  go_ret
  exact ⟨rfl, M20.below0⟩

set_option maxRecDepth 100000 in
theorem lifted (os : Os) (started : os.Started) (H : Type) (enc : TypeId × Value → H) :
    ReturnsInHanded {} Try.checked os 6 .any (Rows.fnExactHandleDataSpec.pre6 enc Try.prog Try.f6 Rows.fnExactHandleDataRow.domain false) (Rows.fnExactHandleDataSpec.post enc Try.prog Try.f6 false true false false) := by
  refine returnsInHanded_of_change (C := Try.checked) own started (by kernel_rfl) Try.func6
    (ChangeSpec.witness6 (enc := enc) (C := Try.checked) false ⟨#[], #[.agg #[.int .i64 0, .int .i64 0, .int .i64 0, .slice none 0 0], .agg #[.int .i64 0, .int .i64 0, .int .i64 0, .slice none 0 0, .int .i64 0, .int .i64 0, .int .i64 0, .int .i64 0, .int .i64 0, .slice none 0 0]], []⟩ 8 (by kernel_rfl) (by kernel_rfl) (by kernel_rfl) (by kernel_rfl)) ?_
  intro W base args ds gs before hval0 hW hcnd _
  have hval : ∀ (j : Nat) t v, Try.f6.params[j]? = some t → args[j]? = some v → Value.okWide Try.prog W .any base t v := hval0
  have hW' := hW
  obtain ⟨p, q, hA0, hV, rfl, hfz, hnd⟩ := hW
  have hA : DataW.TrodAll enc Try.prog W 0 (fun _ => true) true Try.f6.params.toList args.toList ds p := hA0
  rw [Try.params6] at hA hval
  obtain ⟨v0, vs0, d0, ds0, p0, q0, hargs, rfl, rfl, h0, r0⟩ := trodAll_cons hA
  obtain ⟨v1, vs1, d1, ds1, p1, q1, rfl, rfl, rfl, h1, r1⟩ := trodAll_cons r0
  obtain ⟨rfl, rfl, rfl⟩ := trodAll_nil r1
  obtain rfl : args = #[v0, v1] := by cases args; simp_all
  obtain ⟨rfl, rfl⟩ := trodVars_none hV
  have k0 := h0
  have lt0 : ∀ x ∈ p0, x.block < W.heap.size := by obtain ⟨m, hm⟩ := k0; exact DataW.trod_lt m _ _ _ hm
  obtain ⟨cs0, rfl, hcs0, hf0⟩ := open_agg Try.underlying48 (by kernel_rfl) (by kernel_rfl) (hval 0 48 v0 rfl rfl) h0
  obtain ⟨_, _, _, e0_0, q0_0⟩ := hf0 0 _ rfl
  obtain ⟨a0_0, rfl, w0_0⟩ := one_int Try.underlying3 q0_0
  obtain ⟨_, _, _, e0_1, q0_1⟩ := hf0 1 _ rfl
  obtain ⟨a0_1, rfl, w0_1⟩ := one_int Try.underlying3 q0_1
  obtain ⟨_, _, _, e0_2, q0_2⟩ := hf0 2 _ rfl
  obtain ⟨a0_2, rfl, w0_2⟩ := one_int Try.underlying3 q0_2
  obtain ⟨_, _, _, e0_3, q0_3⟩ := hf0 3 _ rfl
  obtain ⟨a0_3, n0_3, c0_3, z0_3, rfl, m0_3, h0_3, f0_3⟩ := openMessageS q0_3
  obtain rfl : cs0 = #[.int .i64 a0_0, .int .i64 a0_1, .int .i64 a0_2, .slice a0_3 n0_3 c0_3] := arr_of [.int .i64 a0_0, .int .i64 a0_1, .int .i64 a0_2, .slice a0_3 n0_3 c0_3] hcs0 (fun j hj => by match j, hj with | 0, _ => exact e0_0 | 1, _ => exact e0_1 | 2, _ => exact e0_2 | 3, _ => exact e0_3)
  have k1 := h1
  have lt1 : ∀ x ∈ p1, x.block < W.heap.size := by obtain ⟨m, hm⟩ := k1; exact DataW.trod_lt m _ _ _ hm
  obtain ⟨cs1, rfl, hcs1, hl1⟩ := lf_open 10 Try.underlying54 (by kernel_rfl) (hval 1 54 v1 rfl rfl) h1
  have L1_0 := lf_field (a := 0) (b := 1) 0 _ Try.underlying54 rfl rfl (by kernel_rfl) (by decide) hl1
  obtain ⟨_, _, _, e1_0, q1_0⟩ := lf_leaf (o := 0) (by rw [hcs1]; decide) L1_0
  have L1_1 := lf_field (a := 1) (b := 1) 1 _ Try.underlying54 rfl rfl (by kernel_rfl) (by decide) hl1
  obtain ⟨_, _, _, e1_1, q1_1⟩ := lf_leaf (o := 1) (by rw [hcs1]; decide) L1_1
  have L1_2 := lf_field (a := 2) (b := 1) 2 _ Try.underlying54 rfl rfl (by kernel_rfl) (by decide) hl1
  obtain ⟨_, _, _, e1_2, q1_2⟩ := lf_leaf (o := 2) (by rw [hcs1]; decide) L1_2
  have L1_3 := lf_field (a := 3) (b := 1) 3 _ Try.underlying54 rfl rfl (by kernel_rfl) (by decide) hl1
  have L1_3x0 := lf_field (a := 0) (b := 1) 0 _ Try.underlying51 rfl rfl (by kernel_rfl) (by decide) L1_3
  obtain ⟨_, _, _, e1_3, q1_3⟩ := lf_leaf (o := 3) (by rw [hcs1]; decide) L1_3x0
  have L1_4 := lf_field (a := 4) (b := 1) 4 _ Try.underlying54 rfl rfl (by kernel_rfl) (by decide) hl1
  obtain ⟨_, _, _, e1_4, q1_4⟩ := lf_leaf (o := 4) (by rw [hcs1]; decide) L1_4
  have L1_5 := lf_field (a := 5) (b := 1) 5 _ Try.underlying54 rfl rfl (by kernel_rfl) (by decide) hl1
  obtain ⟨_, _, _, e1_5, q1_5⟩ := lf_leaf (o := 5) (by rw [hcs1]; decide) L1_5
  have L1_6 := lf_field (a := 6) (b := 1) 6 _ Try.underlying54 rfl rfl (by kernel_rfl) (by decide) hl1
  obtain ⟨_, _, _, e1_6, q1_6⟩ := lf_leaf (o := 6) (by rw [hcs1]; decide) L1_6
  have L1_7 := lf_field (a := 7) (b := 1) 7 _ Try.underlying54 rfl rfl (by kernel_rfl) (by decide) hl1
  obtain ⟨_, _, _, e1_7, q1_7⟩ := lf_leaf (o := 7) (by rw [hcs1]; decide) L1_7
  have L1_8 := lf_field (a := 8) (b := 1) 8 _ Try.underlying54 rfl rfl (by kernel_rfl) (by decide) hl1
  obtain ⟨_, _, _, e1_8, q1_8⟩ := lf_leaf (o := 8) (by rw [hcs1]; decide) L1_8
  have L1_9 := lf_field (a := 9) (b := 1) 9 _ Try.underlying54 rfl rfl (by kernel_rfl) (by decide) hl1
  obtain ⟨_, _, _, e1_9, q1_9⟩ := lf_leaf (o := 9) (by rw [hcs1]; decide) L1_9
  obtain ⟨a1_0, rfl, w1_0⟩ := one_int Try.underlying3 q1_0
  obtain ⟨a1_1, rfl, w1_1⟩ := one_int Try.underlying3 q1_1
  obtain ⟨a1_2, rfl, w1_2⟩ := one_int Try.underlying3 q1_2
  obtain ⟨a1_3, n1_3, c1_3, z1_3, rfl, m1_3, h1_3, f1_3⟩ := openPathPartS q1_3
  obtain ⟨a1_4, rfl, w1_4⟩ := one_int Try.underlying3 q1_4
  obtain ⟨a1_5, rfl, w1_5⟩ := one_int Try.underlying3 q1_5
  obtain ⟨a1_6, rfl, w1_6⟩ := one_int Try.underlying3 q1_6
  obtain ⟨a1_7, rfl, w1_7⟩ := one_int Try.underlying3 q1_7
  obtain ⟨a1_8, rfl, w1_8⟩ := one_int Try.underlying3 q1_8
  obtain ⟨a1_9, n1_9, c1_9, z1_9, rfl, m1_9, h1_9, f1_9⟩ := openByteS q1_9
  obtain rfl : cs1 = #[.int .i64 a1_0, .int .i64 a1_1, .int .i64 a1_2, .slice a1_3 n1_3 c1_3, .int .i64 a1_4, .int .i64 a1_5, .int .i64 a1_6, .int .i64 a1_7, .int .i64 a1_8, .slice a1_9 n1_9 c1_9] := arr_of [.int .i64 a1_0, .int .i64 a1_1, .int .i64 a1_2, .slice a1_3 n1_3 c1_3, .int .i64 a1_4, .int .i64 a1_5, .int .i64 a1_6, .int .i64 a1_7, .int .i64 a1_8, .slice a1_9 n1_9 c1_9] hcs1 (fun j hj => by match j, hj with | 0, _ => exact e1_0 | 1, _ => exact e1_1 | 2, _ => exact e1_2 | 3, _ => exact e1_3 | 4, _ => exact e1_4 | 5, _ => exact e1_5 | 6, _ => exact e1_6 | 7, _ => exact e1_7 | 8, _ => exact e1_8 | 9, _ => exact e1_9)
  clear hA0 hval0
  refine (walk a0_0 a0_1 a0_2 a0_3 n0_3 c0_3 z0_3 a1_0 a1_1 a1_2 a1_3 n1_3 c1_3 z1_3 a1_4 a1_5 a1_6 a1_7 a1_8 a1_9 n1_9 c1_9 z1_9 W w0_0 w0_1 w0_2 h0_3 m0_3 f0_3 w1_0 w1_1 w1_2 h1_3 m1_3 f1_3 w1_4 w1_5 w1_6 w1_7 w1_8 h1_9 m1_9 f1_9).mono fun e W' ⟨he, bel⟩ => ?_
  subst he
  exact ⟨_, rfl, _, _, _, [], _, [], hW', trodAll_mk1 (shut_bool Try.underlying4 _), (trodAll_cons_mk (Below.trod laidOut (by kernel_rfl) (of_decide_eq_true (by kernel_rfl)) k0 bel lt0) (trodAll_cons_mk (Below.trod laidOut (by kernel_rfl) (of_decide_eq_true (by kernel_rfl)) k1 bel lt1) trodAll_mk0)), rfl, bel.frame _, fun h => by cases h⟩

theorem over : Rows.fnExactHandleDataRow.holds Try.pinned (OpenSpec.ofChange Rows.fnExactHandleDataSpec) :=
  OpenClaim.holds_of_wide 6 Try.f6 rfl rfl rfl rfl rfl rfl rfl ⟨rfl, rfl, rfl, rfl, rfl⟩ rfl rfl rfl rfl rfl (by kernel_rfl) Try.func6 (by kernel_rfl)
    (of_decide_eq_true (by kernel_rfl)) (by unfold Func.isWrapper; first | (rw [if_pos (by decide +kernel)]; kernel_rfl) | (rw [if_neg (by decide +kernel)]; exact ⟨rfl, rfl⟩))
    (fun os started H enc _ => lifted os started H enc)

theorem proved : Rows.FnExactHandleDataSaid := over
#print axioms proved
end Go.Proofs.Ytdlafigjkefllaa.fnExactHandleData
