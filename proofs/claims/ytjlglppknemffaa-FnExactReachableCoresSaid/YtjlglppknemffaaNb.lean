
/- neighbours, l7Behind, Parents and Children of both sides. -/
import Derived.Test.YtjlglppknemffaaKnd
import Derived.Test.YtjlglppknemffaaLkMore
import Derived.Test.YtjlglppknemffaaElSpec
import Derived.Test.YtjlglppknemffaaSetOps
import Derived.Test.YtjlglppknemffaaElems
namespace Go.Proofs.Ytjlglppknemffaa
open Go.ChangeShapes Go.WideShapes Go.ChangeAt Go.RowKit
set_option linter.unusedVariables false
theorem Has.mk2 {k : IntKind} {w w' : World} {A : Option Addr} {n : Nat} {zs : List Int} (h : Has k w w.heap.size A n zs) (m : Mk0 w w') : Has k w' w.heap.size A n zs :=
  h.keep fun p hp => World.cell?_of_block (w := w) (m.block p.block hp (.inr (Nat.zero_le _)))
def nbUp (zl : List TLink) (n1 : Nat) (r : Int) (L : List Int) : Nat → Int
  | 0 => 0
  | k + 1 => addV (nbUp zl n1 r L k) (remote zl r (L.getD k 0) n1).1
/-- The set of the ASes behind the interfaces of a kind. -/
def nbS (zl : List TLink) (n1 : Nat) (r kd : Int) : Int := nbUp zl n1 r (ikL zl n1 r kd) (ikL zl n1 r kd).length
set_option maxRecDepth 100000 in
set_option maxHeartbeats 4000000 in
theorem specNb (a0 a1 : Option Addr) (n0 c0 n1 c1 B : Nat) (zl : List TLink) (r kd : Int) (w : World) (hl : HasLink w B a1 n1 zl) (hB : B ≤ w.heap.size) (hn1 : n1 ≤ 1048576) :
    Calls Try.prog 67 #[.agg #[.slice a0 n0 c0, .slice a1 n1 c1], .int .i64 r, .int .i64 kd] w (OutR .i64 w (elN (nbS zl n1 r kd) 16)) := by
  have M0 := Mk.alloc w (Obj.cells #[Value.slice a0 n0 c0, Value.slice a1 n1 c1] 31)
  have k0 : (w.alloc (Obj.cells #[Value.slice a0 n0 c0, Value.slice a1 n1 c1] 31)).cell? ⟨w.heap.size, 0, none⟩ = some (.slice a0 n0 c0) := by simp [go_sem]
  have k1 : (w.alloc (Obj.cells #[Value.slice a0 n0 c0, Value.slice a1 n1 c1] 31)).cell? ⟨w.heap.size, 1, none⟩ = some (.slice a1 n1 c1) := by simp [go_sem]
  go_enter Try.func67, Try.ntmps67
  go_wp2_with fail
  refine (specIk a0 a1 n0 c0 n1 c1 B zl r kd _ (hl.mk M0 hB (.inr (Nat.le_refl _))) (Nat.le_trans hB M0.size) hn1).mono ?_
  rintro e w2 ⟨A, N, C, rfl, hAc, hO, b2⟩
  have m2 := Mk.of_below b2
  replace k0 := m2.cellAt k0
  replace k1 := m2.cellAt k1
  have M2 := M0.trans m2
  have hN := hO.1
  have hNb : N ≤ 2097152 := by have h1 := ikL_le zl n1 r kd; omega
  have HR := Lib.hid (show nbS zl n1 r kd = nbUp zl n1 r (ikL zl n1 r kd) N by unfold nbS; rw [hN])
  have hH := hO.has
  clear hO hN m2 b2 hAc
  go_wp2_with fail
  go_loopw [7, 9] (fun v i wr => ∃ k : Nat, k ≤ N ∧ i = .int .i64 k ∧ v = .int .i64 (nbUp zl n1 r (ikL zl n1 r kd) k) ∧ Mk0 w2 wr) (fun _ i _ => N - (intOf i).toNat)
  case atStart => exact ⟨0, Nat.zero_le _, rfl, rfl, Mk.refl _ _ _⟩
  case round =>
    obtain ⟨k, hk, rfl, rfl, hM⟩ := hrel
    replace k0 := hM.cellAt k0
    replace k1 := hM.cellAt k1
    have hM' := M2.trans hM
    obtain ⟨T, hT⟩ : ∃ T, Hid (T = nbUp zl n1 r (ikL zl n1 r kd) k) := ⟨_, Lib.hid rfl⟩
    rw [← hT.out]
    by_cases hlt : k < N
    · have hH2 := hH.mk2 hM
      obtain ⟨b, off, z, rfl, hb, hz, ci⟩ := hH2.at_ hlt
      clear hH2
      have i1 : (0 : Int) ≤ (k : Int) := by omega
      have i2 : (k : Int) < (N : Int) := by omega
      obtain ⟨R1, hR1⟩ : ∃ R, Hid (R = (remote zl r z n1).1) := ⟨_, Lib.hid rfl⟩
      obtain ⟨R2, hR2⟩ : ∃ R, Hid (R = (remote zl r z n1).2) := ⟨_, Lib.hid rfl⟩
      have HE := Lib.hid (show nbUp zl n1 r (ikL zl n1 r kd) (k + 1) = addV T R1 by rw [nbUp, ← hz.out, ← hR1.out, hT.out])
      go_wp2_with fail
      refine wp_region_wk (fun w' => Mk0 wr w' ∧ w'.cell? ⟨w.heap.size, 0, none⟩ = some (.slice a0 n0 c0) ∧ w'.cell? ⟨w.heap.size, 1, none⟩ = some (.slice a1 n1 c1) ∧ w'.cell? ⟨b, off + k, none⟩ = some (.int .i64 z)) (by kernel_rfl) (by kernel_rfl) (⟨Mk.drew1 _, k0, k1, ci⟩) ?_
      change Wk _ _ _ _ 12 0 _
      first | (refine Wk.skip (m := 11) (k := 0) rfl (by rfl) ?_) | (refine Wk.step (m := 11) (k := 0) (v := _) rfl (by rfl) (fun wv hS => by obtain ⟨s0, s1, s2, s3⟩ := hS; go_simp; try with_reducible rfl) ?_)
      try simp only [Act.put, List.getElem_toArray, List.getElem_cons_zero, List.setIfInBounds_toArray, List.set_cons_zero, List.set_cons_succ]
      first | (refine Wk.skip (m := 10) (k := 1) rfl (by rfl) ?_) | (refine Wk.step (m := 10) (k := 1) (v := _) rfl (by rfl) (fun wv hS => by obtain ⟨s0, s1, s2, s3⟩ := hS; go_simp; try with_reducible rfl) ?_)
      try simp only [Act.put, List.getElem_toArray, List.getElem_cons_succ, List.getElem_cons_zero, List.setIfInBounds_toArray, List.set_cons_zero, List.set_cons_succ]
      first | (refine Wk.skip (m := 9) (k := 2) rfl (by rfl) ?_) | (refine Wk.step (m := 9) (k := 2) (v := _) rfl (by rfl) (fun wv hS => by obtain ⟨s0, s1, s2, s3⟩ := hS; go_simp; try with_reducible rfl) ?_)
      try simp only [Act.put, List.getElem_toArray, List.getElem_cons_succ, List.getElem_cons_zero, List.setIfInBounds_toArray, List.set_cons_zero, List.set_cons_succ]
      first | (refine Wk.skip (m := 8) (k := 3) rfl (by rfl) ?_) | (refine Wk.step (m := 8) (k := 3) (v := _) rfl (by rfl) (fun wv hS => by obtain ⟨s0, s1, s2, s3⟩ := hS; go_simp; try with_reducible rfl) ?_)
      try simp only [Act.put, List.getElem_toArray, List.getElem_cons_succ, List.getElem_cons_zero, List.setIfInBounds_toArray, List.set_cons_zero, List.set_cons_succ]
      first | (refine Wk.skip (m := 7) (k := 4) rfl (by rfl) ?_) | (refine Wk.step (m := 7) (k := 4) (v := _) rfl (by rfl) (fun wv hS => by obtain ⟨s0, s1, s2, s3⟩ := hS; go_simp; try with_reducible rfl) ?_)
      try simp only [Act.put, List.getElem_toArray, List.getElem_cons_succ, List.getElem_cons_zero, List.setIfInBounds_toArray, List.set_cons_zero, List.set_cons_succ]
      first | (refine Wk.skip (m := 6) (k := 5) rfl (by rfl) ?_) | (refine Wk.step (m := 6) (k := 5) (v := _) rfl (by rfl) (fun wv hS => by obtain ⟨s0, s1, s2, s3⟩ := hS; go_simp; try with_reducible rfl) ?_)
      try simp only [Act.put, List.getElem_toArray, List.getElem_cons_succ, List.getElem_cons_zero, List.setIfInBounds_toArray, List.set_cons_zero, List.set_cons_succ]
      refine Wk.call (m := 5) (k := 6) (v := .tuple #[.int .i64 R1, .int .i64 R2]) _ _ rfl (by rfl) (fun wv hS => by obtain ⟨s0, s1, s2, s3⟩ := hS; go_simp; first | done | exact ⟨rfl, rfl⟩ | with_reducible rfl) (fun wv hS => ?_) ?_; · obtain ⟨s0, s1, s2, s3⟩ := hS; refine (specRemote a0 a1 n0 c0 n1 c1 B zl r z wv (hl.mk (hM'.trans s0) hB (.inr (Nat.le_refl _))) (Nat.le_trans hB (hM'.trans s0).size) hn1).mono ?_; rintro e w' ⟨he, mm⟩; exact ⟨by rw [he, ← hR1.out, ← hR2.out], ⟨s0.trans mm, mm.cellAt s1, mm.cellAt s2, mm.cellAt s3⟩⟩
      try simp only [Act.put, List.getElem_toArray, List.getElem_cons_succ, List.getElem_cons_zero, List.setIfInBounds_toArray, List.set_cons_zero, List.set_cons_succ]
      first | (refine Wk.skip (m := 4) (k := 7) rfl (by rfl) ?_) | (refine Wk.step (m := 4) (k := 7) (v := _) rfl (by rfl) (fun wv hS => by obtain ⟨s0, s1, s2, s3⟩ := hS; go_simp; try with_reducible rfl) ?_)
      try simp only [Act.put, List.getElem_toArray, List.getElem_cons_succ, List.getElem_cons_zero, List.setIfInBounds_toArray, List.set_cons_zero, List.set_cons_succ]
      first | (refine Wk.skip (m := 3) (k := 8) rfl (by rfl) ?_) | (refine Wk.step (m := 3) (k := 8) (v := _) rfl (by rfl) (fun wv hS => by obtain ⟨s0, s1, s2, s3⟩ := hS; go_simp; try with_reducible rfl) ?_)
      try simp only [Act.put, List.getElem_toArray, List.getElem_cons_succ, List.getElem_cons_zero, List.setIfInBounds_toArray, List.set_cons_zero, List.set_cons_succ]
      first | (refine Wk.skip (m := 2) (k := 9) rfl (by rfl) ?_) | (refine Wk.step (m := 2) (k := 9) (v := _) rfl (by rfl) (fun wv hS => by obtain ⟨s0, s1, s2, s3⟩ := hS; go_simp; try with_reducible rfl) ?_)
      try simp only [Act.put, List.getElem_toArray, List.getElem_cons_succ, List.getElem_cons_zero, List.setIfInBounds_toArray, List.set_cons_zero, List.set_cons_succ]
      first | (refine Wk.skip (m := 1) (k := 10) rfl (by rfl) ?_) | (refine Wk.step (m := 1) (k := 10) (v := _) rfl (by rfl) (fun wv hS => by obtain ⟨s0, s1, s2, s3⟩ := hS; go_simp; try with_reducible rfl) ?_)
      try simp only [Act.put, List.getElem_toArray, List.getElem_cons_succ, List.getElem_cons_zero, List.setIfInBounds_toArray, List.set_cons_zero, List.set_cons_succ]
      first | (refine Wk.skip (m := 0) (k := 11) rfl (by rfl) ?_) | (refine Wk.step (m := 0) (k := 11) (v := _) rfl (by rfl) (fun wv hS => by obtain ⟨s0, s1, s2, s3⟩ := hS; go_simp; try with_reducible rfl) ?_)
      try simp only [Act.put, List.getElem_toArray, List.getElem_cons_succ, List.getElem_cons_zero, List.setIfInBounds_toArray, List.set_cons_zero, List.set_cons_succ]
      refine Wk.done fun wE hE => ?_
      clear k0 k1 ci
      obtain ⟨mE, k0, k1, ci⟩ := hE
      go_wp2_with fail
      refine (specAddElement T R1 _).mono ?_
      rintro e w' ⟨rfl, rfl⟩
      go_wp2_with fail
      go_roundw
      case rel => exact ⟨k + 1, by omega, by go_num, congrArg (Value.int .i64) HE.out.symm, hM.trans mE⟩
      case measure => simp [intOf]; omega
    · obtain rfl : k = N := by omega
      go_wp2_with fail
      refine (specElements T _).mono ?_
      rintro e w5 ⟨A5, N5, C5, rfl, hc5, o5, b5⟩
      go_wp2_with fail
      go_ret
      exact ⟨A5, N5, C5, rfl, hc5, by rw [HR.out, ← hT.out]; exact o5.low hM'.size, (hM'.trans (Mk.of_below b5)).below0⟩

set_option maxRecDepth 100000 in
set_option maxHeartbeats 4000000 in
theorem implNb (a0 a1 : Option Addr) (n0 c0 n1 c1 B : Nat) (zl : List TLink) (r kd : Int) (w : World) (hl : HasLink w B a1 n1 zl) (hB : B ≤ w.heap.size) (hn1 : n1 ≤ 1048576) :
    Calls Try.prog 69 #[.agg #[.slice a0 n0 c0, .slice a1 n1 c1], .int .i64 r, .int .i64 kd] w (fun e w' => e = .returned (.int .i64 (nbS zl n1 r kd)) ∧ Mk0 w w') := by
  have M0 := Mk.alloc w (Obj.cells #[Value.slice a0 n0 c0, Value.slice a1 n1 c1] 31)
  have k0 : (w.alloc (Obj.cells #[Value.slice a0 n0 c0, Value.slice a1 n1 c1] 31)).cell? ⟨w.heap.size, 0, none⟩ = some (.slice a0 n0 c0) := by simp [go_sem]
  have k1 : (w.alloc (Obj.cells #[Value.slice a0 n0 c0, Value.slice a1 n1 c1] 31)).cell? ⟨w.heap.size, 1, none⟩ = some (.slice a1 n1 c1) := by simp [go_sem]
  go_enter Try.func69, Try.ntmps69
  go_wp2_with fail
  refine (implIk a0 a1 n0 c0 n1 c1 B zl r kd _ (hl.mk M0 hB (.inr (Nat.le_refl _))) (Nat.le_trans hB M0.size) hn1).mono ?_
  rintro e w2 ⟨A, N, C, rfl, hAc, hO, b2⟩
  have m2 := Mk.of_below b2
  replace k0 := m2.cellAt k0
  replace k1 := m2.cellAt k1
  have M2 := M0.trans m2
  have hN := hO.1
  have hNb : N ≤ 2097152 := by have h1 := ikL_le zl n1 r kd; omega
  have HR := Lib.hid (show nbS zl n1 r kd = nbUp zl n1 r (ikL zl n1 r kd) N by unfold nbS; rw [hN])
  have hH := hO.has
  clear hO hN m2 b2 hAc
  go_wp2_with fail
  go_loopw [7, 17] (fun v i wr => ∃ k : Nat, k ≤ N ∧ i = .int .i64 k ∧ v = .int .i64 (nbUp zl n1 r (ikL zl n1 r kd) k) ∧ Mk0 w2 wr) (fun _ i _ => N - (intOf i).toNat)
  case atStart => exact ⟨0, Nat.zero_le _, rfl, rfl, Mk.refl _ _ _⟩
  case round =>
    obtain ⟨k, hk, rfl, rfl, hM⟩ := hrel
    replace k0 := hM.cellAt k0
    replace k1 := hM.cellAt k1
    have hM' := M2.trans hM
    obtain ⟨T, hT⟩ : ∃ T, Hid (T = nbUp zl n1 r (ikL zl n1 r kd) k) := ⟨_, Lib.hid rfl⟩
    rw [← hT.out]
    by_cases hlt : k < N
    · have hH2 := hH.mk2 hM
      obtain ⟨b, off, z, rfl, hb, hz, ci⟩ := hH2.at_ hlt
      clear hH2
      have i1 : (0 : Int) ≤ (k : Int) := by omega
      have i2 : (k : Int) < (N : Int) := by omega
      obtain ⟨R1, hR1⟩ : ∃ R, Hid (R = (remote zl r z n1).1) := ⟨_, Lib.hid rfl⟩
      obtain ⟨R2, hR2⟩ : ∃ R, Hid (R = (remote zl r z n1).2) := ⟨_, Lib.hid rfl⟩
      have HE := Lib.hid (show nbUp zl n1 r (ikL zl n1 r kd) (k + 1) = addV T R1 by rw [nbUp, ← hz.out, ← hR1.out, hT.out])
      go_wp2_with fail
      refine (implRemote a0 a1 n0 c0 n1 c1 B zl r z _ (hl.mk hM' hB (.inr (Nat.le_refl _))) (Nat.le_trans hB hM'.size) hn1).mono ?_
      rintro e wE ⟨rfl, mE⟩
      rw [← hR1.out, ← hR2.out]
      go_wp2_with fail
      refine (implAddElement T R1 _).mono ?_
      rintro e w' ⟨rfl, rfl⟩
      go_wp2_with fail
      go_roundw
      case rel => exact ⟨k + 1, by omega, by go_num, congrArg (Value.int .i64) HE.out.symm, hM.trans mE⟩
      case measure => simp [intOf]; omega
    · obtain rfl : k = N := by omega
      go_wp2_with fail
      go_ret
      exact ⟨retI (by rw [HR.out, ← hT.out]), hM'⟩

set_option maxRecDepth 100000 in
set_option maxHeartbeats 4000000 in
theorem specParents (a0 a1 : Option Addr) (n0 c0 n1 c1 B : Nat) (zl : List TLink) (r : Int) (w : World) (hl : HasLink w B a1 n1 zl) (hB : B ≤ w.heap.size) (hn1 : n1 ≤ 1048576) :
    Calls Try.prog 27 #[.agg #[.slice a0 n0 c0, .slice a1 n1 c1], .int .i64 r] w (OutR .i64 w (elN (nbS zl n1 r 3) 16)) := by
  have M0 := Mk.alloc w (Obj.cells #[Value.slice a0 n0 c0, Value.slice a1 n1 c1] 31)
  have k0 : (w.alloc (Obj.cells #[Value.slice a0 n0 c0, Value.slice a1 n1 c1] 31)).cell? ⟨w.heap.size, 0, none⟩ = some (.slice a0 n0 c0) := by simp [go_sem]
  have k1 : (w.alloc (Obj.cells #[Value.slice a0 n0 c0, Value.slice a1 n1 c1] 31)).cell? ⟨w.heap.size, 1, none⟩ = some (.slice a1 n1 c1) := by simp [go_sem]
  go_enter Try.func27, Try.ntmps27
  go_wp2_with fail
  refine (specNb a0 a1 n0 c0 n1 c1 B zl r 3 _ (hl.mk M0 hB (.inr (Nat.le_refl _))) (Nat.le_trans hB M0.size) hn1).mono ?_
  rintro e w2 ⟨A, N, C, rfl, hc, o2, b2⟩
  go_wp2_with fail
  go_ret
  exact ⟨A, N, C, rfl, hc, o2.low M0.size, (M0.trans (Mk.of_below b2)).below0⟩

set_option maxRecDepth 100000 in
set_option maxHeartbeats 4000000 in
theorem implParents (a0 a1 : Option Addr) (n0 c0 n1 c1 B : Nat) (zl : List TLink) (r : Int) (w : World) (hl : HasLink w B a1 n1 zl) (hB : B ≤ w.heap.size) (hn1 : n1 ≤ 1048576) :
    Calls Try.prog 28 #[.agg #[.slice a0 n0 c0, .slice a1 n1 c1], .int .i64 r] w (OutR .i64 w (elN (nbS zl n1 r 3) 16)) := by
  have M0 := Mk.alloc w (Obj.cells #[Value.slice a0 n0 c0, Value.slice a1 n1 c1] 31)
  have k0 : (w.alloc (Obj.cells #[Value.slice a0 n0 c0, Value.slice a1 n1 c1] 31)).cell? ⟨w.heap.size, 0, none⟩ = some (.slice a0 n0 c0) := by simp [go_sem]
  have k1 : (w.alloc (Obj.cells #[Value.slice a0 n0 c0, Value.slice a1 n1 c1] 31)).cell? ⟨w.heap.size, 1, none⟩ = some (.slice a1 n1 c1) := by simp [go_sem]
  go_enter Try.func28, Try.ntmps28
  go_wp2_with fail
  refine (implNb a0 a1 n0 c0 n1 c1 B zl r 3 _ (hl.mk M0 hB (.inr (Nat.le_refl _))) (Nat.le_trans hB M0.size) hn1).mono ?_
  rintro e w2 ⟨rfl, m2⟩
  go_wp2_with fail
  refine (implElements (nbS zl n1 r 3) _).mono ?_
  rintro e w5 ⟨A, N, C, rfl, hc, o2, b5⟩
  go_wp2_with fail
  go_ret
  exact ⟨A, N, C, rfl, hc, o2.low (M0.trans m2).size, ((M0.trans m2).trans (Mk.of_below b5)).below0⟩

set_option maxRecDepth 100000 in
set_option maxHeartbeats 4000000 in
theorem specChildren (a0 a1 : Option Addr) (n0 c0 n1 c1 B : Nat) (zl : List TLink) (r : Int) (w : World) (hl : HasLink w B a1 n1 zl) (hB : B ≤ w.heap.size) (hn1 : n1 ≤ 1048576) :
    Calls Try.prog 29 #[.agg #[.slice a0 n0 c0, .slice a1 n1 c1], .int .i64 r] w (OutR .i64 w (elN (nbS zl n1 r 2) 16)) := by
  have M0 := Mk.alloc w (Obj.cells #[Value.slice a0 n0 c0, Value.slice a1 n1 c1] 31)
  have k0 : (w.alloc (Obj.cells #[Value.slice a0 n0 c0, Value.slice a1 n1 c1] 31)).cell? ⟨w.heap.size, 0, none⟩ = some (.slice a0 n0 c0) := by simp [go_sem]
  have k1 : (w.alloc (Obj.cells #[Value.slice a0 n0 c0, Value.slice a1 n1 c1] 31)).cell? ⟨w.heap.size, 1, none⟩ = some (.slice a1 n1 c1) := by simp [go_sem]
  go_enter Try.func29, Try.ntmps29
  go_wp2_with fail
  refine (specNb a0 a1 n0 c0 n1 c1 B zl r 2 _ (hl.mk M0 hB (.inr (Nat.le_refl _))) (Nat.le_trans hB M0.size) hn1).mono ?_
  rintro e w2 ⟨A, N, C, rfl, hc, o2, b2⟩
  go_wp2_with fail
  go_ret
  exact ⟨A, N, C, rfl, hc, o2.low M0.size, (M0.trans (Mk.of_below b2)).below0⟩

set_option maxRecDepth 100000 in
set_option maxHeartbeats 4000000 in
theorem implChildren (a0 a1 : Option Addr) (n0 c0 n1 c1 B : Nat) (zl : List TLink) (r : Int) (w : World) (hl : HasLink w B a1 n1 zl) (hB : B ≤ w.heap.size) (hn1 : n1 ≤ 1048576) :
    Calls Try.prog 30 #[.agg #[.slice a0 n0 c0, .slice a1 n1 c1], .int .i64 r] w (OutR .i64 w (elN (nbS zl n1 r 2) 16)) := by
  have M0 := Mk.alloc w (Obj.cells #[Value.slice a0 n0 c0, Value.slice a1 n1 c1] 31)
  have k0 : (w.alloc (Obj.cells #[Value.slice a0 n0 c0, Value.slice a1 n1 c1] 31)).cell? ⟨w.heap.size, 0, none⟩ = some (.slice a0 n0 c0) := by simp [go_sem]
  have k1 : (w.alloc (Obj.cells #[Value.slice a0 n0 c0, Value.slice a1 n1 c1] 31)).cell? ⟨w.heap.size, 1, none⟩ = some (.slice a1 n1 c1) := by simp [go_sem]
  go_enter Try.func30, Try.ntmps30
  go_wp2_with fail
  refine (implNb a0 a1 n0 c0 n1 c1 B zl r 2 _ (hl.mk M0 hB (.inr (Nat.le_refl _))) (Nat.le_trans hB M0.size) hn1).mono ?_
  rintro e w2 ⟨rfl, m2⟩
  go_wp2_with fail
  refine (implElements (nbS zl n1 r 2) _).mono ?_
  rintro e w5 ⟨A, N, C, rfl, hc, o2, b5⟩
  go_wp2_with fail
  go_ret
  exact ⟨A, N, C, rfl, hc, o2.low (M0.trans m2).size, ((M0.trans m2).trans (Mk.of_below b5)).below0⟩

end Go.Proofs.Ytjlglppknemffaa
