
/- SimplePath of both sides. -/
import Derived.Test.YtifhhfndoifbhaaGreatDiffM
import Derived.Test.YtifhhfndoifbhaaGreatSortI
import Derived.Test.YtifhhfndoifbhaaGreatUsed
import Derived.Test.YtifhhfndoifbhaaGreatWfPS
import Derived.Test.YtifhhfndoifbhaaGreatRow
import Derived.Test.YtifhhfndoifbhaaGreatWs
namespace Go.Proofs.YtifhhfndoifbhaaGreat
open Go.ChangeShapes Go.WideShapes Go.ChangeAt Go.RowKit
set_option linter.unusedVariables false
def simB (n0 : Nat) (zl : List TLink) (n1 : Nat) (ps : List TPathPart) (n : Nat) : Bool := wpB n0 zl n1 ps n && diffB (usedAll ps n)
set_option maxRecDepth 100000 in
set_option maxHeartbeats 800000 in
theorem specHasF (a : Option Addr) (n c B : Nat) (zs : List Int) (x : Int) (k : Nat) (w : World) (h : Has .i64 w B a n zs) (hk : k ≤ n) (hn : n ≤ 4194304) :
    Calls Tryz.prog 35 #[.slice a k c, .int .i64 x] w fun e w' => e = .returned (.bool (hasF zs x k)) ∧ w = w' := by
  go_enter Tryz.func35, Tryz.ntmps35
  go_wp2
  go_loop [4, 5] (fun r i => r = .bool false ∧ ∃ j : Nat, j ≤ k ∧ i = .int .i64 j ∧ hasF zs x j = false) (fun _ i => k - (intOf i).toNat)
  case atStart => exact ⟨rfl, 0, Nat.zero_le _, rfl, rfl⟩
  case round =>
    obtain ⟨rfl, j, hj, rfl, hno⟩ := hrel
    by_cases hlt : j < k
    · obtain ⟨b, off, z, rfl, hb, hz, hc⟩ := h.at_ (i := j) (by omega)
      cases he : (z == x)
      · have E := Lib.hid (show hasF zs x (j + 1) = false by rw [hasF, hno, ← hz.out, he]; rfl)
        clear hno
        go_wp2_with fail
        go_round
        case rel => exact ⟨rfl, j + 1, by omega, by go_num, E.out⟩
        case measure => simp [intOf]; omega
      · have E := Lib.hid (hasF_stop (x := x) (by rw [← hz.out]; simpa using he) k hlt)
        clear hno
        go_wp2_with fail
        go_ret
        exact ⟨retB E.out.symm, rfl⟩
    · obtain rfl : j = k := by omega
      have E := Lib.hid hno
      clear hno
      go_wp2
      go_ret
      exact ⟨retB E.out.symm, rfl⟩
set_option maxRecDepth 100000 in
set_option maxHeartbeats 4000000 in
theorem implDiff (a : Option Addr) (n c lo : Nat) (zs : List Int) (w : World) (h : Own .i64 w lo a n zs) (hn : n ≤ 1073741824) (hc : n ≤ c) :
    Calls Tryz.prog 42 #[.slice a n c] w fun e w' => e = .returned (.bool (diffB zs)) ∧ ∃ w1, Mk lo w.heap.size w w1 ∧ Mk lo w1.heap.size w1 w' := by
  have hl := h.1
  go_enter Tryz.func42, Tryz.ntmps42
  go_wp2_with fail
  refine (implSort a n c lo zs _ h hn).mono ?_
  rintro e w2 ⟨rfl, hO2, m2⟩
  go_wp2_with fail
  refine (implCompact a n c lo _ _ hO2 hn hc).mono ?_
  rintro e w3 ⟨rfl, hO3, m3⟩
  have HR := Lib.hid (show (((Lib.compact (sortL zs)).length : Int) == (n : Int)) = diffB zs by rw [← hl]; rfl)
  obtain ⟨P, hP⟩ : ∃ P, Hid (P = (Lib.compact (sortL zs)).length) := ⟨_, Lib.hid rfl⟩
  rw [← hP.out] at hO3 HR ⊢
  go_wp2_with fail
  go_ret
  exact ⟨retB HR.out, _, m2, m3⟩

set_option maxRecDepth 100000 in
set_option maxHeartbeats 4000000 in
theorem specSim (a0 a1 : Option Addr) (n0 c0 n1 c1 B : Nat) (zl : List TLink) (a : Option Addr) (n c B' : Nat) (ps : List TPathPart) (w : World) (hl : HasLink w B a1 n1 zl) (hB : B ≤ w.heap.size) (hn0 : n0 ≤ 1048576) (hn1 : n1 ≤ 1048576) (h : HasPathPart w B' a n ps) (hB' : B' ≤ w.heap.size) (hn : szPathPart ps n ≤ 1048576) :
    Calls Tryz.prog 18 #[.agg #[.slice a0 n0 c0, .slice a1 n1 c1], .agg #[.slice a n c]] w fun e w' => e = .returned (.bool (simB n0 zl n1 ps n)) ∧ Mk0 w w' := by
  have M0 := (Mk.alloc w (Obj.cells #[Value.slice a0 n0 c0, Value.slice a1 n1 c1] 35)).new (Obj.cells #[Value.slice a n c] 39)
  have k0 : ((w.alloc (Obj.cells #[Value.slice a0 n0 c0, Value.slice a1 n1 c1] 35)).alloc (Obj.cells #[Value.slice a n c] 39)).cell? ⟨w.heap.size, 0, none⟩ = some (.slice a0 n0 c0) := by simp [go_sem]
  have k1 : ((w.alloc (Obj.cells #[Value.slice a0 n0 c0, Value.slice a1 n1 c1] 35)).alloc (Obj.cells #[Value.slice a n c] 39)).cell? ⟨w.heap.size, 1, none⟩ = some (.slice a1 n1 c1) := by simp [go_sem]
  have j0 : ((w.alloc (Obj.cells #[Value.slice a0 n0 c0, Value.slice a1 n1 c1] 35)).alloc (Obj.cells #[Value.slice a n c] 39)).cell? ⟨w.heap.size + 1, 0, none⟩ = some (.slice a n c) := by simp [go_sem]
  have hU : (usedAll ps n).length ≤ 2097152 := by
    have h1 := usedUp_len (pathSt ps n) (pathSt ps n).length
    have h2 := pathSt_le ps n
    unfold usedAll
    omega
  go_enter Tryz.func18, Tryz.ntmps18
  go_wp2_with fail
  generalize ((w.alloc (Obj.cells #[Value.slice a0 n0 c0, Value.slice a1 n1 c1] 35)).alloc (Obj.cells #[Value.slice a n c] 39)) = WW at *
  refine (specWfP a0 a1 n0 c0 n1 c1 B zl a n c B' ps _ (hl.mk M0 hB (.inr (Nat.le_refl _))) (Nat.le_trans hB M0.size) hn0 hn1 (h.mk M0 hB' (.inr (Nat.le_refl _))) (Nat.le_trans hB' M0.size) hn).mono ?_
  rintro e w2 ⟨he, m2⟩
  cases hw : wpB n0 zl n1 ps n
  · have HR := Lib.hid (show simB n0 zl n1 ps n = false by unfold simB; rw [hw]; rfl)
    rw [hw] at he
    subst he
    clear hw
    go_wp2_with fail
    go_ret
    exact ⟨retB HR.out.symm, M0.trans m2⟩
  · have HR := Lib.hid (show simB n0 zl n1 ps n = diffB (usedAll ps n) by unfold simB; rw [hw]; rfl)
    rw [hw] at he
    subst he
    clear hw
    replace j0 := m2.cellAt j0
    have M2 := M0.trans m2
    go_wp2_with fail
    refine (specUsed a n c B' ps _ (h.mk M2 hB' (.inr (Nat.le_refl _))) (Nat.le_trans hB' M2.size) hn).mono ?_
    rintro e w3 ⟨v, rfl, hown, m3⟩
    obtain ⟨Z, hZ⟩ : ∃ Z, Hid (Z = usedAll ps n) := ⟨_, Lib.hid rfl⟩
    rw [← hZ.out] at hown hU HR
    obtain ⟨A, C, rfl, hA, hNC⟩ := ownsRow_sliceR2 hown
    have hO := ownsRow_own hown
    clear hown
    have hH := hO.has
    obtain ⟨N, hN⟩ : ∃ N, Hid (N = Z.length) := ⟨_, Lib.hid rfl⟩
    rw [← hN.out] at hH hNC hU
    rw [← hN.out]
    clear hO
    have M3 := M2.trans m3
    go_wp2_with fail
    go_loopw [4, 6] (fun r i wr => r = .bool false ∧ ∃ k : Nat, k ≤ N ∧ i = .int .i64 k ∧ Hid (∀ j, j < k → hasF Z (Z.getD j 0) j = false) ∧ Mk0 w3 wr) (fun _ i _ => N - (intOf i).toNat)
    case atStart => exact ⟨rfl, 0, Nat.zero_le _, rfl, Lib.hid (fun j hj => absurd hj (by omega)), Mk.refl _ _ _⟩
    case round =>
      obtain ⟨rfl, k, hk, rfl, hS, hM⟩ := hrel
      have hHr := hH.next hM.below0
      by_cases hlt : k < N
      · have i1 : (0 : Int) ≤ (k : Int) := by omega
        have i2 : (k : Int) < (N : Int) := by omega
        have i3 : (k : Int) ≤ (C : Int) := by omega
        have i4 : k ≤ C := by omega
        obtain ⟨b, off, rfl, hb, hc⟩ := hHr.2 (by omega)
        have d0 := hc k hlt
        obtain ⟨q, hq⟩ : ∃ q, Hid (q = Z.getD k 0) := ⟨_, Lib.hid rfl⟩
        rw [← hq.out] at d0
        clear hc
        cases hv : hasF Z q k
        · have HV := Lib.hid hv
          clear hv
          have HS : Hid (∀ j, j < k + 1 → hasF Z (Z.getD j 0) j = false) := Lib.hid (fun j hj => by
            rcases Nat.lt_or_ge j k with h1 | h1
            · exact hS.out j h1
            · obtain rfl : j = k := by omega
              rw [← hq.out]; exact HV.out)
          clear hS
          go_wp2_with fail
          refine wp_region_wk (fun w' => Mk0 wr w' ∧ w'.cell? ⟨b, off + k, none⟩ = some (.int .i64 q)) (by kernel_rfl) (by kernel_rfl) (⟨Mk.drew1 _, d0⟩) ?_
          change Wk _ _ _ _ 8 0 _
          first | (refine Wk.skip (m := 7) (k := 0) rfl (by rfl) ?_) | (refine Wk.step (m := 7) (k := 0) (v := _) rfl (by rfl) (fun wv hS => by obtain ⟨s0, s1⟩ := hS; go_simp; try with_reducible rfl) ?_)
          try simp only [Act.put, List.getElem_toArray, List.getElem_cons_zero, List.setIfInBounds_toArray, List.set_cons_zero, List.set_cons_succ]
          first | (refine Wk.skip (m := 6) (k := 1) rfl (by rfl) ?_) | (refine Wk.step (m := 6) (k := 1) (v := _) rfl (by rfl) (fun wv hS => by obtain ⟨s0, s1⟩ := hS; go_simp; try with_reducible rfl) ?_)
          try simp only [Act.put, List.getElem_toArray, List.getElem_cons_succ, List.getElem_cons_zero, List.setIfInBounds_toArray, List.set_cons_zero, List.set_cons_succ]
          first | (refine Wk.skip (m := 5) (k := 2) rfl (by rfl) ?_) | (refine Wk.step (m := 5) (k := 2) (v := _) rfl (by rfl) (fun wv hS => by obtain ⟨s0, s1⟩ := hS; go_simp; try with_reducible rfl) ?_)
          try simp only [Act.put, List.getElem_toArray, List.getElem_cons_succ, List.getElem_cons_zero, List.setIfInBounds_toArray, List.set_cons_zero, List.set_cons_succ]
          first | (refine Wk.skip (m := 4) (k := 3) rfl (by rfl) ?_) | (refine Wk.step (m := 4) (k := 3) (v := _) rfl (by rfl) (fun wv hS => by obtain ⟨s0, s1⟩ := hS; go_simp; try with_reducible rfl) ?_)
          try simp only [Act.put, List.getElem_toArray, List.getElem_cons_succ, List.getElem_cons_zero, List.setIfInBounds_toArray, List.set_cons_zero, List.set_cons_succ]
          first | (refine Wk.skip (m := 3) (k := 4) rfl (by rfl) ?_) | (refine Wk.step (m := 3) (k := 4) (v := _) rfl (by rfl) (fun wv hS => by obtain ⟨s0, s1⟩ := hS; go_simp; try with_reducible rfl) ?_)
          try simp only [Act.put, List.getElem_toArray, List.getElem_cons_succ, List.getElem_cons_zero, List.setIfInBounds_toArray, List.set_cons_zero, List.set_cons_succ]
          first | (refine Wk.skip (m := 2) (k := 5) rfl (by rfl) ?_) | (refine Wk.step (m := 2) (k := 5) (v := _) rfl (by rfl) (fun wv hS => by obtain ⟨s0, s1⟩ := hS; go_simp; try with_reducible rfl) ?_)
          try simp only [Act.put, List.getElem_toArray, List.getElem_cons_succ, List.getElem_cons_zero, List.setIfInBounds_toArray, List.set_cons_zero, List.set_cons_succ]
          first | (refine Wk.skip (m := 1) (k := 6) rfl (by rfl) ?_) | (refine Wk.step (m := 1) (k := 6) (v := _) rfl (by rfl) (fun wv hS => by obtain ⟨s0, s1⟩ := hS; go_simp; try with_reducible rfl) ?_)
          try simp only [Act.put, List.getElem_toArray, List.getElem_cons_succ, List.getElem_cons_zero, List.setIfInBounds_toArray, List.set_cons_zero, List.set_cons_succ]
          refine Wk.call (m := 0) (k := 7) (v := .bool false) _ _ rfl (by rfl) (fun wv hS => by obtain ⟨s0, s1⟩ := hS; go_simp; first | done | exact ⟨rfl, rfl⟩ | with_reducible rfl) (fun wv hS => ?_) ?_; · obtain ⟨s0, s1⟩ := hS; refine (specHasF _ N C _ Z q k wv (hHr.next s0.below0) (by omega) (by omega)).mono ?_; rintro e w' ⟨he, rfl⟩; exact ⟨by rw [he, HV.out], s0, s1⟩
          try simp only [Act.put, List.getElem_toArray, List.getElem_cons_succ, List.getElem_cons_zero, List.setIfInBounds_toArray, List.set_cons_zero, List.set_cons_succ]
          refine Wk.done fun wE hE => ?_
          clear d0
          obtain ⟨mE, d0⟩ := hE
          go_wp2_with fail
          go_roundw
          case rel => exact ⟨rfl, k + 1, by omega, by go_num, HS, hM.trans mE⟩
          case measure => simp [intOf]; omega
        · have HV := Lib.hid hv
          clear hv
          have HX := Lib.hid (diff_hit (zs := Z) (i := k) (by rw [← hN.out]; exact hlt) (by rw [← hq.out]; exact HV.out))
          go_wp2_with fail
          refine wp_region_wk (fun w' => Mk0 wr w' ∧ w'.cell? ⟨b, off + k, none⟩ = some (.int .i64 q)) (by kernel_rfl) (by kernel_rfl) (⟨Mk.drew1 _, d0⟩) ?_
          change Wk _ _ _ _ 8 0 _
          first | (refine Wk.skip (m := 7) (k := 0) rfl (by rfl) ?_) | (refine Wk.step (m := 7) (k := 0) (v := _) rfl (by rfl) (fun wv hS => by obtain ⟨s0, s1⟩ := hS; go_simp; try with_reducible rfl) ?_)
          try simp only [Act.put, List.getElem_toArray, List.getElem_cons_zero, List.setIfInBounds_toArray, List.set_cons_zero, List.set_cons_succ]
          first | (refine Wk.skip (m := 6) (k := 1) rfl (by rfl) ?_) | (refine Wk.step (m := 6) (k := 1) (v := _) rfl (by rfl) (fun wv hS => by obtain ⟨s0, s1⟩ := hS; go_simp; try with_reducible rfl) ?_)
          try simp only [Act.put, List.getElem_toArray, List.getElem_cons_succ, List.getElem_cons_zero, List.setIfInBounds_toArray, List.set_cons_zero, List.set_cons_succ]
          first | (refine Wk.skip (m := 5) (k := 2) rfl (by rfl) ?_) | (refine Wk.step (m := 5) (k := 2) (v := _) rfl (by rfl) (fun wv hS => by obtain ⟨s0, s1⟩ := hS; go_simp; try with_reducible rfl) ?_)
          try simp only [Act.put, List.getElem_toArray, List.getElem_cons_succ, List.getElem_cons_zero, List.setIfInBounds_toArray, List.set_cons_zero, List.set_cons_succ]
          first | (refine Wk.skip (m := 4) (k := 3) rfl (by rfl) ?_) | (refine Wk.step (m := 4) (k := 3) (v := _) rfl (by rfl) (fun wv hS => by obtain ⟨s0, s1⟩ := hS; go_simp; try with_reducible rfl) ?_)
          try simp only [Act.put, List.getElem_toArray, List.getElem_cons_succ, List.getElem_cons_zero, List.setIfInBounds_toArray, List.set_cons_zero, List.set_cons_succ]
          first | (refine Wk.skip (m := 3) (k := 4) rfl (by rfl) ?_) | (refine Wk.step (m := 3) (k := 4) (v := _) rfl (by rfl) (fun wv hS => by obtain ⟨s0, s1⟩ := hS; go_simp; try with_reducible rfl) ?_)
          try simp only [Act.put, List.getElem_toArray, List.getElem_cons_succ, List.getElem_cons_zero, List.setIfInBounds_toArray, List.set_cons_zero, List.set_cons_succ]
          first | (refine Wk.skip (m := 2) (k := 5) rfl (by rfl) ?_) | (refine Wk.step (m := 2) (k := 5) (v := _) rfl (by rfl) (fun wv hS => by obtain ⟨s0, s1⟩ := hS; go_simp; try with_reducible rfl) ?_)
          try simp only [Act.put, List.getElem_toArray, List.getElem_cons_succ, List.getElem_cons_zero, List.setIfInBounds_toArray, List.set_cons_zero, List.set_cons_succ]
          first | (refine Wk.skip (m := 1) (k := 6) rfl (by rfl) ?_) | (refine Wk.step (m := 1) (k := 6) (v := _) rfl (by rfl) (fun wv hS => by obtain ⟨s0, s1⟩ := hS; go_simp; try with_reducible rfl) ?_)
          try simp only [Act.put, List.getElem_toArray, List.getElem_cons_succ, List.getElem_cons_zero, List.setIfInBounds_toArray, List.set_cons_zero, List.set_cons_succ]
          refine Wk.call (m := 0) (k := 7) (v := .bool true) _ _ rfl (by rfl) (fun wv hS => by obtain ⟨s0, s1⟩ := hS; go_simp; first | done | exact ⟨rfl, rfl⟩ | with_reducible rfl) (fun wv hS => ?_) ?_; · obtain ⟨s0, s1⟩ := hS; refine (specHasF _ N C _ Z q k wv (hHr.next s0.below0) (by omega) (by omega)).mono ?_; rintro e w' ⟨he, rfl⟩; exact ⟨by rw [he, HV.out], s0, s1⟩
          try simp only [Act.put, List.getElem_toArray, List.getElem_cons_succ, List.getElem_cons_zero, List.setIfInBounds_toArray, List.set_cons_zero, List.set_cons_succ]
          refine Wk.done fun wE hE => ?_
          clear d0
          obtain ⟨mE, d0⟩ := hE
          go_wp2_with fail
          go_ret
          exact ⟨retB (HR.out.trans HX.out).symm, M3.trans (hM.trans mE)⟩
      · obtain rfl : k = N := by omega
        have HV := Lib.hid (diff_no (zs := Z) (fun i hi => hS.out i (by rw [hN.out]; exact hi)))
        clear hS
        go_wp2_with fail
        go_ret
        exact ⟨retB (HR.out.trans HV.out).symm, M3.trans hM⟩

set_option maxRecDepth 100000 in
set_option maxHeartbeats 4000000 in
theorem implSim (a0 a1 : Option Addr) (n0 c0 n1 c1 B : Nat) (zl : List TLink) (a : Option Addr) (n c B' : Nat) (ps : List TPathPart) (w : World) (hl : HasLink w B a1 n1 zl) (hB : B ≤ w.heap.size) (hn0 : n0 ≤ 1048576) (hn1 : n1 ≤ 1048576) (h : HasPathPart w B' a n ps) (hB' : B' ≤ w.heap.size) (hn : szPathPart ps n ≤ 1048576) :
    Calls Tryz.prog 25 #[.agg #[.slice a0 n0 c0, .slice a1 n1 c1], .agg #[.slice a n c]] w fun e w' => e = .returned (.bool (simB n0 zl n1 ps n)) ∧ Mk0 w w' := by
  have M0 := (Mk.alloc w (Obj.cells #[Value.slice a0 n0 c0, Value.slice a1 n1 c1] 35)).new (Obj.cells #[Value.slice a n c] 39)
  have k0 : ((w.alloc (Obj.cells #[Value.slice a0 n0 c0, Value.slice a1 n1 c1] 35)).alloc (Obj.cells #[Value.slice a n c] 39)).cell? ⟨w.heap.size, 0, none⟩ = some (.slice a0 n0 c0) := by simp [go_sem]
  have k1 : ((w.alloc (Obj.cells #[Value.slice a0 n0 c0, Value.slice a1 n1 c1] 35)).alloc (Obj.cells #[Value.slice a n c] 39)).cell? ⟨w.heap.size, 1, none⟩ = some (.slice a1 n1 c1) := by simp [go_sem]
  have j0 : ((w.alloc (Obj.cells #[Value.slice a0 n0 c0, Value.slice a1 n1 c1] 35)).alloc (Obj.cells #[Value.slice a n c] 39)).cell? ⟨w.heap.size + 1, 0, none⟩ = some (.slice a n c) := by simp [go_sem]
  have hU : (usedAll ps n).length ≤ 2097152 := by
    have h1 := usedUp_len (pathSt ps n) (pathSt ps n).length
    have h2 := pathSt_le ps n
    unfold usedAll
    omega
  go_enter Tryz.func25, Tryz.ntmps25
  go_wp2_with fail
  generalize ((w.alloc (Obj.cells #[Value.slice a0 n0 c0, Value.slice a1 n1 c1] 35)).alloc (Obj.cells #[Value.slice a n c] 39)) = WW at *
  refine (implWfP a0 a1 n0 c0 n1 c1 B zl a n c B' ps _ (hl.mk M0 hB (.inr (Nat.le_refl _))) (Nat.le_trans hB M0.size) hn0 hn1 (h.mk M0 hB' (.inr (Nat.le_refl _))) (Nat.le_trans hB' M0.size) hn).mono ?_
  rintro e w2 ⟨he, m2⟩
  cases hw : wpB n0 zl n1 ps n
  · have HR := Lib.hid (show simB n0 zl n1 ps n = false by unfold simB; rw [hw]; rfl)
    rw [hw] at he
    subst he
    clear hw
    go_wp2_with fail
    go_ret
    exact ⟨retB HR.out.symm, M0.trans m2⟩
  · have HR := Lib.hid (show simB n0 zl n1 ps n = diffB (usedAll ps n) by unfold simB; rw [hw]; rfl)
    rw [hw] at he
    subst he
    clear hw
    replace j0 := m2.cellAt j0
    have M2 := M0.trans m2
    go_wp2_with fail
    refine (implUsed a n c B' ps _ (h.mk M2 hB' (.inr (Nat.le_refl _))) (Nat.le_trans hB' M2.size) hn).mono ?_
    rintro e w3 ⟨v, rfl, hown, m3⟩
    obtain ⟨Z, hZ⟩ : ∃ Z, Hid (Z = usedAll ps n) := ⟨_, Lib.hid rfl⟩
    rw [← hZ.out] at hown hU HR
    obtain ⟨A, C, rfl, hA, hNC⟩ := ownsRow_sliceR2 hown
    have hO := ownsRow_own hown
    clear hown
    obtain ⟨N, hN⟩ : ∃ N, Hid (N = Z.length) := ⟨_, Lib.hid rfl⟩
    rw [← hN.out] at hO hNC hU
    rw [← hN.out]
    go_wp2_with fail
    refine (implDiff A N C w2.heap.size Z _ hO (by omega) hNC.1).mono ?_
    rintro e w4 ⟨rfl, w5, m5, m4⟩
    go_wp2_with fail
    go_ret
    exact ⟨retB HR.out.symm, M2.trans ((m3.andR m5 (.inl (Nat.le_refl _))).andR m4 (.inl (Nat.le_refl _)))⟩

end Go.Proofs.YtifhhfndoifbhaaGreat
