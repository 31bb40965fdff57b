
/- ReachableCores by the model. -/
import Derived.Test.YtjlglppknemffaaCc
import Derived.Test.YtjlglppknemffaaKnd
import Derived.Test.YtjlglppknemffaaNa
import Derived.Maps.OwnIn
namespace Go.Proofs.Ytjlglppknemffaa
open Go.ChangeShapes Go.WideShapes Go.ChangeAt Go.RowKit
set_option linter.unusedVariables false
/-- The core ASes among these. -/
def rcF (zs : List TAS) (n0 : Nat) (L : List Int) : List Int := L.filter (crB zs n0)
theorem rcF_le (zs : List TAS) (n0 : Nat) (L : List Int) : (rcF zs n0 L).length ≤ L.length := List.length_filter_le _ _
theorem rcF_t {zs : List TAS} {n0 : Nat} {L : List Int} {x : Int} (h : crB zs n0 x = true) : rcF zs n0 (L ++ [x]) = rcF zs n0 L ++ [x] := by
  unfold rcF
  rw [List.filter_append]
  simp [h]
theorem rcF_f {zs : List TAS} {n0 : Nat} {L : List Int} {x : Int} (h : crB zs n0 x = false) : rcF zs n0 (L ++ [x]) = rcF zs n0 L := by
  unfold rcF
  rw [List.filter_append]
  simp [h]
theorem take_more (L : List Int) {j : Nat} (h : j < L.length) : L.take (j + 1) = L.take j ++ [L.getD j 0] := by
  rw [List.take_succ_eq_append_getElem h, List.getD_eq_getElem?_getD, List.getElem?_eq_getElem h]
  rfl
set_option maxRecDepth 100000 in
set_option maxHeartbeats 4000000 in
theorem specRC (a0 a1 : Option Addr) (n0 c0 n1 c1 B : Nat) (zs : List TAS) (zl : List TLink) (r : Int) (w : World) (h : HasAS w B a0 n0 zs) (hl : HasLink w B a1 n1 zl) (hB : B ≤ w.heap.size) (hn0 : n0 ≤ 1048576) (hn1 : n1 ≤ 1048576) :
    Calls Try.prog 35 #[.agg #[.slice a0 n0 c0, .slice a1 n1 c1], .int .i64 r] w (OutIfs w (rcF zs n0 (elN (addV (itP zl n1 3 (nbS zl n1 r 3) 9) r) 16))) := by
  obtain ⟨i0, hi, hz0, hz1, hz2⟩ := info_parts infoI64
  have hby : i0.bytes ≤ 8 := by rw [hz2]; decide
  have M0 := Mk.alloc w (Obj.cells #[Value.slice a0 n0 c0, Value.slice a1 n1 c1] 31)
  have k0 : (w.alloc (Obj.cells #[Value.slice a0 n0 c0, Value.slice a1 n1 c1] 31)).cell? ⟨w.heap.size, 0, none⟩ = some (.slice a0 n0 c0) := by simp [go_sem]
  have k1 : (w.alloc (Obj.cells #[Value.slice a0 n0 c0, Value.slice a1 n1 c1] 31)).cell? ⟨w.heap.size, 1, none⟩ = some (.slice a1 n1 c1) := by simp [go_sem]
  have K0 := Lib.hid k0
  have K1 := Lib.hid k1
  have hs1 : (w.alloc (Obj.cells #[Value.slice a0 n0 c0, Value.slice a1 n1 c1] 31)).heap.size = w.heap.size + 1 := by rw [World.size_alloc]
  have hs2 : ((w.alloc (Obj.cells #[Value.slice a0 n0 c0, Value.slice a1 n1 c1] 31)).alloc (.cells #[] 3)).heap.size = (w.heap.size + 1 + 1) := by rw [World.size_alloc, World.size_alloc]
  have hA : ((w.alloc (Obj.cells #[Value.slice a0 n0 c0, Value.slice a1 n1 c1] 31)).alloc (.cells #[] 3)).ownsRow (w.alloc (Obj.cells #[Value.slice a0 n0 c0, Value.slice a1 n1 c1] 31)).heap.size 3 1 (.slice (some ⟨(w.alloc (Obj.cells #[Value.slice a0 n0 c0, Value.slice a1 n1 c1] 31)).heap.size, 0, none⟩) 0 0) 0 (([] : List Int).map (.int .i64)) := own_lit (w.alloc (Obj.cells #[Value.slice a0 n0 c0, Value.slice a1 n1 c1] 31)) 3 [] (by simp)
  rw [hs1] at hA
  have ML := Mk.alloc (w.alloc (Obj.cells #[Value.slice a0 n0 c0, Value.slice a1 n1 c1] 31)) (.cells #[] 3)
  replace k0 := ML.cellAt k0
  replace k1 := ML.cellAt k1
  have M1 := M0.trans ML
  go_enter Try.func35, Try.ntmps35
  go_wp2_with fail
  refine (specAncestors a0 a1 n0 c0 n1 c1 B zl r _ (hl.mk M1 hB (.inr (Nat.le_refl _))) (Nat.le_trans hB M1.size) hn1).mono ?_
  rintro e w1 ⟨rfl, m1⟩
  replace k0 := m1.cellAt k0
  replace k1 := m1.cellAt k1
  go_wp2_with fail
  refine (specAddElement _ _ _).mono ?_
  rintro e w' ⟨rfl, rfl⟩
  obtain ⟨X, hX⟩ : ∃ X, Hid (X = addV (itP zl n1 3 (nbS zl n1 r 3) 9) r) := ⟨_, Lib.hid rfl⟩
  rw [← hX.out]
  go_wp2_with fail
  refine (specElements X _).mono ?_
  rintro e w2 ⟨A, N, C, rfl, hAc, hO, b2⟩
  have m2 := Mk.of_below b2
  have hO := hO.low (lo' := w.heap.size + 1 + 1) (by have := m1.size; rw [hs2] at this; exact this)
  have hown0 := own_keptR (own_keptR hA m1) m2
  have N2 := (ML.trans m1).trans m2
  have hN := hO.1
  have hNb : N ≤ 16 := by have := elN_len X 16; omega
  have HN := Lib.hid hN
  have HO := Lib.hid (show Own .i64 w2 (w.heap.size + 1 + 1) A N (elN X 16) from hO)
  clear hO hN hA M1 ML b2 m2 m1 k0 k1
  go_wp2_with fail
  go_loopw [5, 7] (fun v i wr => ∃ k : Nat, k ≤ N ∧ i = .int .i64 k ∧ wr.ownsRow (w.heap.size + 1) 3 1 v (rcF zs n0 ((elN X 16).take k)).length ((rcF zs n0 ((elN X 16).take k)).map (.int .i64)) ∧ Mk0 (w.alloc (Obj.cells #[Value.slice a0 n0 c0, Value.slice a1 n1 c1] 31)) wr ∧ Kp2 (w.heap.size + 1 + 1) w2.heap.size w2 wr ∧ OB (w.heap.size + 1 + 1) w2.heap.size v) (fun _ i _ => N - (intOf i).toNat)
  case atStart => exact ⟨0, Nat.zero_le _, rfl, hown0, N2, Kp2.refl _ _, fun g hg => .inl (by simp [Value.ownBlock] at hg; omega)⟩
  case round =>
    clear hown0
    obtain ⟨k, hk, rfl, hown, hM, hK, hOB⟩ := hrel
    have HOB := Lib.hid hOB
    have HKK := Lib.hid hK
    clear hOB hK
    have k0 := hM.cellAt K0.out
    have k1 := hM.cellAt K1.out
    have hM' := M0.trans hM
    have hlow := hM.size
    rw [hs1] at hlow
    have hul : (rcF zs n0 ((elN X 16).take k)).length ≤ 16 := Nat.le_trans (rcF_le _ _ _) (Nat.le_trans (List.length_take_le _ _) (by omega))
    obtain ⟨L, hL⟩ : ∃ L, Hid (L = rcF zs n0 ((elN X 16).take k)) := ⟨_, Lib.hid rfl⟩
    rw [← hL.out] at hown hul
    by_cases hlt : k < N
    · have hH := HKK.out.has HO.out
      obtain ⟨b, off, z, rfl, hb, hz, ci⟩ := hH.at_ hlt
      clear hH
      have i1 : (0 : Int) ≤ (k : Int) := by omega
      have i2 : (k : Int) < (N : Int) := by omega
      have HT := Lib.hid (show (elN X 16).take (k + 1) = (elN X 16).take k ++ [z] by rw [take_more _ (by rw [HN.out]; exact hlt), ← hz.out])
      cases hr : isAsB n0 z
      · have HR := Lib.hid hr
        clear hr
        have HE := Lib.hid (show rcF zs n0 ((elN X 16).take (k + 1)) = L by rw [HT.out, rcF_f (by unfold crB; rw [HR.out]; rfl), hL.out])
        go_wp2_with fail
        refine wp_region_wk (fun w' => Mk0 wr w' ∧ w'.cell? ⟨w.heap.size, 0, none⟩ = some (.slice a0 n0 c0) ∧ w'.cell? ⟨w.heap.size, 1, none⟩ = some (.slice a1 n1 c1) ∧ w'.cell? ⟨b, off + k, none⟩ = some (.int .i64 z)) (by kernel_rfl) (by kernel_rfl) (⟨Mk.drew1 _, k0, k1, ci⟩) ?_
        change Wk _ _ _ _ 17 0 _
        first | (refine Wk.skip (m := 16) (k := 0) rfl (by rfl) ?_) | (refine Wk.step (m := 16) (k := 0) (v := _) rfl (by rfl) (fun wv hS => by obtain ⟨s0, s1, s2, s3⟩ := hS; go_simp; try with_reducible rfl) ?_)
        try simp only [Act.put, List.getElem_toArray, List.getElem_cons_zero, List.setIfInBounds_toArray, List.set_cons_zero, List.set_cons_succ]
        first | (refine Wk.skip (m := 15) (k := 1) rfl (by rfl) ?_) | (refine Wk.step (m := 15) (k := 1) (v := _) rfl (by rfl) (fun wv hS => by obtain ⟨s0, s1, s2, s3⟩ := hS; go_simp; try with_reducible rfl) ?_)
        try simp only [Act.put, List.getElem_toArray, List.getElem_cons_succ, List.getElem_cons_zero, List.setIfInBounds_toArray, List.set_cons_zero, List.set_cons_succ]
        first | (refine Wk.skip (m := 14) (k := 2) rfl (by rfl) ?_) | (refine Wk.step (m := 14) (k := 2) (v := _) rfl (by rfl) (fun wv hS => by obtain ⟨s0, s1, s2, s3⟩ := hS; go_simp; try with_reducible rfl) ?_)
        try simp only [Act.put, List.getElem_toArray, List.getElem_cons_succ, List.getElem_cons_zero, List.setIfInBounds_toArray, List.set_cons_zero, List.set_cons_succ]
        first | (refine Wk.skip (m := 13) (k := 3) rfl (by rfl) ?_) | (refine Wk.step (m := 13) (k := 3) (v := _) rfl (by rfl) (fun wv hS => by obtain ⟨s0, s1, s2, s3⟩ := hS; go_simp; try with_reducible rfl) ?_)
        try simp only [Act.put, List.getElem_toArray, List.getElem_cons_succ, List.getElem_cons_zero, List.setIfInBounds_toArray, List.set_cons_zero, List.set_cons_succ]
        first | (refine Wk.skip (m := 12) (k := 4) rfl (by rfl) ?_) | (refine Wk.step (m := 12) (k := 4) (v := _) rfl (by rfl) (fun wv hS => by obtain ⟨s0, s1, s2, s3⟩ := hS; go_simp; try with_reducible rfl) ?_)
        try simp only [Act.put, List.getElem_toArray, List.getElem_cons_succ, List.getElem_cons_zero, List.setIfInBounds_toArray, List.set_cons_zero, List.set_cons_succ]
        refine Wk.call (m := 11) (k := 5) (v := .bool false) _ _ rfl (by rfl) (fun wv hS => by obtain ⟨s0, s1, s2, s3⟩ := hS; go_simp; first | done | exact ⟨rfl, rfl⟩ | with_reducible rfl) (fun wv hS => ?_) ?_; · obtain ⟨s0, s1, s2, s3⟩ := hS; refine (specRealmIs false a0 a1 n0 c0 n1 c1 z HR.out wv hn0).mono ?_; rintro e w' ⟨he, mm⟩; exact ⟨he, ⟨s0.trans mm, mm.cellAt s1, mm.cellAt s2, mm.cellAt s3⟩⟩
        try simp only [Act.put, List.getElem_toArray, List.getElem_cons_succ, List.getElem_cons_zero, List.setIfInBounds_toArray, List.set_cons_zero, List.set_cons_succ]
        first | (refine Wk.skip (m := 10) (k := 6) rfl (by rfl) ?_) | (refine Wk.step (m := 10) (k := 6) (v := _) rfl (by rfl) (fun wv hS => by obtain ⟨s0, s1, s2, s3⟩ := hS; go_simp; try with_reducible rfl) ?_)
        try simp only [Act.put, List.getElem_toArray, List.getElem_cons_succ, List.getElem_cons_zero, List.setIfInBounds_toArray, List.set_cons_zero, List.set_cons_succ]
        first | (refine Wk.skip (m := 9) (k := 7) rfl (by rfl) ?_) | (refine Wk.step (m := 9) (k := 7) (v := _) rfl (by rfl) (fun wv hS => by obtain ⟨s0, s1, s2, s3⟩ := hS; go_simp; try with_reducible rfl) ?_)
        try simp only [Act.put, List.getElem_toArray, List.getElem_cons_succ, List.getElem_cons_zero, List.setIfInBounds_toArray, List.set_cons_zero, List.set_cons_succ]
        first | (refine Wk.skip (m := 8) (k := 8) rfl (by rfl) ?_) | (refine Wk.step (m := 8) (k := 8) (v := _) rfl (by rfl) (fun wv hS => by obtain ⟨s0, s1, s2, s3⟩ := hS; go_simp; try with_reducible rfl) ?_)
        try simp only [Act.put, List.getElem_toArray, List.getElem_cons_succ, List.getElem_cons_zero, List.setIfInBounds_toArray, List.set_cons_zero, List.set_cons_succ]
        first | (refine Wk.skip (m := 7) (k := 9) rfl (by rfl) ?_) | (refine Wk.step (m := 7) (k := 9) (v := _) rfl (by rfl) (fun wv hS => by obtain ⟨s0, s1, s2, s3⟩ := hS; go_simp; try with_reducible rfl) ?_)
        try simp only [Act.put, List.getElem_toArray, List.getElem_cons_succ, List.getElem_cons_zero, List.setIfInBounds_toArray, List.set_cons_zero, List.set_cons_succ]
        first | (refine Wk.skip (m := 6) (k := 10) rfl (by rfl) ?_) | (refine Wk.step (m := 6) (k := 10) (v := _) rfl (by rfl) (fun wv hS => by obtain ⟨s0, s1, s2, s3⟩ := hS; go_simp; try with_reducible rfl) ?_)
        try simp only [Act.put, List.getElem_toArray, List.getElem_cons_succ, List.getElem_cons_zero, List.setIfInBounds_toArray, List.set_cons_zero, List.set_cons_succ]
        first | (refine Wk.skip (m := 5) (k := 11) rfl (by rfl) ?_) | (refine Wk.step (m := 5) (k := 11) (v := _) rfl (by rfl) (fun wv hS => by obtain ⟨s0, s1, s2, s3⟩ := hS; go_simp; try with_reducible rfl) ?_)
        try simp only [Act.put, List.getElem_toArray, List.getElem_cons_succ, List.getElem_cons_zero, List.setIfInBounds_toArray, List.set_cons_zero, List.set_cons_succ]
        first | (refine Wk.skip (m := 4) (k := 12) rfl (by rfl) ?_) | (refine Wk.step (m := 4) (k := 12) (v := _) rfl (by rfl) (fun wv hS => by obtain ⟨s0, s1, s2, s3⟩ := hS; go_simp; try with_reducible rfl) ?_)
        try simp only [Act.put, List.getElem_toArray, List.getElem_cons_succ, List.getElem_cons_zero, List.setIfInBounds_toArray, List.set_cons_zero, List.set_cons_succ]
        first | (refine Wk.skip (m := 3) (k := 13) rfl (by rfl) ?_) | (refine Wk.step (m := 3) (k := 13) (v := _) rfl (by rfl) (fun wv hS => by obtain ⟨s0, s1, s2, s3⟩ := hS; go_simp; try with_reducible rfl) ?_)
        try simp only [Act.put, List.getElem_toArray, List.getElem_cons_succ, List.getElem_cons_zero, List.setIfInBounds_toArray, List.set_cons_zero, List.set_cons_succ]
        first | (refine Wk.skip (m := 2) (k := 14) rfl (by rfl) ?_) | (refine Wk.step (m := 2) (k := 14) (v := _) rfl (by rfl) (fun wv hS => by obtain ⟨s0, s1, s2, s3⟩ := hS; go_simp; try with_reducible rfl) ?_)
        try simp only [Act.put, List.getElem_toArray, List.getElem_cons_succ, List.getElem_cons_zero, List.setIfInBounds_toArray, List.set_cons_zero, List.set_cons_succ]
        first | (refine Wk.skip (m := 1) (k := 15) rfl (by rfl) ?_) | (refine Wk.step (m := 1) (k := 15) (v := _) rfl (by rfl) (fun wv hS => by obtain ⟨s0, s1, s2, s3⟩ := hS; go_simp; try with_reducible rfl) ?_)
        try simp only [Act.put, List.getElem_toArray, List.getElem_cons_succ, List.getElem_cons_zero, List.setIfInBounds_toArray, List.set_cons_zero, List.set_cons_succ]
        first | (refine Wk.skip (m := 0) (k := 16) rfl (by rfl) ?_) | (refine Wk.step (m := 0) (k := 16) (v := _) rfl (by rfl) (fun wv hS => by obtain ⟨s0, s1, s2, s3⟩ := hS; go_simp; try with_reducible rfl) ?_)
        try simp only [Act.put, List.getElem_toArray, List.getElem_cons_succ, List.getElem_cons_zero, List.setIfInBounds_toArray, List.set_cons_zero, List.set_cons_succ]
        refine Wk.done fun wE hE => ?_
        clear k0 k1 ci
        obtain ⟨mE, k0, k1, ci⟩ := hE
        go_wp2_with fail
        go_roundw
        case rel => exact ⟨k + 1, by omega, by go_num, by rw [HE.out]; exact own_keptR hown mE, hM.trans mE, HKK.out.mk mE, HOB.out⟩
        case measure => simp [intOf]; omega
      · have hq := of_decide_eq_true (show decide (0 ≤ z ∧ z < (n0 : Int)) = true from hr)
        obtain ⟨q, hqr⟩ : ∃ q : Nat, (q : Int) = z := ⟨z.toNat, by omega⟩
        have hqn : q < n0 := by omega
        have HR := Lib.hid hr
        clear hr
        obtain ⟨bq, oq, y, rfl, hbq, hy, d0, d1, d2⟩ := HasAS.at _ _ _ _ _ _ (h.mk hM' hB (.inr (Nat.le_refl _))) hqn
        have HY := Lib.hid (show crB zs n0 z = y.core by unfold crB; rw [HR.out, hy.out, ← hqr]; simp)
        have i3 : (0 : Int) ≤ (q : Int) := by omega
        have i4 : (q : Int) < (n0 : Int) := by omega
        subst hqr
        clear d0 d2 hq
        obtain ⟨cb, hcb⟩ : ∃ cb, cb = y.core := ⟨_, rfl⟩
        rw [← hcb] at d1
        have HY2 := Lib.hid (HY.out.trans hcb.symm)
        clear hcb HY
        cases cb
        · have HE := Lib.hid (show rcF zs n0 ((elN X 16).take (k + 1)) = L by rw [HT.out, rcF_f (HY2.out), hL.out])
          go_wp2_with fail
          refine wp_region_wk (fun w' => Mk0 wr w' ∧ w'.cell? ⟨w.heap.size, 0, none⟩ = some (.slice (some ⟨bq, oq, none⟩) n0 c0) ∧ w'.cell? ⟨w.heap.size, 1, none⟩ = some (.slice a1 n1 c1) ∧ w'.cell? ⟨b, off + k, none⟩ = some (.int .i64 (q : Int)) ∧ w'.cell? ⟨bq, oq + q * 3 + 1, none⟩ = some (.bool false)) (by kernel_rfl) (by kernel_rfl) (⟨Mk.drew1 _, k0, k1, ci, d1⟩) ?_
          change Wk _ _ _ _ 17 0 _
          first | (refine Wk.skip (m := 16) (k := 0) rfl (by rfl) ?_) | (refine Wk.step (m := 16) (k := 0) (v := _) rfl (by rfl) (fun wv hS => by obtain ⟨s0, s1, s2, s3, s4⟩ := hS; go_simp; try with_reducible rfl) ?_)
          try simp only [Act.put, List.getElem_toArray, List.getElem_cons_zero, List.setIfInBounds_toArray, List.set_cons_zero, List.set_cons_succ]
          first | (refine Wk.skip (m := 15) (k := 1) rfl (by rfl) ?_) | (refine Wk.step (m := 15) (k := 1) (v := _) rfl (by rfl) (fun wv hS => by obtain ⟨s0, s1, s2, s3, s4⟩ := hS; go_simp; try with_reducible rfl) ?_)
          try simp only [Act.put, List.getElem_toArray, List.getElem_cons_succ, List.getElem_cons_zero, List.setIfInBounds_toArray, List.set_cons_zero, List.set_cons_succ]
          first | (refine Wk.skip (m := 14) (k := 2) rfl (by rfl) ?_) | (refine Wk.step (m := 14) (k := 2) (v := _) rfl (by rfl) (fun wv hS => by obtain ⟨s0, s1, s2, s3, s4⟩ := hS; go_simp; try with_reducible rfl) ?_)
          try simp only [Act.put, List.getElem_toArray, List.getElem_cons_succ, List.getElem_cons_zero, List.setIfInBounds_toArray, List.set_cons_zero, List.set_cons_succ]
          first | (refine Wk.skip (m := 13) (k := 3) rfl (by rfl) ?_) | (refine Wk.step (m := 13) (k := 3) (v := _) rfl (by rfl) (fun wv hS => by obtain ⟨s0, s1, s2, s3, s4⟩ := hS; go_simp; try with_reducible rfl) ?_)
          try simp only [Act.put, List.getElem_toArray, List.getElem_cons_succ, List.getElem_cons_zero, List.setIfInBounds_toArray, List.set_cons_zero, List.set_cons_succ]
          first | (refine Wk.skip (m := 12) (k := 4) rfl (by rfl) ?_) | (refine Wk.step (m := 12) (k := 4) (v := _) rfl (by rfl) (fun wv hS => by obtain ⟨s0, s1, s2, s3, s4⟩ := hS; go_simp; try with_reducible rfl) ?_)
          try simp only [Act.put, List.getElem_toArray, List.getElem_cons_succ, List.getElem_cons_zero, List.setIfInBounds_toArray, List.set_cons_zero, List.set_cons_succ]
          refine Wk.call (m := 11) (k := 5) (v := .bool true) _ _ rfl (by rfl) (fun wv hS => by obtain ⟨s0, s1, s2, s3, s4⟩ := hS; go_simp; first | done | exact ⟨rfl, rfl⟩ | with_reducible rfl) (fun wv hS => ?_) ?_; · obtain ⟨s0, s1, s2, s3, s4⟩ := hS; refine (specRealmIs true (some ⟨bq, oq, none⟩) a1 n0 c0 n1 c1 (q : Int) HR.out wv hn0).mono ?_; rintro e w' ⟨he, mm⟩; exact ⟨he, ⟨s0.trans mm, mm.cellAt s1, mm.cellAt s2, mm.cellAt s3, mm.cellAt s4⟩⟩
          try simp only [Act.put, List.getElem_toArray, List.getElem_cons_succ, List.getElem_cons_zero, List.setIfInBounds_toArray, List.set_cons_zero, List.set_cons_succ]
          first | (refine Wk.skip (m := 10) (k := 6) rfl (by rfl) ?_) | (refine Wk.step (m := 10) (k := 6) (v := _) rfl (by rfl) (fun wv hS => by obtain ⟨s0, s1, s2, s3, s4⟩ := hS; go_simp; try with_reducible rfl) ?_)
          try simp only [Act.put, List.getElem_toArray, List.getElem_cons_succ, List.getElem_cons_zero, List.setIfInBounds_toArray, List.set_cons_zero, List.set_cons_succ]
          first | (refine Wk.skip (m := 9) (k := 7) rfl (by rfl) ?_) | (refine Wk.step (m := 9) (k := 7) (v := _) rfl (by rfl) (fun wv hS => by obtain ⟨s0, s1, s2, s3, s4⟩ := hS; go_simp; try with_reducible rfl) ?_)
          try simp only [Act.put, List.getElem_toArray, List.getElem_cons_succ, List.getElem_cons_zero, List.setIfInBounds_toArray, List.set_cons_zero, List.set_cons_succ]
          first | (refine Wk.skip (m := 8) (k := 8) rfl (by rfl) ?_) | (refine Wk.step (m := 8) (k := 8) (v := _) rfl (by rfl) (fun wv hS => by obtain ⟨s0, s1, s2, s3, s4⟩ := hS; go_simp; try with_reducible rfl) ?_)
          try simp only [Act.put, List.getElem_toArray, List.getElem_cons_succ, List.getElem_cons_zero, List.setIfInBounds_toArray, List.set_cons_zero, List.set_cons_succ]
          first | (refine Wk.skip (m := 7) (k := 9) rfl (by rfl) ?_) | (refine Wk.step (m := 7) (k := 9) (v := _) rfl (by rfl) (fun wv hS => by obtain ⟨s0, s1, s2, s3, s4⟩ := hS; go_simp; try with_reducible rfl) ?_)
          try simp only [Act.put, List.getElem_toArray, List.getElem_cons_succ, List.getElem_cons_zero, List.setIfInBounds_toArray, List.set_cons_zero, List.set_cons_succ]
          first | (refine Wk.skip (m := 6) (k := 10) rfl (by rfl) ?_) | (refine Wk.step (m := 6) (k := 10) (v := _) rfl (by rfl) (fun wv hS => by obtain ⟨s0, s1, s2, s3, s4⟩ := hS; go_simp; try with_reducible rfl) ?_)
          try simp only [Act.put, List.getElem_toArray, List.getElem_cons_succ, List.getElem_cons_zero, List.setIfInBounds_toArray, List.set_cons_zero, List.set_cons_succ]
          first | (refine Wk.skip (m := 5) (k := 11) rfl (by rfl) ?_) | (refine Wk.step (m := 5) (k := 11) (v := _) rfl (by rfl) (fun wv hS => by obtain ⟨s0, s1, s2, s3, s4⟩ := hS; go_simp; try with_reducible rfl) ?_)
          try simp only [Act.put, List.getElem_toArray, List.getElem_cons_succ, List.getElem_cons_zero, List.setIfInBounds_toArray, List.set_cons_zero, List.set_cons_succ]
          first | (refine Wk.skip (m := 4) (k := 12) rfl (by rfl) ?_) | (refine Wk.step (m := 4) (k := 12) (v := _) rfl (by rfl) (fun wv hS => by obtain ⟨s0, s1, s2, s3, s4⟩ := hS; go_simp; try with_reducible rfl) ?_)
          try simp only [Act.put, List.getElem_toArray, List.getElem_cons_succ, List.getElem_cons_zero, List.setIfInBounds_toArray, List.set_cons_zero, List.set_cons_succ]
          first | (refine Wk.skip (m := 3) (k := 13) rfl (by rfl) ?_) | (refine Wk.step (m := 3) (k := 13) (v := _) rfl (by rfl) (fun wv hS => by obtain ⟨s0, s1, s2, s3, s4⟩ := hS; go_simp; try with_reducible rfl) ?_)
          try simp only [Act.put, List.getElem_toArray, List.getElem_cons_succ, List.getElem_cons_zero, List.setIfInBounds_toArray, List.set_cons_zero, List.set_cons_succ]
          first | (refine Wk.skip (m := 2) (k := 14) rfl (by rfl) ?_) | (refine Wk.step (m := 2) (k := 14) (v := _) rfl (by rfl) (fun wv hS => by obtain ⟨s0, s1, s2, s3, s4⟩ := hS; go_simp; try with_reducible rfl) ?_)
          try simp only [Act.put, List.getElem_toArray, List.getElem_cons_succ, List.getElem_cons_zero, List.setIfInBounds_toArray, List.set_cons_zero, List.set_cons_succ]
          first | (refine Wk.skip (m := 1) (k := 15) rfl (by rfl) ?_) | (refine Wk.step (m := 1) (k := 15) (v := _) rfl (by rfl) (fun wv hS => by obtain ⟨s0, s1, s2, s3, s4⟩ := hS; go_simp; try with_reducible rfl) ?_)
          try simp only [Act.put, List.getElem_toArray, List.getElem_cons_succ, List.getElem_cons_zero, List.setIfInBounds_toArray, List.set_cons_zero, List.set_cons_succ]
          first | (refine Wk.skip (m := 0) (k := 16) rfl (by rfl) ?_) | (refine Wk.step (m := 0) (k := 16) (v := _) rfl (by rfl) (fun wv hS => by obtain ⟨s0, s1, s2, s3, s4⟩ := hS; go_simp; try with_reducible rfl) ?_)
          try simp only [Act.put, List.getElem_toArray, List.getElem_cons_succ, List.getElem_cons_zero, List.setIfInBounds_toArray, List.set_cons_zero, List.set_cons_succ]
          refine Wk.done fun wE hE => ?_
          clear k0 k1 ci d1
          obtain ⟨mE, k0, k1, ci, d1⟩ := hE
          go_wp2_with fail
          go_roundw
          case rel => exact ⟨k + 1, by omega, by go_num, by rw [HE.out]; exact own_keptR hown mE, hM.trans mE, HKK.out.mk mE, HOB.out⟩
          case measure => simp [intOf]; omega
        · have HE := Lib.hid (show rcF zs n0 ((elN X 16).take (k + 1)) = L ++ [(q : Int)] by rw [HT.out, rcF_t HY2.out, hL.out])
          go_wp2_with fail
          refine wp_region_wk (fun w' => Mk0 wr w' ∧ w'.cell? ⟨w.heap.size, 0, none⟩ = some (.slice (some ⟨bq, oq, none⟩) n0 c0) ∧ w'.cell? ⟨w.heap.size, 1, none⟩ = some (.slice a1 n1 c1) ∧ w'.cell? ⟨b, off + k, none⟩ = some (.int .i64 (q : Int)) ∧ w'.cell? ⟨bq, oq + q * 3 + 1, none⟩ = some (.bool true)) (by kernel_rfl) (by kernel_rfl) (⟨Mk.drew1 _, k0, k1, ci, d1⟩) ?_
          change Wk _ _ _ _ 17 0 _
          first | (refine Wk.skip (m := 16) (k := 0) rfl (by rfl) ?_) | (refine Wk.step (m := 16) (k := 0) (v := _) rfl (by rfl) (fun wv hS => by obtain ⟨s0, s1, s2, s3, s4⟩ := hS; go_simp; try with_reducible rfl) ?_)
          try simp only [Act.put, List.getElem_toArray, List.getElem_cons_zero, List.setIfInBounds_toArray, List.set_cons_zero, List.set_cons_succ]
          first | (refine Wk.skip (m := 15) (k := 1) rfl (by rfl) ?_) | (refine Wk.step (m := 15) (k := 1) (v := _) rfl (by rfl) (fun wv hS => by obtain ⟨s0, s1, s2, s3, s4⟩ := hS; go_simp; try with_reducible rfl) ?_)
          try simp only [Act.put, List.getElem_toArray, List.getElem_cons_succ, List.getElem_cons_zero, List.setIfInBounds_toArray, List.set_cons_zero, List.set_cons_succ]
          first | (refine Wk.skip (m := 14) (k := 2) rfl (by rfl) ?_) | (refine Wk.step (m := 14) (k := 2) (v := _) rfl (by rfl) (fun wv hS => by obtain ⟨s0, s1, s2, s3, s4⟩ := hS; go_simp; try with_reducible rfl) ?_)
          try simp only [Act.put, List.getElem_toArray, List.getElem_cons_succ, List.getElem_cons_zero, List.setIfInBounds_toArray, List.set_cons_zero, List.set_cons_succ]
          first | (refine Wk.skip (m := 13) (k := 3) rfl (by rfl) ?_) | (refine Wk.step (m := 13) (k := 3) (v := _) rfl (by rfl) (fun wv hS => by obtain ⟨s0, s1, s2, s3, s4⟩ := hS; go_simp; try with_reducible rfl) ?_)
          try simp only [Act.put, List.getElem_toArray, List.getElem_cons_succ, List.getElem_cons_zero, List.setIfInBounds_toArray, List.set_cons_zero, List.set_cons_succ]
          first | (refine Wk.skip (m := 12) (k := 4) rfl (by rfl) ?_) | (refine Wk.step (m := 12) (k := 4) (v := _) rfl (by rfl) (fun wv hS => by obtain ⟨s0, s1, s2, s3, s4⟩ := hS; go_simp; try with_reducible rfl) ?_)
          try simp only [Act.put, List.getElem_toArray, List.getElem_cons_succ, List.getElem_cons_zero, List.setIfInBounds_toArray, List.set_cons_zero, List.set_cons_succ]
          refine Wk.call (m := 11) (k := 5) (v := .bool true) _ _ rfl (by rfl) (fun wv hS => by obtain ⟨s0, s1, s2, s3, s4⟩ := hS; go_simp; first | done | exact ⟨rfl, rfl⟩ | with_reducible rfl) (fun wv hS => ?_) ?_; · obtain ⟨s0, s1, s2, s3, s4⟩ := hS; refine (specRealmIs true (some ⟨bq, oq, none⟩) a1 n0 c0 n1 c1 (q : Int) HR.out wv hn0).mono ?_; rintro e w' ⟨he, mm⟩; exact ⟨he, ⟨s0.trans mm, mm.cellAt s1, mm.cellAt s2, mm.cellAt s3, mm.cellAt s4⟩⟩
          try simp only [Act.put, List.getElem_toArray, List.getElem_cons_succ, List.getElem_cons_zero, List.setIfInBounds_toArray, List.set_cons_zero, List.set_cons_succ]
          first | (refine Wk.skip (m := 10) (k := 6) rfl (by rfl) ?_) | (refine Wk.step (m := 10) (k := 6) (v := _) rfl (by rfl) (fun wv hS => by obtain ⟨s0, s1, s2, s3, s4⟩ := hS; go_simp; try with_reducible rfl) ?_)
          try simp only [Act.put, List.getElem_toArray, List.getElem_cons_succ, List.getElem_cons_zero, List.setIfInBounds_toArray, List.set_cons_zero, List.set_cons_succ]
          first | (refine Wk.skip (m := 9) (k := 7) rfl (by rfl) ?_) | (refine Wk.step (m := 9) (k := 7) (v := _) rfl (by rfl) (fun wv hS => by obtain ⟨s0, s1, s2, s3, s4⟩ := hS; go_simp; try with_reducible rfl) ?_)
          try simp only [Act.put, List.getElem_toArray, List.getElem_cons_succ, List.getElem_cons_zero, List.setIfInBounds_toArray, List.set_cons_zero, List.set_cons_succ]
          first | (refine Wk.skip (m := 8) (k := 8) rfl (by rfl) ?_) | (refine Wk.step (m := 8) (k := 8) (v := _) rfl (by rfl) (fun wv hS => by obtain ⟨s0, s1, s2, s3, s4⟩ := hS; go_simp; try with_reducible rfl) ?_)
          try simp only [Act.put, List.getElem_toArray, List.getElem_cons_succ, List.getElem_cons_zero, List.setIfInBounds_toArray, List.set_cons_zero, List.set_cons_succ]
          first | (refine Wk.skip (m := 7) (k := 9) rfl (by rfl) ?_) | (refine Wk.step (m := 7) (k := 9) (v := _) rfl (by rfl) (fun wv hS => by obtain ⟨s0, s1, s2, s3, s4⟩ := hS; go_simp; try with_reducible rfl) ?_)
          try simp only [Act.put, List.getElem_toArray, List.getElem_cons_succ, List.getElem_cons_zero, List.setIfInBounds_toArray, List.set_cons_zero, List.set_cons_succ]
          first | (refine Wk.skip (m := 6) (k := 10) rfl (by rfl) ?_) | (refine Wk.step (m := 6) (k := 10) (v := _) rfl (by rfl) (fun wv hS => by obtain ⟨s0, s1, s2, s3, s4⟩ := hS; go_simp; try with_reducible rfl) ?_)
          try simp only [Act.put, List.getElem_toArray, List.getElem_cons_succ, List.getElem_cons_zero, List.setIfInBounds_toArray, List.set_cons_zero, List.set_cons_succ]
          first | (refine Wk.skip (m := 5) (k := 11) rfl (by rfl) ?_) | (refine Wk.step (m := 5) (k := 11) (v := _) rfl (by rfl) (fun wv hS => by obtain ⟨s0, s1, s2, s3, s4⟩ := hS; go_simp; try with_reducible rfl) ?_)
          try simp only [Act.put, List.getElem_toArray, List.getElem_cons_succ, List.getElem_cons_zero, List.setIfInBounds_toArray, List.set_cons_zero, List.set_cons_succ]
          first | (refine Wk.skip (m := 4) (k := 12) rfl (by rfl) ?_) | (refine Wk.step (m := 4) (k := 12) (v := _) rfl (by rfl) (fun wv hS => by obtain ⟨s0, s1, s2, s3, s4⟩ := hS; go_simp; try with_reducible rfl) ?_)
          try simp only [Act.put, List.getElem_toArray, List.getElem_cons_succ, List.getElem_cons_zero, List.setIfInBounds_toArray, List.set_cons_zero, List.set_cons_succ]
          first | (refine Wk.skip (m := 3) (k := 13) rfl (by rfl) ?_) | (refine Wk.step (m := 3) (k := 13) (v := _) rfl (by rfl) (fun wv hS => by obtain ⟨s0, s1, s2, s3, s4⟩ := hS; go_simp; try with_reducible rfl) ?_)
          try simp only [Act.put, List.getElem_toArray, List.getElem_cons_succ, List.getElem_cons_zero, List.setIfInBounds_toArray, List.set_cons_zero, List.set_cons_succ]
          first | (refine Wk.skip (m := 2) (k := 14) rfl (by rfl) ?_) | (refine Wk.step (m := 2) (k := 14) (v := _) rfl (by rfl) (fun wv hS => by obtain ⟨s0, s1, s2, s3, s4⟩ := hS; go_simp; try with_reducible rfl) ?_)
          try simp only [Act.put, List.getElem_toArray, List.getElem_cons_succ, List.getElem_cons_zero, List.setIfInBounds_toArray, List.set_cons_zero, List.set_cons_succ]
          first | (refine Wk.skip (m := 1) (k := 15) rfl (by rfl) ?_) | (refine Wk.step (m := 1) (k := 15) (v := _) rfl (by rfl) (fun wv hS => by obtain ⟨s0, s1, s2, s3, s4⟩ := hS; go_simp; try with_reducible rfl) ?_)
          try simp only [Act.put, List.getElem_toArray, List.getElem_cons_succ, List.getElem_cons_zero, List.setIfInBounds_toArray, List.set_cons_zero, List.set_cons_succ]
          first | (refine Wk.skip (m := 0) (k := 16) rfl (by rfl) ?_) | (refine Wk.step (m := 0) (k := 16) (v := _) rfl (by rfl) (fun wv hS => by obtain ⟨s0, s1, s2, s3, s4⟩ := hS; go_simp; try with_reducible rfl) ?_)
          try simp only [Act.put, List.getElem_toArray, List.getElem_cons_succ, List.getElem_cons_zero, List.setIfInBounds_toArray, List.set_cons_zero, List.set_cons_succ]
          refine Wk.done fun wE hE => ?_
          clear k0 k1 ci d1
          obtain ⟨mE, k0, k1, ci, d1⟩ := hE
          have hn1' := has_new .i64 wE 3 (q : Int)
          have MA := Mk.alloc wE (.cells #[.int .i64 (q : Int)] 3)
          have ho' := own_keptR (own_keptR hown mE) MA
          have hsE := mE.size
          have hlo' : w.heap.size + 1 ≤ (wE.alloc (.cells #[.int .i64 (q : Int)] 3)).heap.size := by rw [World.size_alloc]; omega
          go_wp2_with (at_builtin; refine wpList_app rfl (.tmp 38) (.tmp 43) 35 rfl _ 3 i0 Try.underlying35 hi hz0 hz1 hby _ L L.length rfl ho' _ 1 1 [(q : Int)] rfl (fun h => by cases h) hn1' (by omega) hlo' ?_; intro v3 w3 ho3 hg3 hat3)
          have M3 := (hM.trans (mE.trans MA)).appR hg3 (fun g hg => by have := (ho'.lt g hg).1; rw [hs1]; omega)
          have K3 := Lib.hid ((HKK.out.mk (mE.trans MA)).grow hg3 HOB.out)
          have B3 := Lib.hid (show OB (w.heap.size + 1 + 1) w2.heap.size v3 from fun g hg => by exact hat3.elim (fun h => HOB.out g (h.symm.trans hg)) (fun h => .inr (by rw [hg] at h; simp only [Option.some.injEq] at h; subst h; exact (HKK.out.mk (mE.trans MA)).1)))
          clear hat3
          go_wp2_with fail
          go_roundw
          case rel => exact ⟨k + 1, by omega, by go_num, by rw [HE.out, List.length_append]; exact ho3, M3, K3.out, B3.out⟩
          case measure => simp [intOf]; omega
    · obtain rfl : k = N := by omega
      have HF := Lib.hid (show L = rcF zs n0 (elN X 16) by rw [hL.out, List.take_of_length_le (by rw [HN.out]; exact Nat.le_refl _)])
      obtain ⟨A3, C3, rfl, hA3, hN3⟩ := ownsRow_sliceR2 hown
      have hO3 := ownsRow_own hown
      go_wp2_with fail
      go_ret
      exact ⟨A3, _, C3, rfl, hA3, by rw [← hX.out, ← HF.out]; exact hO3.low (Nat.le_succ _), hM'.below0⟩

end Go.Proofs.Ytjlglppknemffaa
namespace Go.Proofs.Ytjlglppknemffaa
open Go Go.Proofs Go.RowKit Go.Shelf Go.ChangeShapes Go.WideShapes Go.ChangeAt
set_option linter.unusedVariables false
attribute [local go_sem] Oper.semAt_some
theorem implAncIs (a0 a1 : Option Addr) (n0 c0 n1 c1 B : Nat) (zl : List TLink) (r : Int) (w : World) (hl : HasLink w B a1 n1 zl) (hB : B ≤ w.heap.size) (hn1 : n1 ≤ 1048576) (V : Int) (hV : itP zl n1 3 (nbS zl n1 r 3) 9 = V) :
    Calls Try.prog 32 #[.agg #[.slice a0 n0 c0, .slice a1 n1 c1], .int .i64 r] w fun e w' => e = .returned (.int .i64 V) ∧ Mk0 w w' := hV ▸ implAncestors a0 a1 n0 c0 n1 c1 B zl r w hl hB hn1
theorem implAddIs (s i V : Int) (w : World) (hV : addV s i = V) : Calls Try.prog 77 #[.int .i64 s, .int .i64 i] w fun e w' => e = .returned (.int .i64 V) ∧ w = w' := hV ▸ implAddElement s i w
set_option maxRecDepth 100000 in
set_option maxHeartbeats 4000000 in
theorem rc_in (a0 a1 : Option Addr) (n0 c0 n1 c1 B : Nat) (zs : List TAS) (zl : List TLink) (r : Int) (w : World) (h : HasAS w B a0 n0 zs) (hl : HasLink w B a1 n1 zl) (hB : B ≤ w.heap.size) (hn0 : n0 ≤ 1048576) (hn1 : n1 ≤ 1048576) (A X : Int) (hA : itP zl n1 3 (nbS zl n1 r 3) 9 = A) (hX : addV A r = X) :
    CallsIn Fence.wide 6 Try.prog 36 #[.agg #[.slice a0 n0 c0, .slice a1 n1 c1], .int .i64 r] w fun e w' => ∃ v, e = .returned v ∧ w'.ownsRow (w.heap.size + 1) 3 1 v (rcF zs n0 (elN X 16)).length ((rcF zs n0 (elN X 16)).map (.int .i64)) ∧ Below w.heap.size w w' := by
  refine callsIn_of_wp_marks Try.func36 rfl trivial ?_ rfl
  simp only [Try.ntmps36, List.size_toArray, List.length_cons, List.length_nil, Nat.reduceAdd, Nat.reduceSub, Array.replicate_succ, Array.replicate_zero, List.push_toArray, List.append_toArray, List.nil_append, List.cons_append]
  obtain ⟨i0, hi, hz0, hz1, hz2⟩ := info_parts infoI64
  have hs1 : (w.alloc (Obj.cells #[Value.slice a0 n0 c0, Value.slice a1 n1 c1] 31)).heap.size = w.heap.size + 1 := by rw [World.size_alloc]
  have hs2 : ((w.alloc (Obj.cells #[Value.slice a0 n0 c0, Value.slice a1 n1 c1] 31)).alloc (.cells #[] 3)).heap.size = w.heap.size + 1 + 1 := by rw [World.size_alloc, World.size_alloc]
  have hs3 : (((w.alloc (Obj.cells #[Value.slice a0 n0 c0, Value.slice a1 n1 c1] 31)).alloc (.cells #[] 3)).alloc (.cells #[.slice (some ⟨w.heap.size + 1, 0, none⟩) 0 0] 35)).heap.size = w.heap.size + 1 + 1 + 1 := by rw [World.size_alloc, World.size_alloc, World.size_alloc]
  have o0 := own_lit (w.alloc (Obj.cells #[Value.slice a0 n0 c0, Value.slice a1 n1 c1] 31)) 3 [] (by simp)
  rw [hs1] at o0
  have bO := Boxed.new ((w.alloc (Obj.cells #[Value.slice a0 n0 c0, Value.slice a1 n1 c1] 31)).alloc (.cells #[] 3)) 35 (.slice (some ⟨w.heap.size + 1, 0, none⟩) 0 0)
  rw [hs2] at bO
  have o1 := o0.alloc (.cells #[.slice (some ⟨w.heap.size + 1, 0, none⟩) 0 0] 35)
  have MB : Mk0 w (((w.alloc (Obj.cells #[Value.slice a0 n0 c0, Value.slice a1 n1 c1] 31)).alloc (.cells #[] 3)).alloc (.cells #[.slice (some ⟨w.heap.size + 1, 0, none⟩) 0 0] 35)) := ((Mk.alloc w (Obj.cells #[Value.slice a0 n0 c0, Value.slice a1 n1 c1] 31)).trans (Mk.alloc _ _)).trans (Mk.alloc _ _)
  have t0 : (((w.alloc (Obj.cells #[Value.slice a0 n0 c0, Value.slice a1 n1 c1] 31)).alloc (.cells #[] 3)).alloc (.cells #[.slice (some ⟨w.heap.size + 1, 0, none⟩) 0 0] 35)).cell? ⟨w.heap.size, 0, none⟩ = some (.slice a0 n0 c0) := by simp [go_sem]
  have t1 : (((w.alloc (Obj.cells #[Value.slice a0 n0 c0, Value.slice a1 n1 c1] 31)).alloc (.cells #[] 3)).alloc (.cells #[.slice (some ⟨w.heap.size + 1, 0, none⟩) 0 0] 35)).cell? ⟨w.heap.size, 1, none⟩ = some (.slice a1 n1 c1) := by simp [go_sem]
  have hlB := hl.mk MB hB (.inr (Nat.le_refl _))
  have hBB := Nat.le_trans hB MB.size
  have HNN := Lib.hid (And.intro hn0 hn1)
  have HAX := Lib.hid (And.intro hA hX)
  have HSZ := Lib.hid (And.intro hs1 (And.intro hs2 hs3))
  have HO := Lib.hid (And.intro bO o1)
  clear hn0 hn1 hA hX hs1 hs2 hs3 o0 bO o1
  gi_wp2_with (first | (refine ⟨trivial, ?_⟩; gi_at_call 32; refine (callsIn_wide.2 (implAncIs a0 a1 n0 c0 n1 c1 B zl r _ (by exact hlB) (by exact hBB) HNN.out.2 A HAX.out.1)).mono ?_; rintro e w3 ⟨rfl, m3⟩) | (refine ⟨trivial, ?_⟩; gi_at_call 77; refine (callsIn_wide.2 (implAddIs _ _ X _ HAX.out.2)).mono ?_; rintro e w' ⟨rfl, rfl⟩) | (refine ⟨trivial, ?_⟩; gi_at_call 76; refine (elementsOf_in _ _).mono ?_; rintro e w' ⟨rfl, rfl⟩))
  have M4 : Mk0 (((w.alloc (Obj.cells #[Value.slice a0 n0 c0, Value.slice a1 n1 c1] 31)).alloc (.cells #[] 3)).alloc (.cells #[.slice (some ⟨w.heap.size + 1, 0, none⟩) 0 0] 35)) (w3.alloc (.cells #[.int .i64 X] 3)) := m3.trans (Mk.alloc _ _)
  have bO := HO.out.1
  have o1 := HO.out.2
  have hs3 := HSZ.out.2.2
  have h3 := m3.size
  rw [hs3] at h3
  have bN := Boxed.new w3 3 (.int .i64 X)
  have bO4 : Boxed (w3.alloc (.cells #[.int .i64 X] 3)) (w.heap.size + 1 + 1) 35 (.slice (some ⟨w.heap.size + 1, 0, none⟩) 0 0) := (M4.block _ (by rw [hs3]; omega) (.inr (Nat.zero_le _))).trans bO
  have o4 := own_keptR o1 M4
  have k0 := M4.cellAt t0
  have k1 := M4.cellAt t1
  have hB0 : Below w.heap.size w (w3.alloc (.cells #[.int .i64 X] 3)) := (MB.trans M4).below0
  clear bO o1 t0 t1 M4
  refine wpIn_rangeFunc_ownF rfl (by decide) (gf := 105) (lb := #[.pointer (some ⟨w3.heap.size, 0, none⟩)]) rfl trivial (enters_of Try.func105 (by kernel_rfl) rfl)
    (elements_stops X w3.heap.size w.heap.size _ (by simp) bN.cell) KpC.t (KpC.b (by simp; omega) (by simp)) (Below.refl _ _) (fun _ => rfl)
    (fun pre W => (∃ v, Boxed W (w.heap.size + 1 + 1) 35 v ∧ W.ownsRow (w.heap.size + 1) 3 1 v (rcF zs n0 pre).length ((rcF zs n0 pre).map (Value.int .i64)) ∧ v.ownBlock ≠ some w3.heap.size) ∧ (W.cell? ⟨w.heap.size, 0, none⟩ = some (.slice a0 n0 c0) ∧ W.cell? ⟨w.heap.size, 1, none⟩ = some (.slice a1 n1 c1) ∧ W.cell? ⟨w3.heap.size, 0, none⟩ = some (.int .i64 X)) ∧ Below w.heap.size w W)
    (fun _ _ _ => False)
    (OwnFrom.and (Own.from (holdsRow_own (w.heap.size + 1) (w.heap.size + 1 + 1) 35 3 1 (fun pre : List Int => (rcF zs n0 pre).length) (fun pre : List Int => (rcF zs n0 pre).map (Value.int .i64)) (fun (pre : List Int) v => v.ownBlock ≠ some w3.heap.size)) _) (OwnFrom.and (Own.from (fun q A B row hs hg hr => ⟨Go.cell_kept hs.1 hg hr, Go.cell_kept hs.2.1 hg hr, Go.cell_kept hs.2.2 hg hr⟩) _) (ownFrom_below (Nat.le_refl _) (by simp; omega))))
    (fun _ _ _ _ _ hs _ _ => hs)
    ⟨⟨_, bO4, o4, by simp [Value.ownBlock]; omega⟩, ⟨k0, k1, bN.cell⟩, hB0⟩
    (fun x => { tmps := #[.agg #[.slice a0 n0 c0, .slice a1 n1 c1], .int .i64 r, .pointer (some ⟨w.heap.size, 0, none⟩), undef, .slice none 0 0, .pointer (some ⟨w.heap.size + 1 + 1, 0, none⟩), .int .i64 x, .slice (some ⟨w.heap.size + 1, 0, none⟩) 0 0, .agg #[.slice a0 n0 c0, .slice a1 n1 c1], .int .i64 r, .int .i64 A, .int .i64 r, .int .i64 X, .func (.func 105) #[] #[.pointer (some ⟨w3.heap.size, 0, none⟩)], .int .i64 x, undef, undef, undef, undef, undef, undef, undef, undef], defers := [] }) ?assign ?body ?done ?stop
  case assign =>
    intro l x W K hK
    gi_wp2
    exact hK
  case body =>
    rintro l pre x W ⟨⟨v, hv, hrow, hnb⟩, ⟨c0', c1', cs'⟩, hBW⟩ hlt
    clear bO4 o4 k0 k1 bN hB0 m3 hlB hBB MB
    have HNB := Lib.hid hnb
    clear hnb
    have hAW : HasAS W B a0 n0 zs := h.mk (Mk.of_below hBW) hB (.inr (Nat.le_refl _))
    have hBsz := Nat.le_trans hB hBW.size
    have hbl : w3.heap.size < W.heap.size := World.block_lt_of_cell? W _ cs'
    have hle := rcF_le zs n0 pre
    cases hcx : crB zs n0 x
    · have HF := Lib.hid (rcF_f (L := pre) hcx)
      have HC := Lib.hid hcx
      clear hcx
      gi_wp2_with (refine ⟨trivial, ?_⟩; gi_at_call 78; refine (CallsIn.inRound l (callsIn_wide.2 (implCoreIs false a0 a1 n0 c0 n1 c1 B zs x HC.out _ (by exact hAW) (by exact hBsz) HNN.out.1))).mono ?_; rintro e w5 ⟨rfl, m5⟩)
      exact ⟨keepsMk m5, ⟨m5.below0.mono hBW.size, m5.block _ hbl (.inr (Nat.zero_le _))⟩, ⟨v, (m5.block _ hv.lt (.inr (Nat.zero_le _))).trans hv, by rw [HF.out]; exact own_keptR hrow m5, HNB.out⟩, ⟨m5.cellAt c0', m5.cellAt c1', m5.cellAt cs'⟩, hBW.trans (m5.below0.mono hBW.size)⟩
    · have HF := Lib.hid (rcF_t (L := pre) hcx)
      have HC := Lib.hid hcx
      clear hcx
      obtain ⟨L, hL⟩ : ∃ L, Hid (L = rcF zs n0 pre) := ⟨_, Lib.hid rfl⟩
      rw [← hL.out] at hrow hle HF
      have hbnd : L.length + 1 ≤ maxLen := by unfold maxLen; omega
      have hbnd2 : (L.length + 1) * 8 ≤ 140737488355328 := by omega
      gi_wp2_with (first | (refine ⟨trivial, ?_⟩; gi_at_call 78; refine (CallsIn.inRound l (callsIn_wide.2 (implCoreIs true a0 a1 n0 c0 n1 c1 B zs x HC.out _ (by exact hAW) (by exact hBsz) HNN.out.1))).mono ?_; rintro e w5 ⟨rfl, m5⟩; have hv5 : Boxed w5 (w.heap.size + 1 + 1) 35 v := (m5.block _ hv.lt (.inr (Nat.zero_le _))).trans hv; have hrow5 := own_keptR hrow m5; have hc5 := hv5.cell; have hB5 : w.heap.size + 1 ≤ w5.heap.size := (by have := m5.size; omega); have hbs : w.heap.size + 1 ≤ (w5.alloc (.cells #[.int .i64 x] 3)).heap.size := (by rw [World.size_alloc]; omega)) | (gi_at_builtin; refine wpListIn_append_own_at _ rfl _ _ 35 rfl (w.heap.size + 1) 3 i0 (.int .i64 0) 1 8 Try.underlying35 hi hz0 hz1 hz2 rfl (by decide) _ _ _ rfl (hrow5.alloc _) ⟨w5.heap.size, 0, none⟩ 1 1 [.int .i64 x] rfl rfl (cell_one_new _ _ _) (by simp [Value.oneCell']) hbnd hbnd2 hbs ?_; intro v' w1 hown' hgrow _ hat; obtain ⟨g', cap', rfl⟩ := ownsRow_succ hown'; obtain ⟨hv1, hv2, hr2, hk2, hb2⟩ := hv5.appended (by decide) hrow5 hB5 (by omega) hown' hgrow; have hc1 := hv1.cell; have hf1 := hv1.frozen))
      have hbl5 : w3.heap.size < w5.heap.size := Nat.lt_of_lt_of_le hbl m5.size
      have hblk : w1.heap[w3.heap.size]? = w5.heap[w3.heap.size]? := (hgrow.block _ (by simp; omega) (fun e => HNB.out e.symm)).trans (Below.heap_alloc w5 _ _ hbl5)
      have hblk2 := (Below.heap_setCell w1 ⟨w.heap.size + 1 + 1, 0, none⟩ (Value.slice (some ⟨g', 0, none⟩) (L.length + 1) cap') w3.heap.size (by simp; omega)).trans hblk
      have bW := (m5.below0.mono hBW.size).trans (hb2.mono (Nat.le_succ _))
      refine ⟨(keepsMk m5).trans hk2, ⟨bW, hblk2.trans (m5.block _ hbl (.inr (Nat.zero_le _)))⟩, ⟨_, hv2, by rw [HF.out]; simpa using hr2, ?_⟩, ⟨(World.cell?_of_block (w := w5) (a := ⟨w.heap.size, 0, none⟩) (hb2.block _ (Nat.lt_succ_self _))).trans (m5.cellAt c0'), (World.cell?_of_block (w := w5) (a := ⟨w.heap.size, 1, none⟩) (hb2.block _ (Nat.lt_succ_self _))).trans (m5.cellAt c1'), (World.cell?_of_block (w := w5) (a := ⟨w3.heap.size, 0, none⟩) hblk2).trans (m5.cellAt cs')⟩, hBW.trans bW⟩
      rcases hat with h | h
      · rw [h]; exact HNB.out
      · rw [h]; simp; omega
  case done =>
    rintro D ys W hD rfl ⟨⟨v, hv, hrow, hnb⟩, ⟨c0', c1', cs'⟩, hB⟩ hK
    have hc := hv.cell
    clear hnb c0' c1' cs'
    gi_wp2
    refine ⟨by simp, .inl ⟨_, _, rfl, run_takeDeferred hK, ?_⟩⟩
    exact ⟨_, results_tmp rfl _ _ _, v, rfl, ownsRow_putObj hrow _ hK rfl, hB.trans (belowK_b (w := w) (Nat.le_refl _) W D _ _ (by simp at hD; omega) hK rfl rfl)⟩
  case stop =>
    rintro D c pre W _ _ h _
    exact h.elim
theorem implRC (a0 a1 : Option Addr) (n0 c0 n1 c1 B : Nat) (zs : List TAS) (zl : List TLink) (r : Int) (w : World) (h : HasAS w B a0 n0 zs) (hl : HasLink w B a1 n1 zl) (hB : B ≤ w.heap.size) (hn0 : n0 ≤ 1048576) (hn1 : n1 ≤ 1048576) :
    Calls Try.prog 36 #[.agg #[.slice a0 n0 c0, .slice a1 n1 c1], .int .i64 r] w (OutIfs w (rcF zs n0 (elN (addV (itP zl n1 3 (nbS zl n1 r 3) 9) r) 16))) := by
  refine (callsIn_wide.1 (rc_in a0 a1 n0 c0 n1 c1 B zs zl r w h hl hB hn0 hn1 _ _ rfl rfl)).mono ?_
  rintro e w' ⟨v, rfl, ho, hb⟩
  obtain ⟨A3, C3, rfl, hA3, hN3⟩ := ownsRow_sliceR2 ho
  exact ⟨A3, _, C3, rfl, hA3, (ownsRow_own ho).low (Nat.le_succ _), hb⟩
end Go.Proofs.Ytjlglppknemffaa
