
/- CurrentHopValid of both sides. -/
import Derived.Test.YtbjfcjjfhnjaiaaPktL
namespace Go.Proofs.Ytbjfcjjfhnjaiaa
open Go.ChangeShapes Go.WideShapes Go.ChangeAt Go.RowKit
set_option linter.unusedVariables false
set_option maxRecDepth 100000 in
set_option maxHeartbeats 4000000 in
theorem implCurVal (x0 x1 x2 x4 x5 x6 x7 x8 : Int) (a3 : Option Addr) (n3 c3 : Nat) (z3 : List TPathPart) (a9 : Option Addr) (n9 c9 B : Nat) (w : World) (h3 : HasPathPart w B a3 n3 z3) (hB : B ≤ w.heap.size) (hn3 : szPathPart z3 n3 ≤ 1048576) (now : Int) :
    Calls Try.prog 31 #[.agg #[.int .i64 x0, .int .i64 x1, .int .i64 x2, .slice a3 n3 c3, .int .i64 x4, .int .i64 x5, .int .i64 x6, .int .i64 x7, .int .i64 x8, .slice a9 n9 c9], .int .i64 now] w fun e w' => e = .returned (.bool (curValB z3 n3 x4 x5 now)) ∧ Mk0 w w' := by
  by_cases hA : 0 ≤ x4 ∧ x4 < (n3 : Int)
  · obtain ⟨k, rfl⟩ := Int.eq_ofNat_of_zero_le hA.1
    have hk : k < n3 := by have := hA.2; omega
    clear hA
    obtain ⟨b, off, x, rfl, hb, hx, ah, nh, ch, d0, d1, d2, d3, r3, m3, t3, z3'⟩ := HasPathPart.at _ _ _ _ _ _ h3 hk
    by_cases hB' : 0 ≤ x5 ∧ x5 < (nh : Int)
    · obtain ⟨j, rfl⟩ := Int.eq_ofNat_of_zero_le hB'.1
      have hj : j < nh := by have := hB'.2; omega
      clear hB'
      obtain ⟨bh, offh, q, rfl, hbh, hq, e0, e1, e2, e3, e4⟩ := HasHop.at _ _ _ _ _ _ r3 hj
      have HH := Lib.hid (show pkHop z3 n3 (k : Int) (j : Int) = some q by rw [pkHop_yes hk (by rw [← hx.out]; exact r3.1) hj, ← hx.out, ← hq.out])
      have M0 := Mk.alloc w (Obj.cells #[Value.int .i64 x0, Value.int .i64 x1, Value.int .i64 x2, Value.slice (some ⟨b, off, none⟩) n3 c3, Value.int .i64 (k : Int), Value.int .i64 (j : Int), Value.int .i64 x6, Value.int .i64 x7, Value.int .i64 x8, Value.slice a9 n9 c9] 40)
      have hn : n3 ≤ 1048576 := Nat.le_trans (szPathPart_n z3 n3) hn3
      have i3 : (n3 : Int) ≤ 1048576 := by omega
      have u0 : (w.alloc (Obj.cells #[Value.int .i64 x0, Value.int .i64 x1, Value.int .i64 x2, Value.slice (some ⟨b, off, none⟩) n3 c3, Value.int .i64 (k : Int), Value.int .i64 (j : Int), Value.int .i64 x6, Value.int .i64 x7, Value.int .i64 x8, Value.slice a9 n9 c9] 40)).cell? ⟨w.heap.size, 0, none⟩ = some (.int .i64 x0) := by simp [go_sem]
      have u1 : (w.alloc (Obj.cells #[Value.int .i64 x0, Value.int .i64 x1, Value.int .i64 x2, Value.slice (some ⟨b, off, none⟩) n3 c3, Value.int .i64 (k : Int), Value.int .i64 (j : Int), Value.int .i64 x6, Value.int .i64 x7, Value.int .i64 x8, Value.slice a9 n9 c9] 40)).cell? ⟨w.heap.size, 1, none⟩ = some (.int .i64 x1) := by simp [go_sem]
      have u2 : (w.alloc (Obj.cells #[Value.int .i64 x0, Value.int .i64 x1, Value.int .i64 x2, Value.slice (some ⟨b, off, none⟩) n3 c3, Value.int .i64 (k : Int), Value.int .i64 (j : Int), Value.int .i64 x6, Value.int .i64 x7, Value.int .i64 x8, Value.slice a9 n9 c9] 40)).cell? ⟨w.heap.size, 2, none⟩ = some (.int .i64 x2) := by simp [go_sem]
      have u3 : (w.alloc (Obj.cells #[Value.int .i64 x0, Value.int .i64 x1, Value.int .i64 x2, Value.slice (some ⟨b, off, none⟩) n3 c3, Value.int .i64 (k : Int), Value.int .i64 (j : Int), Value.int .i64 x6, Value.int .i64 x7, Value.int .i64 x8, Value.slice a9 n9 c9] 40)).cell? ⟨w.heap.size, 3, none⟩ = some (.slice (some ⟨b, off, none⟩) n3 c3) := by simp [go_sem]
      have u4 : (w.alloc (Obj.cells #[Value.int .i64 x0, Value.int .i64 x1, Value.int .i64 x2, Value.slice (some ⟨b, off, none⟩) n3 c3, Value.int .i64 (k : Int), Value.int .i64 (j : Int), Value.int .i64 x6, Value.int .i64 x7, Value.int .i64 x8, Value.slice a9 n9 c9] 40)).cell? ⟨w.heap.size, 4, none⟩ = some (.int .i64 (k : Int)) := by simp [go_sem]
      have u5 : (w.alloc (Obj.cells #[Value.int .i64 x0, Value.int .i64 x1, Value.int .i64 x2, Value.slice (some ⟨b, off, none⟩) n3 c3, Value.int .i64 (k : Int), Value.int .i64 (j : Int), Value.int .i64 x6, Value.int .i64 x7, Value.int .i64 x8, Value.slice a9 n9 c9] 40)).cell? ⟨w.heap.size, 5, none⟩ = some (.int .i64 (j : Int)) := by simp [go_sem]
      have u6 : (w.alloc (Obj.cells #[Value.int .i64 x0, Value.int .i64 x1, Value.int .i64 x2, Value.slice (some ⟨b, off, none⟩) n3 c3, Value.int .i64 (k : Int), Value.int .i64 (j : Int), Value.int .i64 x6, Value.int .i64 x7, Value.int .i64 x8, Value.slice a9 n9 c9] 40)).cell? ⟨w.heap.size, 6, none⟩ = some (.int .i64 x6) := by simp [go_sem]
      have u7 : (w.alloc (Obj.cells #[Value.int .i64 x0, Value.int .i64 x1, Value.int .i64 x2, Value.slice (some ⟨b, off, none⟩) n3 c3, Value.int .i64 (k : Int), Value.int .i64 (j : Int), Value.int .i64 x6, Value.int .i64 x7, Value.int .i64 x8, Value.slice a9 n9 c9] 40)).cell? ⟨w.heap.size, 7, none⟩ = some (.int .i64 x7) := by simp [go_sem]
      have u8 : (w.alloc (Obj.cells #[Value.int .i64 x0, Value.int .i64 x1, Value.int .i64 x2, Value.slice (some ⟨b, off, none⟩) n3 c3, Value.int .i64 (k : Int), Value.int .i64 (j : Int), Value.int .i64 x6, Value.int .i64 x7, Value.int .i64 x8, Value.slice a9 n9 c9] 40)).cell? ⟨w.heap.size, 8, none⟩ = some (.int .i64 x8) := by simp [go_sem]
      have u9 : (w.alloc (Obj.cells #[Value.int .i64 x0, Value.int .i64 x1, Value.int .i64 x2, Value.slice (some ⟨b, off, none⟩) n3 c3, Value.int .i64 (k : Int), Value.int .i64 (j : Int), Value.int .i64 x6, Value.int .i64 x7, Value.int .i64 x8, Value.slice a9 n9 c9] 40)).cell? ⟨w.heap.size, 9, none⟩ = some (.slice a9 n9 c9) := by simp [go_sem]
      have hnh : nh ≤ 1048576 := by have HS := szPathPart_at z3 hk; unfold sePathPart at HS; rw [← hx.out, r3.1] at HS; omega
      have i4 : (nh : Int) ≤ 1048576 := by omega
      have i1 : (0 : Int) ≤ (k : Int) := by omega
      have i2 : (k : Int) < (n3 : Int) := by omega
      replace d0 := M0.cellAt d0
      replace d1 := M0.cellAt d1
      replace d2 := M0.cellAt d2
      replace d3 := M0.cellAt d3
      have j1 : (0 : Int) ≤ (j : Int) := by omega
      have j2 : (j : Int) < (nh : Int) := by omega
      replace e0 := M0.cellAt e0
      replace e1 := M0.cellAt e1
      replace e2 := M0.cellAt e2
      replace e3 := M0.cellAt e3
      replace e4 := M0.cellAt e4
      go_enter Try.func31, Try.ntmps31
      go_wp2_with fail
      have MM := M0
      refine (implCurAS x0 x1 x2 (k : Int) (j : Int) x6 x7 x8 (some ⟨b, off, none⟩) n3 c3 z3 a9 n9 c9 B _ (h3.mk MM hB (.inr (Nat.le_refl _))) (Nat.le_trans hB MM.size) hn3).mono ?_
      rintro e w1 ⟨he, m1⟩
      replace u3 := m1.cellAt u3
      replace u4 := m1.cellAt u4
      replace u5 := m1.cellAt u5
      replace d0 := m1.cellAt d0
      replace d1 := m1.cellAt d1
      replace d2 := m1.cellAt d2
      replace d3 := m1.cellAt d3
      replace e0 := m1.cellAt e0
      replace e1 := m1.cellAt e1
      replace e2 := m1.cellAt e2
      replace e3 := m1.cellAt e3
      replace e4 := m1.cellAt e4
      have M1 := M0.trans m1
      rw [curAS_some HH.out] at he
      subst he
      have HV := Lib.hid (show curValB z3 n3 (k : Int) (j : Int) now = (decide (0 ≤ q.nd) && (decide (x.ts ≤ now) && decide (now ≤ q.exp))) by unfold curValB; rw [curAS_some HH.out, HH.out]; show (_ && (decide ((z3.getD k default).ts ≤ now) && _)) = _; rw [← hx.out])
      by_cases hg : 0 ≤ q.nd
      · have HG := Lib.hid (show decide (0 ≤ q.nd) = true from decide_eq_true hg)
        go_wp2_with fail
        refine (cPartYes w.heap.size k b off n3 c3 _ u3 u4 hn hk).mono ?_
        rintro e w2 ⟨rfl, m2⟩
        replace u3 := m2.cellAt u3
        replace u4 := m2.cellAt u4
        replace u5 := m2.cellAt u5
        replace d0 := m2.cellAt d0
        replace d1 := m2.cellAt d1
        replace d2 := m2.cellAt d2
        replace d3 := m2.cellAt d3
        replace e0 := m2.cellAt e0
        replace e1 := m2.cellAt e1
        replace e2 := m2.cellAt e2
        replace e3 := m2.cellAt e3
        replace e4 := m2.cellAt e4
        have M2 := M1.trans m2
        by_cases ht : x.ts ≤ now
        · have HT := Lib.hid (show decide (x.ts ≤ now) = true from decide_eq_true ht)
          have ht2 : decide (x.ts ≤ now) = true := decide_eq_true ht
          go_wp2_with fail
          refine (cHopC w.heap.size k j b off n3 c3 bh offh nh ch _ u3 u4 u5 d3 hn hk hj hnh).mono ?_
          rintro e w3 ⟨rfl, m3'⟩
          replace u3 := m3'.cellAt u3
          replace u4 := m3'.cellAt u4
          replace u5 := m3'.cellAt u5
          replace d0 := m3'.cellAt d0
          replace d1 := m3'.cellAt d1
          replace d2 := m3'.cellAt d2
          replace d3 := m3'.cellAt d3
          replace e0 := m3'.cellAt e0
          replace e1 := m3'.cellAt e1
          replace e2 := m3'.cellAt e2
          replace e3 := m3'.cellAt e3
          replace e4 := m3'.cellAt e4
          have M3 := M2.trans m3'
          go_wp2_with fail
          refine (implHopAt ⟨q.nd, q.ing, q.eg, q.exp, q.mac⟩ now _).mono ?_
          rintro e w4 ⟨rfl, m4⟩
          go_wp2_with fail
          go_ret
          exact ⟨retB (by rw [HV.out, HG.out, HT.out]; rfl), M3.trans m4⟩
        · have HT := Lib.hid (show decide (x.ts ≤ now) = false from decide_eq_false ht)
          have ht2 : decide (x.ts ≤ now) = false := decide_eq_false ht
          replace ht : now < x.ts := by omega
          go_wp2_with fail
          go_ret
          exact ⟨retB (by rw [HV.out, HG.out, HT.out]; rfl), M2⟩
      · have HG := Lib.hid (show decide (0 ≤ q.nd) = false from decide_eq_false hg)
        replace hg : q.nd < 0 := by omega
        go_wp2_with fail
        go_ret
        exact ⟨retB (by rw [HV.out, HG.out]; rfl), M1⟩
    · have HH := Lib.hid (show pkHop z3 n3 (k : Int) x5 = none from pkHop_noB hk (by rw [← hx.out]; exact r3.1) hB')
      have M0 := Mk.alloc w (Obj.cells #[Value.int .i64 x0, Value.int .i64 x1, Value.int .i64 x2, Value.slice (some ⟨b, off, none⟩) n3 c3, Value.int .i64 (k : Int), Value.int .i64 x5, Value.int .i64 x6, Value.int .i64 x7, Value.int .i64 x8, Value.slice a9 n9 c9] 40)
      have hn : n3 ≤ 1048576 := Nat.le_trans (szPathPart_n z3 n3) hn3
      have i3 : (n3 : Int) ≤ 1048576 := by omega
      have u0 : (w.alloc (Obj.cells #[Value.int .i64 x0, Value.int .i64 x1, Value.int .i64 x2, Value.slice (some ⟨b, off, none⟩) n3 c3, Value.int .i64 (k : Int), Value.int .i64 x5, Value.int .i64 x6, Value.int .i64 x7, Value.int .i64 x8, Value.slice a9 n9 c9] 40)).cell? ⟨w.heap.size, 0, none⟩ = some (.int .i64 x0) := by simp [go_sem]
      have u1 : (w.alloc (Obj.cells #[Value.int .i64 x0, Value.int .i64 x1, Value.int .i64 x2, Value.slice (some ⟨b, off, none⟩) n3 c3, Value.int .i64 (k : Int), Value.int .i64 x5, Value.int .i64 x6, Value.int .i64 x7, Value.int .i64 x8, Value.slice a9 n9 c9] 40)).cell? ⟨w.heap.size, 1, none⟩ = some (.int .i64 x1) := by simp [go_sem]
      have u2 : (w.alloc (Obj.cells #[Value.int .i64 x0, Value.int .i64 x1, Value.int .i64 x2, Value.slice (some ⟨b, off, none⟩) n3 c3, Value.int .i64 (k : Int), Value.int .i64 x5, Value.int .i64 x6, Value.int .i64 x7, Value.int .i64 x8, Value.slice a9 n9 c9] 40)).cell? ⟨w.heap.size, 2, none⟩ = some (.int .i64 x2) := by simp [go_sem]
      have u3 : (w.alloc (Obj.cells #[Value.int .i64 x0, Value.int .i64 x1, Value.int .i64 x2, Value.slice (some ⟨b, off, none⟩) n3 c3, Value.int .i64 (k : Int), Value.int .i64 x5, Value.int .i64 x6, Value.int .i64 x7, Value.int .i64 x8, Value.slice a9 n9 c9] 40)).cell? ⟨w.heap.size, 3, none⟩ = some (.slice (some ⟨b, off, none⟩) n3 c3) := by simp [go_sem]
      have u4 : (w.alloc (Obj.cells #[Value.int .i64 x0, Value.int .i64 x1, Value.int .i64 x2, Value.slice (some ⟨b, off, none⟩) n3 c3, Value.int .i64 (k : Int), Value.int .i64 x5, Value.int .i64 x6, Value.int .i64 x7, Value.int .i64 x8, Value.slice a9 n9 c9] 40)).cell? ⟨w.heap.size, 4, none⟩ = some (.int .i64 (k : Int)) := by simp [go_sem]
      have u5 : (w.alloc (Obj.cells #[Value.int .i64 x0, Value.int .i64 x1, Value.int .i64 x2, Value.slice (some ⟨b, off, none⟩) n3 c3, Value.int .i64 (k : Int), Value.int .i64 x5, Value.int .i64 x6, Value.int .i64 x7, Value.int .i64 x8, Value.slice a9 n9 c9] 40)).cell? ⟨w.heap.size, 5, none⟩ = some (.int .i64 x5) := by simp [go_sem]
      have u6 : (w.alloc (Obj.cells #[Value.int .i64 x0, Value.int .i64 x1, Value.int .i64 x2, Value.slice (some ⟨b, off, none⟩) n3 c3, Value.int .i64 (k : Int), Value.int .i64 x5, Value.int .i64 x6, Value.int .i64 x7, Value.int .i64 x8, Value.slice a9 n9 c9] 40)).cell? ⟨w.heap.size, 6, none⟩ = some (.int .i64 x6) := by simp [go_sem]
      have u7 : (w.alloc (Obj.cells #[Value.int .i64 x0, Value.int .i64 x1, Value.int .i64 x2, Value.slice (some ⟨b, off, none⟩) n3 c3, Value.int .i64 (k : Int), Value.int .i64 x5, Value.int .i64 x6, Value.int .i64 x7, Value.int .i64 x8, Value.slice a9 n9 c9] 40)).cell? ⟨w.heap.size, 7, none⟩ = some (.int .i64 x7) := by simp [go_sem]
      have u8 : (w.alloc (Obj.cells #[Value.int .i64 x0, Value.int .i64 x1, Value.int .i64 x2, Value.slice (some ⟨b, off, none⟩) n3 c3, Value.int .i64 (k : Int), Value.int .i64 x5, Value.int .i64 x6, Value.int .i64 x7, Value.int .i64 x8, Value.slice a9 n9 c9] 40)).cell? ⟨w.heap.size, 8, none⟩ = some (.int .i64 x8) := by simp [go_sem]
      have u9 : (w.alloc (Obj.cells #[Value.int .i64 x0, Value.int .i64 x1, Value.int .i64 x2, Value.slice (some ⟨b, off, none⟩) n3 c3, Value.int .i64 (k : Int), Value.int .i64 x5, Value.int .i64 x6, Value.int .i64 x7, Value.int .i64 x8, Value.slice a9 n9 c9] 40)).cell? ⟨w.heap.size, 9, none⟩ = some (.slice a9 n9 c9) := by simp [go_sem]
      have hnh : nh ≤ 1048576 := by have HS := szPathPart_at z3 hk; unfold sePathPart at HS; rw [← hx.out, r3.1] at HS; omega
      have i4 : (nh : Int) ≤ 1048576 := by omega
      have i1 : (0 : Int) ≤ (k : Int) := by omega
      have i2 : (k : Int) < (n3 : Int) := by omega
      replace d0 := M0.cellAt d0
      replace d1 := M0.cellAt d1
      replace d2 := M0.cellAt d2
      replace d3 := M0.cellAt d3
      go_enter Try.func31, Try.ntmps31
      go_wp2_with fail
      have MM := M0
      refine (implCurAS x0 x1 x2 (k : Int) x5 x6 x7 x8 (some ⟨b, off, none⟩) n3 c3 z3 a9 n9 c9 B _ (h3.mk MM hB (.inr (Nat.le_refl _))) (Nat.le_trans hB MM.size) hn3).mono ?_
      rintro e w1 ⟨he, m1⟩
      replace u3 := m1.cellAt u3
      replace u4 := m1.cellAt u4
      replace u5 := m1.cellAt u5
      have M1 := M0.trans m1
      rw [curAS_none HH.out] at he
      subst he
      go_wp2_with fail
      go_ret
      exact ⟨retB (curVal_neg (by rw [curAS_none HH.out]; decide)).symm, M1⟩
  · have HH := Lib.hid (show pkHop z3 n3 x4 x5 = none from pkHop_noA hA)
    have M0 := Mk.alloc w (Obj.cells #[Value.int .i64 x0, Value.int .i64 x1, Value.int .i64 x2, Value.slice a3 n3 c3, Value.int .i64 x4, Value.int .i64 x5, Value.int .i64 x6, Value.int .i64 x7, Value.int .i64 x8, Value.slice a9 n9 c9] 40)
    have hn : n3 ≤ 1048576 := Nat.le_trans (szPathPart_n z3 n3) hn3
    have i3 : (n3 : Int) ≤ 1048576 := by omega
    have u0 : (w.alloc (Obj.cells #[Value.int .i64 x0, Value.int .i64 x1, Value.int .i64 x2, Value.slice a3 n3 c3, Value.int .i64 x4, Value.int .i64 x5, Value.int .i64 x6, Value.int .i64 x7, Value.int .i64 x8, Value.slice a9 n9 c9] 40)).cell? ⟨w.heap.size, 0, none⟩ = some (.int .i64 x0) := by simp [go_sem]
    have u1 : (w.alloc (Obj.cells #[Value.int .i64 x0, Value.int .i64 x1, Value.int .i64 x2, Value.slice a3 n3 c3, Value.int .i64 x4, Value.int .i64 x5, Value.int .i64 x6, Value.int .i64 x7, Value.int .i64 x8, Value.slice a9 n9 c9] 40)).cell? ⟨w.heap.size, 1, none⟩ = some (.int .i64 x1) := by simp [go_sem]
    have u2 : (w.alloc (Obj.cells #[Value.int .i64 x0, Value.int .i64 x1, Value.int .i64 x2, Value.slice a3 n3 c3, Value.int .i64 x4, Value.int .i64 x5, Value.int .i64 x6, Value.int .i64 x7, Value.int .i64 x8, Value.slice a9 n9 c9] 40)).cell? ⟨w.heap.size, 2, none⟩ = some (.int .i64 x2) := by simp [go_sem]
    have u3 : (w.alloc (Obj.cells #[Value.int .i64 x0, Value.int .i64 x1, Value.int .i64 x2, Value.slice a3 n3 c3, Value.int .i64 x4, Value.int .i64 x5, Value.int .i64 x6, Value.int .i64 x7, Value.int .i64 x8, Value.slice a9 n9 c9] 40)).cell? ⟨w.heap.size, 3, none⟩ = some (.slice a3 n3 c3) := by simp [go_sem]
    have u4 : (w.alloc (Obj.cells #[Value.int .i64 x0, Value.int .i64 x1, Value.int .i64 x2, Value.slice a3 n3 c3, Value.int .i64 x4, Value.int .i64 x5, Value.int .i64 x6, Value.int .i64 x7, Value.int .i64 x8, Value.slice a9 n9 c9] 40)).cell? ⟨w.heap.size, 4, none⟩ = some (.int .i64 x4) := by simp [go_sem]
    have u5 : (w.alloc (Obj.cells #[Value.int .i64 x0, Value.int .i64 x1, Value.int .i64 x2, Value.slice a3 n3 c3, Value.int .i64 x4, Value.int .i64 x5, Value.int .i64 x6, Value.int .i64 x7, Value.int .i64 x8, Value.slice a9 n9 c9] 40)).cell? ⟨w.heap.size, 5, none⟩ = some (.int .i64 x5) := by simp [go_sem]
    have u6 : (w.alloc (Obj.cells #[Value.int .i64 x0, Value.int .i64 x1, Value.int .i64 x2, Value.slice a3 n3 c3, Value.int .i64 x4, Value.int .i64 x5, Value.int .i64 x6, Value.int .i64 x7, Value.int .i64 x8, Value.slice a9 n9 c9] 40)).cell? ⟨w.heap.size, 6, none⟩ = some (.int .i64 x6) := by simp [go_sem]
    have u7 : (w.alloc (Obj.cells #[Value.int .i64 x0, Value.int .i64 x1, Value.int .i64 x2, Value.slice a3 n3 c3, Value.int .i64 x4, Value.int .i64 x5, Value.int .i64 x6, Value.int .i64 x7, Value.int .i64 x8, Value.slice a9 n9 c9] 40)).cell? ⟨w.heap.size, 7, none⟩ = some (.int .i64 x7) := by simp [go_sem]
    have u8 : (w.alloc (Obj.cells #[Value.int .i64 x0, Value.int .i64 x1, Value.int .i64 x2, Value.slice a3 n3 c3, Value.int .i64 x4, Value.int .i64 x5, Value.int .i64 x6, Value.int .i64 x7, Value.int .i64 x8, Value.slice a9 n9 c9] 40)).cell? ⟨w.heap.size, 8, none⟩ = some (.int .i64 x8) := by simp [go_sem]
    have u9 : (w.alloc (Obj.cells #[Value.int .i64 x0, Value.int .i64 x1, Value.int .i64 x2, Value.slice a3 n3 c3, Value.int .i64 x4, Value.int .i64 x5, Value.int .i64 x6, Value.int .i64 x7, Value.int .i64 x8, Value.slice a9 n9 c9] 40)).cell? ⟨w.heap.size, 9, none⟩ = some (.slice a9 n9 c9) := by simp [go_sem]
    go_enter Try.func31, Try.ntmps31
    go_wp2_with fail
    have MM := M0
    refine (implCurAS x0 x1 x2 x4 x5 x6 x7 x8 a3 n3 c3 z3 a9 n9 c9 B _ (h3.mk MM hB (.inr (Nat.le_refl _))) (Nat.le_trans hB MM.size) hn3).mono ?_
    rintro e w1 ⟨he, m1⟩
    replace u3 := m1.cellAt u3
    replace u4 := m1.cellAt u4
    replace u5 := m1.cellAt u5
    have M1 := M0.trans m1
    rw [curAS_none HH.out] at he
    subst he
    go_wp2_with fail
    go_ret
    exact ⟨retB (curVal_neg (by rw [curAS_none HH.out]; decide)).symm, M1⟩

set_option maxRecDepth 100000 in
set_option maxHeartbeats 4000000 in
theorem specCurVal (x0 x1 x2 x4 x5 x6 x7 x8 : Int) (a3 : Option Addr) (n3 c3 : Nat) (z3 : List TPathPart) (a9 : Option Addr) (n9 c9 B : Nat) (w : World) (h3 : HasPathPart w B a3 n3 z3) (hB : B ≤ w.heap.size) (hn3 : szPathPart z3 n3 ≤ 1048576) (now : Int) :
    Calls Try.prog 30 #[.agg #[.int .i64 x0, .int .i64 x1, .int .i64 x2, .slice a3 n3 c3, .int .i64 x4, .int .i64 x5, .int .i64 x6, .int .i64 x7, .int .i64 x8, .slice a9 n9 c9], .int .i64 now] w fun e w' => e = .returned (.bool (curValB z3 n3 x4 x5 now)) ∧ Mk0 w w' := by
  by_cases hA : 0 ≤ x4 ∧ x4 < (n3 : Int)
  · obtain ⟨k, rfl⟩ := Int.eq_ofNat_of_zero_le hA.1
    have hk : k < n3 := by have := hA.2; omega
    clear hA
    obtain ⟨b, off, x, rfl, hb, hx, ah, nh, ch, d0, d1, d2, d3, r3, m3, t3, z3'⟩ := HasPathPart.at _ _ _ _ _ _ h3 hk
    by_cases hB' : 0 ≤ x5 ∧ x5 < (nh : Int)
    · obtain ⟨j, rfl⟩ := Int.eq_ofNat_of_zero_le hB'.1
      have hj : j < nh := by have := hB'.2; omega
      clear hB'
      obtain ⟨bh, offh, q, rfl, hbh, hq, e0, e1, e2, e3, e4⟩ := HasHop.at _ _ _ _ _ _ r3 hj
      have HH := Lib.hid (show pkHop z3 n3 (k : Int) (j : Int) = some q by rw [pkHop_yes hk (by rw [← hx.out]; exact r3.1) hj, ← hx.out, ← hq.out])
      have M0 := Mk.alloc w (Obj.cells #[Value.int .i64 x0, Value.int .i64 x1, Value.int .i64 x2, Value.slice (some ⟨b, off, none⟩) n3 c3, Value.int .i64 (k : Int), Value.int .i64 (j : Int), Value.int .i64 x6, Value.int .i64 x7, Value.int .i64 x8, Value.slice a9 n9 c9] 40)
      have hn : n3 ≤ 1048576 := Nat.le_trans (szPathPart_n z3 n3) hn3
      have i3 : (n3 : Int) ≤ 1048576 := by omega
      have u0 : (w.alloc (Obj.cells #[Value.int .i64 x0, Value.int .i64 x1, Value.int .i64 x2, Value.slice (some ⟨b, off, none⟩) n3 c3, Value.int .i64 (k : Int), Value.int .i64 (j : Int), Value.int .i64 x6, Value.int .i64 x7, Value.int .i64 x8, Value.slice a9 n9 c9] 40)).cell? ⟨w.heap.size, 0, none⟩ = some (.int .i64 x0) := by simp [go_sem]
      have u1 : (w.alloc (Obj.cells #[Value.int .i64 x0, Value.int .i64 x1, Value.int .i64 x2, Value.slice (some ⟨b, off, none⟩) n3 c3, Value.int .i64 (k : Int), Value.int .i64 (j : Int), Value.int .i64 x6, Value.int .i64 x7, Value.int .i64 x8, Value.slice a9 n9 c9] 40)).cell? ⟨w.heap.size, 1, none⟩ = some (.int .i64 x1) := by simp [go_sem]
      have u2 : (w.alloc (Obj.cells #[Value.int .i64 x0, Value.int .i64 x1, Value.int .i64 x2, Value.slice (some ⟨b, off, none⟩) n3 c3, Value.int .i64 (k : Int), Value.int .i64 (j : Int), Value.int .i64 x6, Value.int .i64 x7, Value.int .i64 x8, Value.slice a9 n9 c9] 40)).cell? ⟨w.heap.size, 2, none⟩ = some (.int .i64 x2) := by simp [go_sem]
      have u3 : (w.alloc (Obj.cells #[Value.int .i64 x0, Value.int .i64 x1, Value.int .i64 x2, Value.slice (some ⟨b, off, none⟩) n3 c3, Value.int .i64 (k : Int), Value.int .i64 (j : Int), Value.int .i64 x6, Value.int .i64 x7, Value.int .i64 x8, Value.slice a9 n9 c9] 40)).cell? ⟨w.heap.size, 3, none⟩ = some (.slice (some ⟨b, off, none⟩) n3 c3) := by simp [go_sem]
      have u4 : (w.alloc (Obj.cells #[Value.int .i64 x0, Value.int .i64 x1, Value.int .i64 x2, Value.slice (some ⟨b, off, none⟩) n3 c3, Value.int .i64 (k : Int), Value.int .i64 (j : Int), Value.int .i64 x6, Value.int .i64 x7, Value.int .i64 x8, Value.slice a9 n9 c9] 40)).cell? ⟨w.heap.size, 4, none⟩ = some (.int .i64 (k : Int)) := by simp [go_sem]
      have u5 : (w.alloc (Obj.cells #[Value.int .i64 x0, Value.int .i64 x1, Value.int .i64 x2, Value.slice (some ⟨b, off, none⟩) n3 c3, Value.int .i64 (k : Int), Value.int .i64 (j : Int), Value.int .i64 x6, Value.int .i64 x7, Value.int .i64 x8, Value.slice a9 n9 c9] 40)).cell? ⟨w.heap.size, 5, none⟩ = some (.int .i64 (j : Int)) := by simp [go_sem]
      have u6 : (w.alloc (Obj.cells #[Value.int .i64 x0, Value.int .i64 x1, Value.int .i64 x2, Value.slice (some ⟨b, off, none⟩) n3 c3, Value.int .i64 (k : Int), Value.int .i64 (j : Int), Value.int .i64 x6, Value.int .i64 x7, Value.int .i64 x8, Value.slice a9 n9 c9] 40)).cell? ⟨w.heap.size, 6, none⟩ = some (.int .i64 x6) := by simp [go_sem]
      have u7 : (w.alloc (Obj.cells #[Value.int .i64 x0, Value.int .i64 x1, Value.int .i64 x2, Value.slice (some ⟨b, off, none⟩) n3 c3, Value.int .i64 (k : Int), Value.int .i64 (j : Int), Value.int .i64 x6, Value.int .i64 x7, Value.int .i64 x8, Value.slice a9 n9 c9] 40)).cell? ⟨w.heap.size, 7, none⟩ = some (.int .i64 x7) := by simp [go_sem]
      have u8 : (w.alloc (Obj.cells #[Value.int .i64 x0, Value.int .i64 x1, Value.int .i64 x2, Value.slice (some ⟨b, off, none⟩) n3 c3, Value.int .i64 (k : Int), Value.int .i64 (j : Int), Value.int .i64 x6, Value.int .i64 x7, Value.int .i64 x8, Value.slice a9 n9 c9] 40)).cell? ⟨w.heap.size, 8, none⟩ = some (.int .i64 x8) := by simp [go_sem]
      have u9 : (w.alloc (Obj.cells #[Value.int .i64 x0, Value.int .i64 x1, Value.int .i64 x2, Value.slice (some ⟨b, off, none⟩) n3 c3, Value.int .i64 (k : Int), Value.int .i64 (j : Int), Value.int .i64 x6, Value.int .i64 x7, Value.int .i64 x8, Value.slice a9 n9 c9] 40)).cell? ⟨w.heap.size, 9, none⟩ = some (.slice a9 n9 c9) := by simp [go_sem]
      have hnh : nh ≤ 1048576 := by have HS := szPathPart_at z3 hk; unfold sePathPart at HS; rw [← hx.out, r3.1] at HS; omega
      have i4 : (nh : Int) ≤ 1048576 := by omega
      have i1 : (0 : Int) ≤ (k : Int) := by omega
      have i2 : (k : Int) < (n3 : Int) := by omega
      replace d0 := M0.cellAt d0
      replace d1 := M0.cellAt d1
      replace d2 := M0.cellAt d2
      replace d3 := M0.cellAt d3
      have j1 : (0 : Int) ≤ (j : Int) := by omega
      have j2 : (j : Int) < (nh : Int) := by omega
      replace e0 := M0.cellAt e0
      replace e1 := M0.cellAt e1
      replace e2 := M0.cellAt e2
      replace e3 := M0.cellAt e3
      replace e4 := M0.cellAt e4
      go_enter Try.func30, Try.ntmps30
      go_wp2_with fail
      have MM := M0
      refine (specCurAS x0 x1 x2 (k : Int) (j : Int) x6 x7 x8 (some ⟨b, off, none⟩) n3 c3 z3 a9 n9 c9 B _ (h3.mk MM hB (.inr (Nat.le_refl _))) (Nat.le_trans hB MM.size) hn3).mono ?_
      rintro e w1 ⟨he, m1⟩
      replace u3 := m1.cellAt u3
      replace u4 := m1.cellAt u4
      replace u5 := m1.cellAt u5
      replace d0 := m1.cellAt d0
      replace d1 := m1.cellAt d1
      replace d2 := m1.cellAt d2
      replace d3 := m1.cellAt d3
      replace e0 := m1.cellAt e0
      replace e1 := m1.cellAt e1
      replace e2 := m1.cellAt e2
      replace e3 := m1.cellAt e3
      replace e4 := m1.cellAt e4
      have M1 := M0.trans m1
      rw [curAS_some HH.out] at he
      subst he
      have HV := Lib.hid (show curValB z3 n3 (k : Int) (j : Int) now = (decide (0 ≤ q.nd) && (decide (x.ts ≤ now) && decide (now ≤ q.exp))) by unfold curValB; rw [curAS_some HH.out, HH.out]; show (_ && (decide ((z3.getD k default).ts ≤ now) && _)) = _; rw [← hx.out])
      by_cases hg : 0 ≤ q.nd
      · have HG := Lib.hid (show decide (0 ≤ q.nd) = true from decide_eq_true hg)
        have y1 : w.heap.size < w1.heap.size := by have := m1.size; rw [World.size_alloc] at this; omega
        have yb := World.block_lt_of_cell? _ _ e0
        simp only at yb
        by_cases ht : x.ts ≤ now
        · have HT := Lib.hid (show decide (x.ts ≤ now) = true from decide_eq_true ht)
          have ht2 : decide (x.ts ≤ now) = true := decide_eq_true ht
          go_wp2_with fail
          refine (specHopAt ⟨q.nd, q.ing, q.eg, q.exp, q.mac⟩ now _).mono ?_
          rintro e w4 ⟨rfl, m4⟩
          go_wp2_with fail
          go_ret
          exact ⟨retB (by rw [HV.out, HG.out, HT.out]; rfl), (M1.new _).trans m4⟩
        · have HT := Lib.hid (show decide (x.ts ≤ now) = false from decide_eq_false ht)
          have ht2 : decide (x.ts ≤ now) = false := decide_eq_false ht
          replace ht : now < x.ts := by omega
          go_wp2_with fail
          go_ret
          exact ⟨retB (by rw [HV.out, HG.out, HT.out]; rfl), M1.new _⟩
      · have HG := Lib.hid (show decide (0 ≤ q.nd) = false from decide_eq_false hg)
        replace hg : q.nd < 0 := by omega
        go_wp2_with fail
        go_ret
        exact ⟨retB (by rw [HV.out, HG.out]; rfl), M1⟩
    · have HH := Lib.hid (show pkHop z3 n3 (k : Int) x5 = none from pkHop_noB hk (by rw [← hx.out]; exact r3.1) hB')
      have M0 := Mk.alloc w (Obj.cells #[Value.int .i64 x0, Value.int .i64 x1, Value.int .i64 x2, Value.slice (some ⟨b, off, none⟩) n3 c3, Value.int .i64 (k : Int), Value.int .i64 x5, Value.int .i64 x6, Value.int .i64 x7, Value.int .i64 x8, Value.slice a9 n9 c9] 40)
      have hn : n3 ≤ 1048576 := Nat.le_trans (szPathPart_n z3 n3) hn3
      have i3 : (n3 : Int) ≤ 1048576 := by omega
      have u0 : (w.alloc (Obj.cells #[Value.int .i64 x0, Value.int .i64 x1, Value.int .i64 x2, Value.slice (some ⟨b, off, none⟩) n3 c3, Value.int .i64 (k : Int), Value.int .i64 x5, Value.int .i64 x6, Value.int .i64 x7, Value.int .i64 x8, Value.slice a9 n9 c9] 40)).cell? ⟨w.heap.size, 0, none⟩ = some (.int .i64 x0) := by simp [go_sem]
      have u1 : (w.alloc (Obj.cells #[Value.int .i64 x0, Value.int .i64 x1, Value.int .i64 x2, Value.slice (some ⟨b, off, none⟩) n3 c3, Value.int .i64 (k : Int), Value.int .i64 x5, Value.int .i64 x6, Value.int .i64 x7, Value.int .i64 x8, Value.slice a9 n9 c9] 40)).cell? ⟨w.heap.size, 1, none⟩ = some (.int .i64 x1) := by simp [go_sem]
      have u2 : (w.alloc (Obj.cells #[Value.int .i64 x0, Value.int .i64 x1, Value.int .i64 x2, Value.slice (some ⟨b, off, none⟩) n3 c3, Value.int .i64 (k : Int), Value.int .i64 x5, Value.int .i64 x6, Value.int .i64 x7, Value.int .i64 x8, Value.slice a9 n9 c9] 40)).cell? ⟨w.heap.size, 2, none⟩ = some (.int .i64 x2) := by simp [go_sem]
      have u3 : (w.alloc (Obj.cells #[Value.int .i64 x0, Value.int .i64 x1, Value.int .i64 x2, Value.slice (some ⟨b, off, none⟩) n3 c3, Value.int .i64 (k : Int), Value.int .i64 x5, Value.int .i64 x6, Value.int .i64 x7, Value.int .i64 x8, Value.slice a9 n9 c9] 40)).cell? ⟨w.heap.size, 3, none⟩ = some (.slice (some ⟨b, off, none⟩) n3 c3) := by simp [go_sem]
      have u4 : (w.alloc (Obj.cells #[Value.int .i64 x0, Value.int .i64 x1, Value.int .i64 x2, Value.slice (some ⟨b, off, none⟩) n3 c3, Value.int .i64 (k : Int), Value.int .i64 x5, Value.int .i64 x6, Value.int .i64 x7, Value.int .i64 x8, Value.slice a9 n9 c9] 40)).cell? ⟨w.heap.size, 4, none⟩ = some (.int .i64 (k : Int)) := by simp [go_sem]
      have u5 : (w.alloc (Obj.cells #[Value.int .i64 x0, Value.int .i64 x1, Value.int .i64 x2, Value.slice (some ⟨b, off, none⟩) n3 c3, Value.int .i64 (k : Int), Value.int .i64 x5, Value.int .i64 x6, Value.int .i64 x7, Value.int .i64 x8, Value.slice a9 n9 c9] 40)).cell? ⟨w.heap.size, 5, none⟩ = some (.int .i64 x5) := by simp [go_sem]
      have u6 : (w.alloc (Obj.cells #[Value.int .i64 x0, Value.int .i64 x1, Value.int .i64 x2, Value.slice (some ⟨b, off, none⟩) n3 c3, Value.int .i64 (k : Int), Value.int .i64 x5, Value.int .i64 x6, Value.int .i64 x7, Value.int .i64 x8, Value.slice a9 n9 c9] 40)).cell? ⟨w.heap.size, 6, none⟩ = some (.int .i64 x6) := by simp [go_sem]
      have u7 : (w.alloc (Obj.cells #[Value.int .i64 x0, Value.int .i64 x1, Value.int .i64 x2, Value.slice (some ⟨b, off, none⟩) n3 c3, Value.int .i64 (k : Int), Value.int .i64 x5, Value.int .i64 x6, Value.int .i64 x7, Value.int .i64 x8, Value.slice a9 n9 c9] 40)).cell? ⟨w.heap.size, 7, none⟩ = some (.int .i64 x7) := by simp [go_sem]
      have u8 : (w.alloc (Obj.cells #[Value.int .i64 x0, Value.int .i64 x1, Value.int .i64 x2, Value.slice (some ⟨b, off, none⟩) n3 c3, Value.int .i64 (k : Int), Value.int .i64 x5, Value.int .i64 x6, Value.int .i64 x7, Value.int .i64 x8, Value.slice a9 n9 c9] 40)).cell? ⟨w.heap.size, 8, none⟩ = some (.int .i64 x8) := by simp [go_sem]
      have u9 : (w.alloc (Obj.cells #[Value.int .i64 x0, Value.int .i64 x1, Value.int .i64 x2, Value.slice (some ⟨b, off, none⟩) n3 c3, Value.int .i64 (k : Int), Value.int .i64 x5, Value.int .i64 x6, Value.int .i64 x7, Value.int .i64 x8, Value.slice a9 n9 c9] 40)).cell? ⟨w.heap.size, 9, none⟩ = some (.slice a9 n9 c9) := by simp [go_sem]
      have hnh : nh ≤ 1048576 := by have HS := szPathPart_at z3 hk; unfold sePathPart at HS; rw [← hx.out, r3.1] at HS; omega
      have i4 : (nh : Int) ≤ 1048576 := by omega
      have i1 : (0 : Int) ≤ (k : Int) := by omega
      have i2 : (k : Int) < (n3 : Int) := by omega
      replace d0 := M0.cellAt d0
      replace d1 := M0.cellAt d1
      replace d2 := M0.cellAt d2
      replace d3 := M0.cellAt d3
      go_enter Try.func30, Try.ntmps30
      go_wp2_with fail
      have MM := M0
      refine (specCurAS x0 x1 x2 (k : Int) x5 x6 x7 x8 (some ⟨b, off, none⟩) n3 c3 z3 a9 n9 c9 B _ (h3.mk MM hB (.inr (Nat.le_refl _))) (Nat.le_trans hB MM.size) hn3).mono ?_
      rintro e w1 ⟨he, m1⟩
      replace u3 := m1.cellAt u3
      replace u4 := m1.cellAt u4
      replace u5 := m1.cellAt u5
      have M1 := M0.trans m1
      rw [curAS_none HH.out] at he
      subst he
      go_wp2_with fail
      go_ret
      exact ⟨retB (curVal_neg (by rw [curAS_none HH.out]; decide)).symm, M1⟩
  · have HH := Lib.hid (show pkHop z3 n3 x4 x5 = none from pkHop_noA hA)
    have M0 := Mk.alloc w (Obj.cells #[Value.int .i64 x0, Value.int .i64 x1, Value.int .i64 x2, Value.slice a3 n3 c3, Value.int .i64 x4, Value.int .i64 x5, Value.int .i64 x6, Value.int .i64 x7, Value.int .i64 x8, Value.slice a9 n9 c9] 40)
    have hn : n3 ≤ 1048576 := Nat.le_trans (szPathPart_n z3 n3) hn3
    have i3 : (n3 : Int) ≤ 1048576 := by omega
    have u0 : (w.alloc (Obj.cells #[Value.int .i64 x0, Value.int .i64 x1, Value.int .i64 x2, Value.slice a3 n3 c3, Value.int .i64 x4, Value.int .i64 x5, Value.int .i64 x6, Value.int .i64 x7, Value.int .i64 x8, Value.slice a9 n9 c9] 40)).cell? ⟨w.heap.size, 0, none⟩ = some (.int .i64 x0) := by simp [go_sem]
    have u1 : (w.alloc (Obj.cells #[Value.int .i64 x0, Value.int .i64 x1, Value.int .i64 x2, Value.slice a3 n3 c3, Value.int .i64 x4, Value.int .i64 x5, Value.int .i64 x6, Value.int .i64 x7, Value.int .i64 x8, Value.slice a9 n9 c9] 40)).cell? ⟨w.heap.size, 1, none⟩ = some (.int .i64 x1) := by simp [go_sem]
    have u2 : (w.alloc (Obj.cells #[Value.int .i64 x0, Value.int .i64 x1, Value.int .i64 x2, Value.slice a3 n3 c3, Value.int .i64 x4, Value.int .i64 x5, Value.int .i64 x6, Value.int .i64 x7, Value.int .i64 x8, Value.slice a9 n9 c9] 40)).cell? ⟨w.heap.size, 2, none⟩ = some (.int .i64 x2) := by simp [go_sem]
    have u3 : (w.alloc (Obj.cells #[Value.int .i64 x0, Value.int .i64 x1, Value.int .i64 x2, Value.slice a3 n3 c3, Value.int .i64 x4, Value.int .i64 x5, Value.int .i64 x6, Value.int .i64 x7, Value.int .i64 x8, Value.slice a9 n9 c9] 40)).cell? ⟨w.heap.size, 3, none⟩ = some (.slice a3 n3 c3) := by simp [go_sem]
    have u4 : (w.alloc (Obj.cells #[Value.int .i64 x0, Value.int .i64 x1, Value.int .i64 x2, Value.slice a3 n3 c3, Value.int .i64 x4, Value.int .i64 x5, Value.int .i64 x6, Value.int .i64 x7, Value.int .i64 x8, Value.slice a9 n9 c9] 40)).cell? ⟨w.heap.size, 4, none⟩ = some (.int .i64 x4) := by simp [go_sem]
    have u5 : (w.alloc (Obj.cells #[Value.int .i64 x0, Value.int .i64 x1, Value.int .i64 x2, Value.slice a3 n3 c3, Value.int .i64 x4, Value.int .i64 x5, Value.int .i64 x6, Value.int .i64 x7, Value.int .i64 x8, Value.slice a9 n9 c9] 40)).cell? ⟨w.heap.size, 5, none⟩ = some (.int .i64 x5) := by simp [go_sem]
    have u6 : (w.alloc (Obj.cells #[Value.int .i64 x0, Value.int .i64 x1, Value.int .i64 x2, Value.slice a3 n3 c3, Value.int .i64 x4, Value.int .i64 x5, Value.int .i64 x6, Value.int .i64 x7, Value.int .i64 x8, Value.slice a9 n9 c9] 40)).cell? ⟨w.heap.size, 6, none⟩ = some (.int .i64 x6) := by simp [go_sem]
    have u7 : (w.alloc (Obj.cells #[Value.int .i64 x0, Value.int .i64 x1, Value.int .i64 x2, Value.slice a3 n3 c3, Value.int .i64 x4, Value.int .i64 x5, Value.int .i64 x6, Value.int .i64 x7, Value.int .i64 x8, Value.slice a9 n9 c9] 40)).cell? ⟨w.heap.size, 7, none⟩ = some (.int .i64 x7) := by simp [go_sem]
    have u8 : (w.alloc (Obj.cells #[Value.int .i64 x0, Value.int .i64 x1, Value.int .i64 x2, Value.slice a3 n3 c3, Value.int .i64 x4, Value.int .i64 x5, Value.int .i64 x6, Value.int .i64 x7, Value.int .i64 x8, Value.slice a9 n9 c9] 40)).cell? ⟨w.heap.size, 8, none⟩ = some (.int .i64 x8) := by simp [go_sem]
    have u9 : (w.alloc (Obj.cells #[Value.int .i64 x0, Value.int .i64 x1, Value.int .i64 x2, Value.slice a3 n3 c3, Value.int .i64 x4, Value.int .i64 x5, Value.int .i64 x6, Value.int .i64 x7, Value.int .i64 x8, Value.slice a9 n9 c9] 40)).cell? ⟨w.heap.size, 9, none⟩ = some (.slice a9 n9 c9) := by simp [go_sem]
    go_enter Try.func30, Try.ntmps30
    go_wp2_with fail
    have MM := M0
    refine (specCurAS x0 x1 x2 x4 x5 x6 x7 x8 a3 n3 c3 z3 a9 n9 c9 B _ (h3.mk MM hB (.inr (Nat.le_refl _))) (Nat.le_trans hB MM.size) hn3).mono ?_
    rintro e w1 ⟨he, m1⟩
    replace u3 := m1.cellAt u3
    replace u4 := m1.cellAt u4
    replace u5 := m1.cellAt u5
    have M1 := M0.trans m1
    rw [curAS_none HH.out] at he
    subst he
    go_wp2_with fail
    go_ret
    exact ⟨retB (curVal_neg (by rw [curAS_none HH.out]; decide)).symm, M1⟩

end Go.Proofs.Ytbjfcjjfhnjaiaa
