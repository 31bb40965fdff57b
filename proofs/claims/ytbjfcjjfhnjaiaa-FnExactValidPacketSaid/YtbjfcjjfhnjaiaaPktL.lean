
/- AtLastHop, CurrentHopValid of both sides. -/
import Derived.Test.YtbjfcjjfhnjaiaaPkt
namespace Go.Proofs.Ytbjfcjjfhnjaiaa
open Go.ChangeShapes Go.WideShapes Go.ChangeAt Go.RowKit
set_option linter.unusedVariables false
def pkLen (ps : List TPathPart) (pi : Int) : Int := ((ps.getD pi.toNat default).hops.length : Int)
def atLastB (ps : List TPathPart) (n : Nat) (pi hi : Int) : Bool := decide (0 ≤ curAS ps n pi hi) && (pi == (n : Int) - 1) && (hi == pkLen ps pi - 1)
def curValB (ps : List TPathPart) (n : Nat) (pi hi now : Int) : Bool := decide (0 ≤ curAS ps n pi hi) && (decide ((ps.getD pi.toNat default).ts ≤ now) && match pkHop ps n pi hi with | none => false | some q => decide (now ≤ q.exp))
theorem curAS_none {ps : List TPathPart} {n : Nat} {pi hi : Int} (h : pkHop ps n pi hi = none) : curAS ps n pi hi = -1 := by unfold curAS; rw [h]
theorem curAS_some {ps : List TPathPart} {n : Nat} {pi hi : Int} {q : THop} (h : pkHop ps n pi hi = some q) : curAS ps n pi hi = q.nd := by unfold curAS; rw [h]
theorem atLast_neg {ps : List TPathPart} {n : Nat} {pi hi : Int} (h : curAS ps n pi hi < 0) : atLastB ps n pi hi = false := by
  unfold atLastB; rw [decide_eq_false (by omega)]; rfl
theorem curVal_neg {ps : List TPathPart} {n : Nat} {pi hi now : Int} (h : curAS ps n pi hi < 0) : curValB ps n pi hi now = false := by
  unfold curValB; rw [decide_eq_false (by omega)]; rfl
set_option maxRecDepth 100000 in
set_option maxHeartbeats 4000000 in
theorem specHopAt (x : THop) (now : Int) (w : World) : Calls Try.prog 75 #[.agg #[.int .i64 x.nd, .int .i64 x.ing, .int .i64 x.eg, .int .i64 x.exp, .int .i64 x.mac], .int .i64 now] w fun e w' => e = .returned (.bool (decide (now ≤ x.exp))) ∧ Mk0 w w' := by
  go_enter Try.func75, Try.ntmps75
  go_wp2_with fail
  go_ret
  exact ⟨rfl, Mk.alloc _ _⟩

set_option maxRecDepth 100000 in
set_option maxHeartbeats 4000000 in
theorem implHopAt (x : THop) (now : Int) (w : World) : Calls Try.prog 77 #[.agg #[.int .i64 x.nd, .int .i64 x.ing, .int .i64 x.eg, .int .i64 x.exp, .int .i64 x.mac], .int .i64 now] w fun e w' => e = .returned (.bool (decide (now ≤ x.exp))) ∧ Mk0 w w' := by
  go_enter Try.func77, Try.ntmps77
  go_wp2_with fail
  go_ret
  exact ⟨rfl, Mk.alloc _ _⟩

set_option maxRecDepth 100000 in
set_option maxHeartbeats 4000000 in
theorem implAtLast (x0 x1 x2 x4 x5 x6 x7 x8 : Int) (a3 : Option Addr) (n3 c3 : Nat) (z3 : List TPathPart) (a9 : Option Addr) (n9 c9 B : Nat) (w : World) (h3 : HasPathPart w B a3 n3 z3) (hB : B ≤ w.heap.size) (hn3 : szPathPart z3 n3 ≤ 1048576) :
    Calls Try.prog 29 #[.agg #[.int .i64 x0, .int .i64 x1, .int .i64 x2, .slice a3 n3 c3, .int .i64 x4, .int .i64 x5, .int .i64 x6, .int .i64 x7, .int .i64 x8, .slice a9 n9 c9]] w fun e w' => e = .returned (.bool (atLastB z3 n3 x4 x5)) ∧ Mk0 w w' := by
  by_cases hA : 0 ≤ x4 ∧ x4 < (n3 : Int)
  · obtain ⟨k, rfl⟩ := Int.eq_ofNat_of_zero_le hA.1
    have hk : k < n3 := by have := hA.2; omega
    clear hA
    obtain ⟨b, off, x, rfl, hb, hx, ah, nh, ch, d0, d1, d2, d3, r3, m3, t3, z3'⟩ := HasPathPart.at _ _ _ _ _ _ h3 hk
    by_cases hB' : 0 ≤ x5 ∧ x5 < (nh : Int)
    · obtain ⟨j, rfl⟩ := Int.eq_ofNat_of_zero_le hB'.1
      have hj : j < nh := by have := hB'.2; omega
      clear hB'
      obtain ⟨bh, offh, q, rfl, hbh, hq, e0, e1, e2, e3, e4⟩ := HasHop.at _ _ _ _ _ _ r3 hj
      have HH := Lib.hid (show pkHop z3 n3 (k : Int) (j : Int) = some q by rw [pkHop_yes hk (by rw [← hx.out]; exact r3.1) hj, ← hx.out, ← hq.out])
      have M0 := Mk.alloc w (Obj.cells #[Value.int .i64 x0, Value.int .i64 x1, Value.int .i64 x2, Value.slice (some ⟨b, off, none⟩) n3 c3, Value.int .i64 (k : Int), Value.int .i64 (j : Int), Value.int .i64 x6, Value.int .i64 x7, Value.int .i64 x8, Value.slice a9 n9 c9] 40)
      have hn : n3 ≤ 1048576 := Nat.le_trans (szPathPart_n z3 n3) hn3
      have i3 : (n3 : Int) ≤ 1048576 := by omega
      have u0 : (w.alloc (Obj.cells #[Value.int .i64 x0, Value.int .i64 x1, Value.int .i64 x2, Value.slice (some ⟨b, off, none⟩) n3 c3, Value.int .i64 (k : Int), Value.int .i64 (j : Int), Value.int .i64 x6, Value.int .i64 x7, Value.int .i64 x8, Value.slice a9 n9 c9] 40)).cell? ⟨w.heap.size, 0, none⟩ = some (.int .i64 x0) := by simp [go_sem]
      have u1 : (w.alloc (Obj.cells #[Value.int .i64 x0, Value.int .i64 x1, Value.int .i64 x2, Value.slice (some ⟨b, off, none⟩) n3 c3, Value.int .i64 (k : Int), Value.int .i64 (j : Int), Value.int .i64 x6, Value.int .i64 x7, Value.int .i64 x8, Value.slice a9 n9 c9] 40)).cell? ⟨w.heap.size, 1, none⟩ = some (.int .i64 x1) := by simp [go_sem]
      have u2 : (w.alloc (Obj.cells #[Value.int .i64 x0, Value.int .i64 x1, Value.int .i64 x2, Value.slice (some ⟨b, off, none⟩) n3 c3, Value.int .i64 (k : Int), Value.int .i64 (j : Int), Value.int .i64 x6, Value.int .i64 x7, Value.int .i64 x8, Value.slice a9 n9 c9] 40)).cell? ⟨w.heap.size, 2, none⟩ = some (.int .i64 x2) := by simp [go_sem]
      have u3 : (w.alloc (Obj.cells #[Value.int .i64 x0, Value.int .i64 x1, Value.int .i64 x2, Value.slice (some ⟨b, off, none⟩) n3 c3, Value.int .i64 (k : Int), Value.int .i64 (j : Int), Value.int .i64 x6, Value.int .i64 x7, Value.int .i64 x8, Value.slice a9 n9 c9] 40)).cell? ⟨w.heap.size, 3, none⟩ = some (.slice (some ⟨b, off, none⟩) n3 c3) := by simp [go_sem]
      have u4 : (w.alloc (Obj.cells #[Value.int .i64 x0, Value.int .i64 x1, Value.int .i64 x2, Value.slice (some ⟨b, off, none⟩) n3 c3, Value.int .i64 (k : Int), Value.int .i64 (j : Int), Value.int .i64 x6, Value.int .i64 x7, Value.int .i64 x8, Value.slice a9 n9 c9] 40)).cell? ⟨w.heap.size, 4, none⟩ = some (.int .i64 (k : Int)) := by simp [go_sem]
      have u5 : (w.alloc (Obj.cells #[Value.int .i64 x0, Value.int .i64 x1, Value.int .i64 x2, Value.slice (some ⟨b, off, none⟩) n3 c3, Value.int .i64 (k : Int), Value.int .i64 (j : Int), Value.int .i64 x6, Value.int .i64 x7, Value.int .i64 x8, Value.slice a9 n9 c9] 40)).cell? ⟨w.heap.size, 5, none⟩ = some (.int .i64 (j : Int)) := by simp [go_sem]
      have u6 : (w.alloc (Obj.cells #[Value.int .i64 x0, Value.int .i64 x1, Value.int .i64 x2, Value.slice (some ⟨b, off, none⟩) n3 c3, Value.int .i64 (k : Int), Value.int .i64 (j : Int), Value.int .i64 x6, Value.int .i64 x7, Value.int .i64 x8, Value.slice a9 n9 c9] 40)).cell? ⟨w.heap.size, 6, none⟩ = some (.int .i64 x6) := by simp [go_sem]
      have u7 : (w.alloc (Obj.cells #[Value.int .i64 x0, Value.int .i64 x1, Value.int .i64 x2, Value.slice (some ⟨b, off, none⟩) n3 c3, Value.int .i64 (k : Int), Value.int .i64 (j : Int), Value.int .i64 x6, Value.int .i64 x7, Value.int .i64 x8, Value.slice a9 n9 c9] 40)).cell? ⟨w.heap.size, 7, none⟩ = some (.int .i64 x7) := by simp [go_sem]
      have u8 : (w.alloc (Obj.cells #[Value.int .i64 x0, Value.int .i64 x1, Value.int .i64 x2, Value.slice (some ⟨b, off, none⟩) n3 c3, Value.int .i64 (k : Int), Value.int .i64 (j : Int), Value.int .i64 x6, Value.int .i64 x7, Value.int .i64 x8, Value.slice a9 n9 c9] 40)).cell? ⟨w.heap.size, 8, none⟩ = some (.int .i64 x8) := by simp [go_sem]
      have u9 : (w.alloc (Obj.cells #[Value.int .i64 x0, Value.int .i64 x1, Value.int .i64 x2, Value.slice (some ⟨b, off, none⟩) n3 c3, Value.int .i64 (k : Int), Value.int .i64 (j : Int), Value.int .i64 x6, Value.int .i64 x7, Value.int .i64 x8, Value.slice a9 n9 c9] 40)).cell? ⟨w.heap.size, 9, none⟩ = some (.slice a9 n9 c9) := by simp [go_sem]
      have hnh : nh ≤ 1048576 := by have HS := szPathPart_at z3 hk; unfold sePathPart at HS; rw [← hx.out, r3.1] at HS; omega
      have i4 : (nh : Int) ≤ 1048576 := by omega
      have i1 : (0 : Int) ≤ (k : Int) := by omega
      have i2 : (k : Int) < (n3 : Int) := by omega
      replace d0 := M0.cellAt d0
      replace d1 := M0.cellAt d1
      replace d2 := M0.cellAt d2
      replace d3 := M0.cellAt d3
      have j1 : (0 : Int) ≤ (j : Int) := by omega
      have j2 : (j : Int) < (nh : Int) := by omega
      replace e0 := M0.cellAt e0
      replace e1 := M0.cellAt e1
      replace e2 := M0.cellAt e2
      replace e3 := M0.cellAt e3
      replace e4 := M0.cellAt e4
      go_enter Try.func29, Try.ntmps29
      go_wp2_with fail
      have MM := M0
      refine (implCurAS x0 x1 x2 (k : Int) (j : Int) x6 x7 x8 (some ⟨b, off, none⟩) n3 c3 z3 a9 n9 c9 B _ (h3.mk MM hB (.inr (Nat.le_refl _))) (Nat.le_trans hB MM.size) hn3).mono ?_
      rintro e w1 ⟨he, m1⟩
      replace u3 := m1.cellAt u3
      replace u4 := m1.cellAt u4
      replace u5 := m1.cellAt u5
      replace d3 := m1.cellAt d3
      have M1 := M0.trans m1
      rw [curAS_some HH.out] at he
      subst he
      have HV := Lib.hid (show atLastB z3 n3 (k : Int) (j : Int) = (decide (0 ≤ q.nd) && ((k : Int) == (n3 : Int) - 1) && ((j : Int) == (nh : Int) - 1)) by unfold atLastB pkLen; rw [curAS_some HH.out]; show (_ && _ && ((j : Int) == (((z3.getD k default).hops.length : Nat) : Int) - 1)) = _; rw [← hx.out, r3.1])
      by_cases hg : 0 ≤ q.nd
      · have HG := Lib.hid (show decide (0 ≤ q.nd) = true from decide_eq_true hg)
        go_wp2_with fail
        refine (inLast w.heap.size (k : Int) _ n3 c3 _ u3 u4 hn).mono ?_
        rintro e w2 ⟨he, m2⟩
        replace u3 := m2.cellAt u3
        replace u4 := m2.cellAt u4
        replace u5 := m2.cellAt u5
        replace d3 := m2.cellAt d3
        have M2 := M1.trans m2
        cases hl : ((k : Int) == (n3 : Int) - 1)
        · rw [hl] at he
          subst he
          have HL := Lib.hid hl
          clear hl
          go_wp2_with fail
          go_ret
          exact ⟨retB (by rw [HV.out, HL.out, Bool.and_false]; rfl), M2⟩
        · rw [hl] at he
          subst he
          have HL := Lib.hid hl
          clear hl
          go_wp2_with fail
          refine (atEnd w.heap.size k b off n3 c3 (j : Int) _ nh ch _ u3 u4 u5 d3 hn hk hnh).mono ?_
          rintro e w3 ⟨rfl, m3'⟩
          go_wp2_with fail
          go_ret
          exact ⟨retB (by rw [HV.out, HG.out, HL.out]; rfl), M2.trans m3'⟩
      · have hg' : decide (0 ≤ q.nd) = false := decide_eq_false hg
        have HG := Lib.hid hg'
        clear hg'
        replace hg : q.nd < 0 := by omega
        go_wp2_with fail
        go_ret
        exact ⟨retB (by rw [HV.out, HG.out]; rfl), M1⟩
    · have HH := Lib.hid (show pkHop z3 n3 (k : Int) x5 = none from pkHop_noB hk (by rw [← hx.out]; exact r3.1) hB')
      have M0 := Mk.alloc w (Obj.cells #[Value.int .i64 x0, Value.int .i64 x1, Value.int .i64 x2, Value.slice (some ⟨b, off, none⟩) n3 c3, Value.int .i64 (k : Int), Value.int .i64 x5, Value.int .i64 x6, Value.int .i64 x7, Value.int .i64 x8, Value.slice a9 n9 c9] 40)
      have hn : n3 ≤ 1048576 := Nat.le_trans (szPathPart_n z3 n3) hn3
      have i3 : (n3 : Int) ≤ 1048576 := by omega
      have u0 : (w.alloc (Obj.cells #[Value.int .i64 x0, Value.int .i64 x1, Value.int .i64 x2, Value.slice (some ⟨b, off, none⟩) n3 c3, Value.int .i64 (k : Int), Value.int .i64 x5, Value.int .i64 x6, Value.int .i64 x7, Value.int .i64 x8, Value.slice a9 n9 c9] 40)).cell? ⟨w.heap.size, 0, none⟩ = some (.int .i64 x0) := by simp [go_sem]
      have u1 : (w.alloc (Obj.cells #[Value.int .i64 x0, Value.int .i64 x1, Value.int .i64 x2, Value.slice (some ⟨b, off, none⟩) n3 c3, Value.int .i64 (k : Int), Value.int .i64 x5, Value.int .i64 x6, Value.int .i64 x7, Value.int .i64 x8, Value.slice a9 n9 c9] 40)).cell? ⟨w.heap.size, 1, none⟩ = some (.int .i64 x1) := by simp [go_sem]
      have u2 : (w.alloc (Obj.cells #[Value.int .i64 x0, Value.int .i64 x1, Value.int .i64 x2, Value.slice (some ⟨b, off, none⟩) n3 c3, Value.int .i64 (k : Int), Value.int .i64 x5, Value.int .i64 x6, Value.int .i64 x7, Value.int .i64 x8, Value.slice a9 n9 c9] 40)).cell? ⟨w.heap.size, 2, none⟩ = some (.int .i64 x2) := by simp [go_sem]
      have u3 : (w.alloc (Obj.cells #[Value.int .i64 x0, Value.int .i64 x1, Value.int .i64 x2, Value.slice (some ⟨b, off, none⟩) n3 c3, Value.int .i64 (k : Int), Value.int .i64 x5, Value.int .i64 x6, Value.int .i64 x7, Value.int .i64 x8, Value.slice a9 n9 c9] 40)).cell? ⟨w.heap.size, 3, none⟩ = some (.slice (some ⟨b, off, none⟩) n3 c3) := by simp [go_sem]
      have u4 : (w.alloc (Obj.cells #[Value.int .i64 x0, Value.int .i64 x1, Value.int .i64 x2, Value.slice (some ⟨b, off, none⟩) n3 c3, Value.int .i64 (k : Int), Value.int .i64 x5, Value.int .i64 x6, Value.int .i64 x7, Value.int .i64 x8, Value.slice a9 n9 c9] 40)).cell? ⟨w.heap.size, 4, none⟩ = some (.int .i64 (k : Int)) := by simp [go_sem]
      have u5 : (w.alloc (Obj.cells #[Value.int .i64 x0, Value.int .i64 x1, Value.int .i64 x2, Value.slice (some ⟨b, off, none⟩) n3 c3, Value.int .i64 (k : Int), Value.int .i64 x5, Value.int .i64 x6, Value.int .i64 x7, Value.int .i64 x8, Value.slice a9 n9 c9] 40)).cell? ⟨w.heap.size, 5, none⟩ = some (.int .i64 x5) := by simp [go_sem]
      have u6 : (w.alloc (Obj.cells #[Value.int .i64 x0, Value.int .i64 x1, Value.int .i64 x2, Value.slice (some ⟨b, off, none⟩) n3 c3, Value.int .i64 (k : Int), Value.int .i64 x5, Value.int .i64 x6, Value.int .i64 x7, Value.int .i64 x8, Value.slice a9 n9 c9] 40)).cell? ⟨w.heap.size, 6, none⟩ = some (.int .i64 x6) := by simp [go_sem]
      have u7 : (w.alloc (Obj.cells #[Value.int .i64 x0, Value.int .i64 x1, Value.int .i64 x2, Value.slice (some ⟨b, off, none⟩) n3 c3, Value.int .i64 (k : Int), Value.int .i64 x5, Value.int .i64 x6, Value.int .i64 x7, Value.int .i64 x8, Value.slice a9 n9 c9] 40)).cell? ⟨w.heap.size, 7, none⟩ = some (.int .i64 x7) := by simp [go_sem]
      have u8 : (w.alloc (Obj.cells #[Value.int .i64 x0, Value.int .i64 x1, Value.int .i64 x2, Value.slice (some ⟨b, off, none⟩) n3 c3, Value.int .i64 (k : Int), Value.int .i64 x5, Value.int .i64 x6, Value.int .i64 x7, Value.int .i64 x8, Value.slice a9 n9 c9] 40)).cell? ⟨w.heap.size, 8, none⟩ = some (.int .i64 x8) := by simp [go_sem]
      have u9 : (w.alloc (Obj.cells #[Value.int .i64 x0, Value.int .i64 x1, Value.int .i64 x2, Value.slice (some ⟨b, off, none⟩) n3 c3, Value.int .i64 (k : Int), Value.int .i64 x5, Value.int .i64 x6, Value.int .i64 x7, Value.int .i64 x8, Value.slice a9 n9 c9] 40)).cell? ⟨w.heap.size, 9, none⟩ = some (.slice a9 n9 c9) := by simp [go_sem]
      have hnh : nh ≤ 1048576 := by have HS := szPathPart_at z3 hk; unfold sePathPart at HS; rw [← hx.out, r3.1] at HS; omega
      have i4 : (nh : Int) ≤ 1048576 := by omega
      have i1 : (0 : Int) ≤ (k : Int) := by omega
      have i2 : (k : Int) < (n3 : Int) := by omega
      replace d0 := M0.cellAt d0
      replace d1 := M0.cellAt d1
      replace d2 := M0.cellAt d2
      replace d3 := M0.cellAt d3
      go_enter Try.func29, Try.ntmps29
      go_wp2_with fail
      have MM := M0
      refine (implCurAS x0 x1 x2 (k : Int) x5 x6 x7 x8 (some ⟨b, off, none⟩) n3 c3 z3 a9 n9 c9 B _ (h3.mk MM hB (.inr (Nat.le_refl _))) (Nat.le_trans hB MM.size) hn3).mono ?_
      rintro e w1 ⟨he, m1⟩
      replace u3 := m1.cellAt u3
      replace u4 := m1.cellAt u4
      replace u5 := m1.cellAt u5
      replace d3 := m1.cellAt d3
      have M1 := M0.trans m1
      rw [curAS_none HH.out] at he
      subst he
      go_wp2_with fail
      go_ret
      exact ⟨retB (atLast_neg (by rw [curAS_none HH.out]; decide)).symm, M1⟩
  · have HH := Lib.hid (show pkHop z3 n3 x4 x5 = none from pkHop_noA hA)
    have M0 := Mk.alloc w (Obj.cells #[Value.int .i64 x0, Value.int .i64 x1, Value.int .i64 x2, Value.slice a3 n3 c3, Value.int .i64 x4, Value.int .i64 x5, Value.int .i64 x6, Value.int .i64 x7, Value.int .i64 x8, Value.slice a9 n9 c9] 40)
    have hn : n3 ≤ 1048576 := Nat.le_trans (szPathPart_n z3 n3) hn3
    have i3 : (n3 : Int) ≤ 1048576 := by omega
    have u0 : (w.alloc (Obj.cells #[Value.int .i64 x0, Value.int .i64 x1, Value.int .i64 x2, Value.slice a3 n3 c3, Value.int .i64 x4, Value.int .i64 x5, Value.int .i64 x6, Value.int .i64 x7, Value.int .i64 x8, Value.slice a9 n9 c9] 40)).cell? ⟨w.heap.size, 0, none⟩ = some (.int .i64 x0) := by simp [go_sem]
    have u1 : (w.alloc (Obj.cells #[Value.int .i64 x0, Value.int .i64 x1, Value.int .i64 x2, Value.slice a3 n3 c3, Value.int .i64 x4, Value.int .i64 x5, Value.int .i64 x6, Value.int .i64 x7, Value.int .i64 x8, Value.slice a9 n9 c9] 40)).cell? ⟨w.heap.size, 1, none⟩ = some (.int .i64 x1) := by simp [go_sem]
    have u2 : (w.alloc (Obj.cells #[Value.int .i64 x0, Value.int .i64 x1, Value.int .i64 x2, Value.slice a3 n3 c3, Value.int .i64 x4, Value.int .i64 x5, Value.int .i64 x6, Value.int .i64 x7, Value.int .i64 x8, Value.slice a9 n9 c9] 40)).cell? ⟨w.heap.size, 2, none⟩ = some (.int .i64 x2) := by simp [go_sem]
    have u3 : (w.alloc (Obj.cells #[Value.int .i64 x0, Value.int .i64 x1, Value.int .i64 x2, Value.slice a3 n3 c3, Value.int .i64 x4, Value.int .i64 x5, Value.int .i64 x6, Value.int .i64 x7, Value.int .i64 x8, Value.slice a9 n9 c9] 40)).cell? ⟨w.heap.size, 3, none⟩ = some (.slice a3 n3 c3) := by simp [go_sem]
    have u4 : (w.alloc (Obj.cells #[Value.int .i64 x0, Value.int .i64 x1, Value.int .i64 x2, Value.slice a3 n3 c3, Value.int .i64 x4, Value.int .i64 x5, Value.int .i64 x6, Value.int .i64 x7, Value.int .i64 x8, Value.slice a9 n9 c9] 40)).cell? ⟨w.heap.size, 4, none⟩ = some (.int .i64 x4) := by simp [go_sem]
    have u5 : (w.alloc (Obj.cells #[Value.int .i64 x0, Value.int .i64 x1, Value.int .i64 x2, Value.slice a3 n3 c3, Value.int .i64 x4, Value.int .i64 x5, Value.int .i64 x6, Value.int .i64 x7, Value.int .i64 x8, Value.slice a9 n9 c9] 40)).cell? ⟨w.heap.size, 5, none⟩ = some (.int .i64 x5) := by simp [go_sem]
    have u6 : (w.alloc (Obj.cells #[Value.int .i64 x0, Value.int .i64 x1, Value.int .i64 x2, Value.slice a3 n3 c3, Value.int .i64 x4, Value.int .i64 x5, Value.int .i64 x6, Value.int .i64 x7, Value.int .i64 x8, Value.slice a9 n9 c9] 40)).cell? ⟨w.heap.size, 6, none⟩ = some (.int .i64 x6) := by simp [go_sem]
    have u7 : (w.alloc (Obj.cells #[Value.int .i64 x0, Value.int .i64 x1, Value.int .i64 x2, Value.slice a3 n3 c3, Value.int .i64 x4, Value.int .i64 x5, Value.int .i64 x6, Value.int .i64 x7, Value.int .i64 x8, Value.slice a9 n9 c9] 40)).cell? ⟨w.heap.size, 7, none⟩ = some (.int .i64 x7) := by simp [go_sem]
    have u8 : (w.alloc (Obj.cells #[Value.int .i64 x0, Value.int .i64 x1, Value.int .i64 x2, Value.slice a3 n3 c3, Value.int .i64 x4, Value.int .i64 x5, Value.int .i64 x6, Value.int .i64 x7, Value.int .i64 x8, Value.slice a9 n9 c9] 40)).cell? ⟨w.heap.size, 8, none⟩ = some (.int .i64 x8) := by simp [go_sem]
    have u9 : (w.alloc (Obj.cells #[Value.int .i64 x0, Value.int .i64 x1, Value.int .i64 x2, Value.slice a3 n3 c3, Value.int .i64 x4, Value.int .i64 x5, Value.int .i64 x6, Value.int .i64 x7, Value.int .i64 x8, Value.slice a9 n9 c9] 40)).cell? ⟨w.heap.size, 9, none⟩ = some (.slice a9 n9 c9) := by simp [go_sem]
    go_enter Try.func29, Try.ntmps29
    go_wp2_with fail
    have MM := M0
    refine (implCurAS x0 x1 x2 x4 x5 x6 x7 x8 a3 n3 c3 z3 a9 n9 c9 B _ (h3.mk MM hB (.inr (Nat.le_refl _))) (Nat.le_trans hB MM.size) hn3).mono ?_
    rintro e w1 ⟨he, m1⟩
    replace u3 := m1.cellAt u3
    replace u4 := m1.cellAt u4
    replace u5 := m1.cellAt u5
    have M1 := M0.trans m1
    rw [curAS_none HH.out] at he
    subst he
    go_wp2_with fail
    go_ret
    exact ⟨retB (atLast_neg (by rw [curAS_none HH.out]; decide)).symm, M1⟩

set_option maxRecDepth 100000 in
set_option maxHeartbeats 4000000 in
theorem specAtLast (x0 x1 x2 x4 x5 x6 x7 x8 : Int) (a3 : Option Addr) (n3 c3 : Nat) (z3 : List TPathPart) (a9 : Option Addr) (n9 c9 B : Nat) (w : World) (h3 : HasPathPart w B a3 n3 z3) (hB : B ≤ w.heap.size) (hn3 : szPathPart z3 n3 ≤ 1048576) :
    Calls Try.prog 28 #[.agg #[.int .i64 x0, .int .i64 x1, .int .i64 x2, .slice a3 n3 c3, .int .i64 x4, .int .i64 x5, .int .i64 x6, .int .i64 x7, .int .i64 x8, .slice a9 n9 c9]] w fun e w' => e = .returned (.bool (atLastB z3 n3 x4 x5)) ∧ Mk0 w w' := by
  by_cases hA : 0 ≤ x4 ∧ x4 < (n3 : Int)
  · obtain ⟨k, rfl⟩ := Int.eq_ofNat_of_zero_le hA.1
    have hk : k < n3 := by have := hA.2; omega
    clear hA
    obtain ⟨b, off, x, rfl, hb, hx, ah, nh, ch, d0, d1, d2, d3, r3, m3, t3, z3'⟩ := HasPathPart.at _ _ _ _ _ _ h3 hk
    by_cases hB' : 0 ≤ x5 ∧ x5 < (nh : Int)
    · obtain ⟨j, rfl⟩ := Int.eq_ofNat_of_zero_le hB'.1
      have hj : j < nh := by have := hB'.2; omega
      clear hB'
      obtain ⟨bh, offh, q, rfl, hbh, hq, e0, e1, e2, e3, e4⟩ := HasHop.at _ _ _ _ _ _ r3 hj
      have HH := Lib.hid (show pkHop z3 n3 (k : Int) (j : Int) = some q by rw [pkHop_yes hk (by rw [← hx.out]; exact r3.1) hj, ← hx.out, ← hq.out])
      have M0 := Mk.alloc w (Obj.cells #[Value.int .i64 x0, Value.int .i64 x1, Value.int .i64 x2, Value.slice (some ⟨b, off, none⟩) n3 c3, Value.int .i64 (k : Int), Value.int .i64 (j : Int), Value.int .i64 x6, Value.int .i64 x7, Value.int .i64 x8, Value.slice a9 n9 c9] 40)
      have hn : n3 ≤ 1048576 := Nat.le_trans (szPathPart_n z3 n3) hn3
      have i3 : (n3 : Int) ≤ 1048576 := by omega
      have u0 : (w.alloc (Obj.cells #[Value.int .i64 x0, Value.int .i64 x1, Value.int .i64 x2, Value.slice (some ⟨b, off, none⟩) n3 c3, Value.int .i64 (k : Int), Value.int .i64 (j : Int), Value.int .i64 x6, Value.int .i64 x7, Value.int .i64 x8, Value.slice a9 n9 c9] 40)).cell? ⟨w.heap.size, 0, none⟩ = some (.int .i64 x0) := by simp [go_sem]
      have u1 : (w.alloc (Obj.cells #[Value.int .i64 x0, Value.int .i64 x1, Value.int .i64 x2, Value.slice (some ⟨b, off, none⟩) n3 c3, Value.int .i64 (k : Int), Value.int .i64 (j : Int), Value.int .i64 x6, Value.int .i64 x7, Value.int .i64 x8, Value.slice a9 n9 c9] 40)).cell? ⟨w.heap.size, 1, none⟩ = some (.int .i64 x1) := by simp [go_sem]
      have u2 : (w.alloc (Obj.cells #[Value.int .i64 x0, Value.int .i64 x1, Value.int .i64 x2, Value.slice (some ⟨b, off, none⟩) n3 c3, Value.int .i64 (k : Int), Value.int .i64 (j : Int), Value.int .i64 x6, Value.int .i64 x7, Value.int .i64 x8, Value.slice a9 n9 c9] 40)).cell? ⟨w.heap.size, 2, none⟩ = some (.int .i64 x2) := by simp [go_sem]
      have u3 : (w.alloc (Obj.cells #[Value.int .i64 x0, Value.int .i64 x1, Value.int .i64 x2, Value.slice (some ⟨b, off, none⟩) n3 c3, Value.int .i64 (k : Int), Value.int .i64 (j : Int), Value.int .i64 x6, Value.int .i64 x7, Value.int .i64 x8, Value.slice a9 n9 c9] 40)).cell? ⟨w.heap.size, 3, none⟩ = some (.slice (some ⟨b, off, none⟩) n3 c3) := by simp [go_sem]
      have u4 : (w.alloc (Obj.cells #[Value.int .i64 x0, Value.int .i64 x1, Value.int .i64 x2, Value.slice (some ⟨b, off, none⟩) n3 c3, Value.int .i64 (k : Int), Value.int .i64 (j : Int), Value.int .i64 x6, Value.int .i64 x7, Value.int .i64 x8, Value.slice a9 n9 c9] 40)).cell? ⟨w.heap.size, 4, none⟩ = some (.int .i64 (k : Int)) := by simp [go_sem]
      have u5 : (w.alloc (Obj.cells #[Value.int .i64 x0, Value.int .i64 x1, Value.int .i64 x2, Value.slice (some ⟨b, off, none⟩) n3 c3, Value.int .i64 (k : Int), Value.int .i64 (j : Int), Value.int .i64 x6, Value.int .i64 x7, Value.int .i64 x8, Value.slice a9 n9 c9] 40)).cell? ⟨w.heap.size, 5, none⟩ = some (.int .i64 (j : Int)) := by simp [go_sem]
      have u6 : (w.alloc (Obj.cells #[Value.int .i64 x0, Value.int .i64 x1, Value.int .i64 x2, Value.slice (some ⟨b, off, none⟩) n3 c3, Value.int .i64 (k : Int), Value.int .i64 (j : Int), Value.int .i64 x6, Value.int .i64 x7, Value.int .i64 x8, Value.slice a9 n9 c9] 40)).cell? ⟨w.heap.size, 6, none⟩ = some (.int .i64 x6) := by simp [go_sem]
      have u7 : (w.alloc (Obj.cells #[Value.int .i64 x0, Value.int .i64 x1, Value.int .i64 x2, Value.slice (some ⟨b, off, none⟩) n3 c3, Value.int .i64 (k : Int), Value.int .i64 (j : Int), Value.int .i64 x6, Value.int .i64 x7, Value.int .i64 x8, Value.slice a9 n9 c9] 40)).cell? ⟨w.heap.size, 7, none⟩ = some (.int .i64 x7) := by simp [go_sem]
      have u8 : (w.alloc (Obj.cells #[Value.int .i64 x0, Value.int .i64 x1, Value.int .i64 x2, Value.slice (some ⟨b, off, none⟩) n3 c3, Value.int .i64 (k : Int), Value.int .i64 (j : Int), Value.int .i64 x6, Value.int .i64 x7, Value.int .i64 x8, Value.slice a9 n9 c9] 40)).cell? ⟨w.heap.size, 8, none⟩ = some (.int .i64 x8) := by simp [go_sem]
      have u9 : (w.alloc (Obj.cells #[Value.int .i64 x0, Value.int .i64 x1, Value.int .i64 x2, Value.slice (some ⟨b, off, none⟩) n3 c3, Value.int .i64 (k : Int), Value.int .i64 (j : Int), Value.int .i64 x6, Value.int .i64 x7, Value.int .i64 x8, Value.slice a9 n9 c9] 40)).cell? ⟨w.heap.size, 9, none⟩ = some (.slice a9 n9 c9) := by simp [go_sem]
      have hnh : nh ≤ 1048576 := by have HS := szPathPart_at z3 hk; unfold sePathPart at HS; rw [← hx.out, r3.1] at HS; omega
      have i4 : (nh : Int) ≤ 1048576 := by omega
      have i1 : (0 : Int) ≤ (k : Int) := by omega
      have i2 : (k : Int) < (n3 : Int) := by omega
      replace d0 := M0.cellAt d0
      replace d1 := M0.cellAt d1
      replace d2 := M0.cellAt d2
      replace d3 := M0.cellAt d3
      have j1 : (0 : Int) ≤ (j : Int) := by omega
      have j2 : (j : Int) < (nh : Int) := by omega
      replace e0 := M0.cellAt e0
      replace e1 := M0.cellAt e1
      replace e2 := M0.cellAt e2
      replace e3 := M0.cellAt e3
      replace e4 := M0.cellAt e4
      have HC := Lib.hid (curAS_some HH.out)
      have hwr : IntKind.i64.wrap ((n3 : Int) - 1) = (n3 : Int) - 1 := by rw [IntKind.wrap_i64]; omega
      have hwh : IntKind.i64.wrap ((nh : Int) - 1) = (nh : Int) - 1 := by rw [IntKind.wrap_i64]; omega
      have HV := Lib.hid (show atLastB z3 n3 (k : Int) (j : Int) = (decide (0 ≤ q.nd) && ((k : Int) == (n3 : Int) - 1) && ((j : Int) == (nh : Int) - 1)) by unfold atLastB pkLen; rw [curAS_some HH.out]; show (_ && _ && ((j : Int) == (((z3.getD k default).hops.length : Nat) : Int) - 1)) = _; rw [← hx.out, r3.1])
      by_cases hg : 0 ≤ q.nd
      · have HG := Lib.hid (show decide (0 ≤ q.nd) = true from decide_eq_true hg)
        have hg2 : decide (0 ≤ q.nd) = true := decide_eq_true hg
        cases hl : ((k : Int) == (n3 : Int) - 1)
        · have HL := Lib.hid hl
          go_enter Try.func28, Try.ntmps28
          go_wp2_with fail
          refine wp_region_wk (fun w' => Mk0 (w.alloc (Obj.cells #[Value.int .i64 x0, Value.int .i64 x1, Value.int .i64 x2, Value.slice (some ⟨b, off, none⟩) n3 c3, Value.int .i64 (k : Int), Value.int .i64 (j : Int), Value.int .i64 x6, Value.int .i64 x7, Value.int .i64 x8, Value.slice a9 n9 c9] 40)) w' ∧ w'.cell? ⟨w.heap.size, 0, none⟩ = some (.int .i64 x0) ∧ w'.cell? ⟨w.heap.size, 1, none⟩ = some (.int .i64 x1) ∧ w'.cell? ⟨w.heap.size, 2, none⟩ = some (.int .i64 x2) ∧ w'.cell? ⟨w.heap.size, 3, none⟩ = some (.slice (some ⟨b, off, none⟩) n3 c3) ∧ w'.cell? ⟨w.heap.size, 4, none⟩ = some (.int .i64 (k : Int)) ∧ w'.cell? ⟨w.heap.size, 5, none⟩ = some (.int .i64 (j : Int)) ∧ w'.cell? ⟨w.heap.size, 6, none⟩ = some (.int .i64 x6) ∧ w'.cell? ⟨w.heap.size, 7, none⟩ = some (.int .i64 x7) ∧ w'.cell? ⟨w.heap.size, 8, none⟩ = some (.int .i64 x8) ∧ w'.cell? ⟨w.heap.size, 9, none⟩ = some (.slice a9 n9 c9) ∧ w'.cell? ⟨b, off + k * 4 + 3, none⟩ = some (.slice (some ⟨bh, offh, none⟩) nh ch)) (by kernel_rfl) (by kernel_rfl) (⟨Mk.drew1 _, u0, u1, u2, u3, u4, u5, u6, u7, u8, u9, d3⟩) ?_
          change Wk _ _ _ _ 29 0 _
          first | (refine Wk.skip (m := 28) (k := 0) rfl (by rfl) ?_) | (refine Wk.step (m := 28) (k := 0) (v := _) rfl (by rfl) (fun wv hS => by obtain ⟨s0, s1, s2, s3, s4, s5, s6, s7, s8, s9, s10, s11⟩ := hS; go_simp; try with_reducible rfl) ?_)
          try simp only [Act.put, List.getElem_toArray, List.getElem_cons_zero, List.setIfInBounds_toArray, List.set_cons_zero, List.set_cons_succ]
          refine Wk.call (m := 27) (k := 1) (v := .int .i64 (q.nd)) _ _ rfl (by rfl) (fun wv hS => by obtain ⟨s0, s1, s2, s3, s4, s5, s6, s7, s8, s9, s10, s11⟩ := hS; go_simp; first | done | exact ⟨rfl, rfl⟩ | with_reducible rfl) (fun wv hS => ?_) ?_; · obtain ⟨s0, s1, s2, s3, s4, s5, s6, s7, s8, s9, s10, s11⟩ := hS; have MM := M0.trans s0; refine ((specCurAS x0 x1 x2 (k : Int) (j : Int) x6 x7 x8 (some ⟨b, off, none⟩) n3 c3 z3 a9 n9 c9 B _ (h3.mk MM hB (.inr (Nat.le_refl _))) (Nat.le_trans hB MM.size) hn3)).mono ?_; rintro e w' ⟨he, mm⟩; rw [HC.out] at he; subst he; exact ⟨rfl, s0.trans mm, mm.cellAt s1, mm.cellAt s2, mm.cellAt s3, mm.cellAt s4, mm.cellAt s5, mm.cellAt s6, mm.cellAt s7, mm.cellAt s8, mm.cellAt s9, mm.cellAt s10, mm.cellAt s11⟩
          try simp only [Act.put, List.getElem_toArray, List.getElem_cons_succ, List.getElem_cons_zero, List.setIfInBounds_toArray, List.set_cons_zero, List.set_cons_succ]
          first | (refine Wk.skip (m := 26) (k := 2) rfl (by rfl) ?_) | (refine Wk.step (m := 26) (k := 2) (v := _) rfl (by rfl) (fun wv hS => by obtain ⟨s0, s1, s2, s3, s4, s5, s6, s7, s8, s9, s10, s11⟩ := hS; go_simp; try with_reducible rfl) ?_)
          try simp only [Act.put, List.getElem_toArray, List.getElem_cons_succ, List.getElem_cons_zero, List.setIfInBounds_toArray, List.set_cons_zero, List.set_cons_succ]
          first | (refine Wk.skip (m := 25) (k := 3) rfl (by rfl) ?_) | (refine Wk.step (m := 25) (k := 3) (v := _) rfl (by rfl) (fun wv hS => by obtain ⟨s0, s1, s2, s3, s4, s5, s6, s7, s8, s9, s10, s11⟩ := hS; go_simp; try with_reducible rfl) ?_)
          try simp only [Act.put, List.getElem_toArray, List.getElem_cons_succ, List.getElem_cons_zero, List.setIfInBounds_toArray, List.set_cons_zero, List.set_cons_succ]
          first | (refine Wk.skip (m := 24) (k := 4) rfl (by rfl) ?_) | (refine Wk.step (m := 24) (k := 4) (v := _) rfl (by rfl) (fun wv hS => by obtain ⟨s0, s1, s2, s3, s4, s5, s6, s7, s8, s9, s10, s11⟩ := hS; go_simp; try with_reducible rfl) ?_)
          try simp only [Act.put, List.getElem_toArray, List.getElem_cons_succ, List.getElem_cons_zero, List.setIfInBounds_toArray, List.set_cons_zero, List.set_cons_succ]
          first | (refine Wk.skip (m := 23) (k := 5) rfl (by rfl) ?_) | (refine Wk.step (m := 23) (k := 5) (v := _) rfl (by rfl) (fun wv hS => by obtain ⟨s0, s1, s2, s3, s4, s5, s6, s7, s8, s9, s10, s11⟩ := hS; go_simp; try with_reducible rfl) ?_)
          try simp only [Act.put, List.getElem_toArray, List.getElem_cons_succ, List.getElem_cons_zero, List.setIfInBounds_toArray, List.set_cons_zero, List.set_cons_succ]
          first | (refine Wk.skip (m := 22) (k := 6) rfl (by rfl) ?_) | (refine Wk.step (m := 22) (k := 6) (v := _) rfl (by rfl) (fun wv hS => by obtain ⟨s0, s1, s2, s3, s4, s5, s6, s7, s8, s9, s10, s11⟩ := hS; go_simp; try with_reducible rfl) ?_)
          try simp only [Act.put, List.getElem_toArray, List.getElem_cons_succ, List.getElem_cons_zero, List.setIfInBounds_toArray, List.set_cons_zero, List.set_cons_succ]
          first | (refine Wk.skip (m := 21) (k := 7) rfl (by rfl) ?_) | (refine Wk.step (m := 21) (k := 7) (v := _) rfl (by rfl) (fun wv hS => by obtain ⟨s0, s1, s2, s3, s4, s5, s6, s7, s8, s9, s10, s11⟩ := hS; go_simp; try with_reducible rfl) ?_)
          try simp only [Act.put, List.getElem_toArray, List.getElem_cons_succ, List.getElem_cons_zero, List.setIfInBounds_toArray, List.set_cons_zero, List.set_cons_succ]
          first | (refine Wk.skip (m := 20) (k := 8) rfl (by rfl) ?_) | (refine Wk.step (m := 20) (k := 8) (v := _) rfl (by rfl) (fun wv hS => by obtain ⟨s0, s1, s2, s3, s4, s5, s6, s7, s8, s9, s10, s11⟩ := hS; go_simp; try with_reducible rfl) ?_)
          try simp only [Act.put, List.getElem_toArray, List.getElem_cons_succ, List.getElem_cons_zero, List.setIfInBounds_toArray, List.set_cons_zero, List.set_cons_succ]
          first | (refine Wk.skip (m := 19) (k := 9) rfl (by rfl) ?_) | (refine Wk.step (m := 19) (k := 9) (v := _) rfl (by rfl) (fun wv hS => by obtain ⟨s0, s1, s2, s3, s4, s5, s6, s7, s8, s9, s10, s11⟩ := hS; go_simp; try with_reducible rfl) ?_)
          try simp only [Act.put, List.getElem_toArray, List.getElem_cons_succ, List.getElem_cons_zero, List.setIfInBounds_toArray, List.set_cons_zero, List.set_cons_succ]
          first | (refine Wk.skip (m := 18) (k := 10) rfl (by rfl) ?_) | (refine Wk.step (m := 18) (k := 10) (v := _) rfl (by rfl) (fun wv hS => by obtain ⟨s0, s1, s2, s3, s4, s5, s6, s7, s8, s9, s10, s11⟩ := hS; go_simp; try with_reducible rfl) ?_)
          try simp only [Act.put, List.getElem_toArray, List.getElem_cons_succ, List.getElem_cons_zero, List.setIfInBounds_toArray, List.set_cons_zero, List.set_cons_succ]
          first | (refine Wk.skip (m := 17) (k := 11) rfl (by rfl) ?_) | (refine Wk.step (m := 17) (k := 11) (v := _) rfl (by rfl) (fun wv hS => by obtain ⟨s0, s1, s2, s3, s4, s5, s6, s7, s8, s9, s10, s11⟩ := hS; go_simp; try with_reducible rfl) ?_)
          try simp only [Act.put, List.getElem_toArray, List.getElem_cons_succ, List.getElem_cons_zero, List.setIfInBounds_toArray, List.set_cons_zero, List.set_cons_succ]
          first | (refine Wk.skip (m := 16) (k := 12) rfl (by rfl) ?_) | (refine Wk.step (m := 16) (k := 12) (v := _) rfl (by rfl) (fun wv hS => by obtain ⟨s0, s1, s2, s3, s4, s5, s6, s7, s8, s9, s10, s11⟩ := hS; go_simp; try with_reducible rfl) ?_)
          try simp only [Act.put, List.getElem_toArray, List.getElem_cons_succ, List.getElem_cons_zero, List.setIfInBounds_toArray, List.set_cons_zero, List.set_cons_succ]
          first | (refine Wk.skip (m := 15) (k := 13) rfl (by rfl) ?_) | (refine Wk.step (m := 15) (k := 13) (v := _) rfl (by rfl) (fun wv hS => by obtain ⟨s0, s1, s2, s3, s4, s5, s6, s7, s8, s9, s10, s11⟩ := hS; go_simp; try with_reducible rfl) ?_)
          try simp only [Act.put, List.getElem_toArray, List.getElem_cons_succ, List.getElem_cons_zero, List.setIfInBounds_toArray, List.set_cons_zero, List.set_cons_succ]
          first | (refine Wk.skip (m := 14) (k := 14) rfl (by rfl) ?_) | (refine Wk.step (m := 14) (k := 14) (v := _) rfl (by rfl) (fun wv hS => by obtain ⟨s0, s1, s2, s3, s4, s5, s6, s7, s8, s9, s10, s11⟩ := hS; go_simp; try with_reducible rfl) ?_)
          try simp only [Act.put, List.getElem_toArray, List.getElem_cons_succ, List.getElem_cons_zero, List.setIfInBounds_toArray, List.set_cons_zero, List.set_cons_succ]
          first | (refine Wk.skip (m := 13) (k := 15) rfl (by rfl) ?_) | (refine Wk.step (m := 13) (k := 15) (v := _) rfl (by rfl) (fun wv hS => by obtain ⟨s0, s1, s2, s3, s4, s5, s6, s7, s8, s9, s10, s11⟩ := hS; go_simp; try with_reducible rfl) ?_)
          try simp only [Act.put, List.getElem_toArray, List.getElem_cons_succ, List.getElem_cons_zero, List.setIfInBounds_toArray, List.set_cons_zero, List.set_cons_succ]
          first | (refine Wk.skip (m := 12) (k := 16) rfl (by rfl) ?_) | (refine Wk.step (m := 12) (k := 16) (v := _) rfl (by rfl) (fun wv hS => by obtain ⟨s0, s1, s2, s3, s4, s5, s6, s7, s8, s9, s10, s11⟩ := hS; go_simp; try with_reducible rfl) ?_)
          try simp only [Act.put, List.getElem_toArray, List.getElem_cons_succ, List.getElem_cons_zero, List.setIfInBounds_toArray, List.set_cons_zero, List.set_cons_succ]
          first | (refine Wk.skip (m := 11) (k := 17) rfl (by rfl) ?_) | (refine Wk.step (m := 11) (k := 17) (v := _) rfl (by rfl) (fun wv hS => by obtain ⟨s0, s1, s2, s3, s4, s5, s6, s7, s8, s9, s10, s11⟩ := hS; go_simp; try with_reducible rfl) ?_)
          try simp only [Act.put, List.getElem_toArray, List.getElem_cons_succ, List.getElem_cons_zero, List.setIfInBounds_toArray, List.set_cons_zero, List.set_cons_succ]
          first | (refine Wk.skip (m := 10) (k := 18) rfl (by rfl) ?_) | (refine Wk.step (m := 10) (k := 18) (v := _) rfl (by rfl) (fun wv hS => by obtain ⟨s0, s1, s2, s3, s4, s5, s6, s7, s8, s9, s10, s11⟩ := hS; go_simp; try with_reducible rfl) ?_)
          try simp only [Act.put, List.getElem_toArray, List.getElem_cons_succ, List.getElem_cons_zero, List.setIfInBounds_toArray, List.set_cons_zero, List.set_cons_succ]
          first | (refine Wk.skip (m := 9) (k := 19) rfl (by rfl) ?_) | (refine Wk.step (m := 9) (k := 19) (v := _) rfl (by rfl) (fun wv hS => by obtain ⟨s0, s1, s2, s3, s4, s5, s6, s7, s8, s9, s10, s11⟩ := hS; go_simp; try with_reducible rfl) ?_)
          try simp only [Act.put, List.getElem_toArray, List.getElem_cons_succ, List.getElem_cons_zero, List.setIfInBounds_toArray, List.set_cons_zero, List.set_cons_succ]
          first | (refine Wk.skip (m := 8) (k := 20) rfl (by rfl) ?_) | (refine Wk.step (m := 8) (k := 20) (v := _) rfl (by rfl) (fun wv hS => by obtain ⟨s0, s1, s2, s3, s4, s5, s6, s7, s8, s9, s10, s11⟩ := hS; go_simp; try with_reducible rfl) ?_)
          try simp only [Act.put, List.getElem_toArray, List.getElem_cons_succ, List.getElem_cons_zero, List.setIfInBounds_toArray, List.set_cons_zero, List.set_cons_succ]
          first | (refine Wk.skip (m := 7) (k := 21) rfl (by rfl) ?_) | (refine Wk.step (m := 7) (k := 21) (v := _) rfl (by rfl) (fun wv hS => by obtain ⟨s0, s1, s2, s3, s4, s5, s6, s7, s8, s9, s10, s11⟩ := hS; go_simp; try with_reducible rfl) ?_)
          try simp only [Act.put, List.getElem_toArray, List.getElem_cons_succ, List.getElem_cons_zero, List.setIfInBounds_toArray, List.set_cons_zero, List.set_cons_succ]
          first | (refine Wk.skip (m := 6) (k := 22) rfl (by rfl) ?_) | (refine Wk.step (m := 6) (k := 22) (v := _) rfl (by rfl) (fun wv hS => by obtain ⟨s0, s1, s2, s3, s4, s5, s6, s7, s8, s9, s10, s11⟩ := hS; go_simp; try with_reducible rfl) ?_)
          try simp only [Act.put, List.getElem_toArray, List.getElem_cons_succ, List.getElem_cons_zero, List.setIfInBounds_toArray, List.set_cons_zero, List.set_cons_succ]
          first | (refine Wk.skip (m := 5) (k := 23) rfl (by rfl) ?_) | (refine Wk.step (m := 5) (k := 23) (v := _) rfl (by rfl) (fun wv hS => by obtain ⟨s0, s1, s2, s3, s4, s5, s6, s7, s8, s9, s10, s11⟩ := hS; go_simp; try with_reducible rfl) ?_)
          try simp only [Act.put, List.getElem_toArray, List.getElem_cons_succ, List.getElem_cons_zero, List.setIfInBounds_toArray, List.set_cons_zero, List.set_cons_succ]
          first | (refine Wk.skip (m := 4) (k := 24) rfl (by rfl) ?_) | (refine Wk.step (m := 4) (k := 24) (v := _) rfl (by rfl) (fun wv hS => by obtain ⟨s0, s1, s2, s3, s4, s5, s6, s7, s8, s9, s10, s11⟩ := hS; go_simp; try with_reducible rfl) ?_)
          try simp only [Act.put, List.getElem_toArray, List.getElem_cons_succ, List.getElem_cons_zero, List.setIfInBounds_toArray, List.set_cons_zero, List.set_cons_succ]
          first | (refine Wk.skip (m := 3) (k := 25) rfl (by rfl) ?_) | (refine Wk.step (m := 3) (k := 25) (v := _) rfl (by rfl) (fun wv hS => by obtain ⟨s0, s1, s2, s3, s4, s5, s6, s7, s8, s9, s10, s11⟩ := hS; go_simp; try with_reducible rfl) ?_)
          try simp only [Act.put, List.getElem_toArray, List.getElem_cons_succ, List.getElem_cons_zero, List.setIfInBounds_toArray, List.set_cons_zero, List.set_cons_succ]
          first | (refine Wk.skip (m := 2) (k := 26) rfl (by rfl) ?_) | (refine Wk.step (m := 2) (k := 26) (v := _) rfl (by rfl) (fun wv hS => by obtain ⟨s0, s1, s2, s3, s4, s5, s6, s7, s8, s9, s10, s11⟩ := hS; go_simp; try with_reducible rfl) ?_)
          try simp only [Act.put, List.getElem_toArray, List.getElem_cons_succ, List.getElem_cons_zero, List.setIfInBounds_toArray, List.set_cons_zero, List.set_cons_succ]
          first | (refine Wk.skip (m := 1) (k := 27) rfl (by rfl) ?_) | (refine Wk.step (m := 1) (k := 27) (v := _) rfl (by rfl) (fun wv hS => by obtain ⟨s0, s1, s2, s3, s4, s5, s6, s7, s8, s9, s10, s11⟩ := hS; go_simp; try with_reducible rfl) ?_)
          try simp only [Act.put, List.getElem_toArray, List.getElem_cons_succ, List.getElem_cons_zero, List.setIfInBounds_toArray, List.set_cons_zero, List.set_cons_succ]
          first | (refine Wk.skip (m := 0) (k := 28) rfl (by rfl) ?_) | (refine Wk.step (m := 0) (k := 28) (v := _) rfl (by rfl) (fun wv hS => by obtain ⟨s0, s1, s2, s3, s4, s5, s6, s7, s8, s9, s10, s11⟩ := hS; go_simp; try with_reducible rfl) ?_)
          try simp only [Act.put, List.getElem_toArray, List.getElem_cons_succ, List.getElem_cons_zero, List.setIfInBounds_toArray, List.set_cons_zero, List.set_cons_succ]
          refine Wk.done fun wE hE => ?_
          clear u0 u1 u2 u3 u4 u5 u6 u7 u8 u9 d3
          obtain ⟨mE, u0, u1, u2, u3, u4, u5, u6, u7, u8, u9, d3⟩ := hE
          go_wp2_with fail
          go_ret
          exact ⟨retB (by rw [HV.out, HL.out, Bool.and_false]; rfl), M0.trans mE⟩
        · have HL := Lib.hid hl
          go_enter Try.func28, Try.ntmps28
          go_wp2_with fail
          refine wp_region_wk (fun w' => Mk0 (w.alloc (Obj.cells #[Value.int .i64 x0, Value.int .i64 x1, Value.int .i64 x2, Value.slice (some ⟨b, off, none⟩) n3 c3, Value.int .i64 (k : Int), Value.int .i64 (j : Int), Value.int .i64 x6, Value.int .i64 x7, Value.int .i64 x8, Value.slice a9 n9 c9] 40)) w' ∧ w'.cell? ⟨w.heap.size, 0, none⟩ = some (.int .i64 x0) ∧ w'.cell? ⟨w.heap.size, 1, none⟩ = some (.int .i64 x1) ∧ w'.cell? ⟨w.heap.size, 2, none⟩ = some (.int .i64 x2) ∧ w'.cell? ⟨w.heap.size, 3, none⟩ = some (.slice (some ⟨b, off, none⟩) n3 c3) ∧ w'.cell? ⟨w.heap.size, 4, none⟩ = some (.int .i64 (k : Int)) ∧ w'.cell? ⟨w.heap.size, 5, none⟩ = some (.int .i64 (j : Int)) ∧ w'.cell? ⟨w.heap.size, 6, none⟩ = some (.int .i64 x6) ∧ w'.cell? ⟨w.heap.size, 7, none⟩ = some (.int .i64 x7) ∧ w'.cell? ⟨w.heap.size, 8, none⟩ = some (.int .i64 x8) ∧ w'.cell? ⟨w.heap.size, 9, none⟩ = some (.slice a9 n9 c9) ∧ w'.cell? ⟨b, off + k * 4 + 3, none⟩ = some (.slice (some ⟨bh, offh, none⟩) nh ch)) (by kernel_rfl) (by kernel_rfl) (⟨Mk.drew1 _, u0, u1, u2, u3, u4, u5, u6, u7, u8, u9, d3⟩) ?_
          change Wk _ _ _ _ 29 0 _
          first | (refine Wk.skip (m := 28) (k := 0) rfl (by rfl) ?_) | (refine Wk.step (m := 28) (k := 0) (v := _) rfl (by rfl) (fun wv hS => by obtain ⟨s0, s1, s2, s3, s4, s5, s6, s7, s8, s9, s10, s11⟩ := hS; go_simp; try with_reducible rfl) ?_)
          try simp only [Act.put, List.getElem_toArray, List.getElem_cons_zero, List.setIfInBounds_toArray, List.set_cons_zero, List.set_cons_succ]
          refine Wk.call (m := 27) (k := 1) (v := .int .i64 (q.nd)) _ _ rfl (by rfl) (fun wv hS => by obtain ⟨s0, s1, s2, s3, s4, s5, s6, s7, s8, s9, s10, s11⟩ := hS; go_simp; first | done | exact ⟨rfl, rfl⟩ | with_reducible rfl) (fun wv hS => ?_) ?_; · obtain ⟨s0, s1, s2, s3, s4, s5, s6, s7, s8, s9, s10, s11⟩ := hS; have MM := M0.trans s0; refine ((specCurAS x0 x1 x2 (k : Int) (j : Int) x6 x7 x8 (some ⟨b, off, none⟩) n3 c3 z3 a9 n9 c9 B _ (h3.mk MM hB (.inr (Nat.le_refl _))) (Nat.le_trans hB MM.size) hn3)).mono ?_; rintro e w' ⟨he, mm⟩; rw [HC.out] at he; subst he; exact ⟨rfl, s0.trans mm, mm.cellAt s1, mm.cellAt s2, mm.cellAt s3, mm.cellAt s4, mm.cellAt s5, mm.cellAt s6, mm.cellAt s7, mm.cellAt s8, mm.cellAt s9, mm.cellAt s10, mm.cellAt s11⟩
          try simp only [Act.put, List.getElem_toArray, List.getElem_cons_succ, List.getElem_cons_zero, List.setIfInBounds_toArray, List.set_cons_zero, List.set_cons_succ]
          first | (refine Wk.skip (m := 26) (k := 2) rfl (by rfl) ?_) | (refine Wk.step (m := 26) (k := 2) (v := _) rfl (by rfl) (fun wv hS => by obtain ⟨s0, s1, s2, s3, s4, s5, s6, s7, s8, s9, s10, s11⟩ := hS; go_simp; try with_reducible rfl) ?_)
          try simp only [Act.put, List.getElem_toArray, List.getElem_cons_succ, List.getElem_cons_zero, List.setIfInBounds_toArray, List.set_cons_zero, List.set_cons_succ]
          first | (refine Wk.skip (m := 25) (k := 3) rfl (by rfl) ?_) | (refine Wk.step (m := 25) (k := 3) (v := _) rfl (by rfl) (fun wv hS => by obtain ⟨s0, s1, s2, s3, s4, s5, s6, s7, s8, s9, s10, s11⟩ := hS; go_simp; try with_reducible rfl) ?_)
          try simp only [Act.put, List.getElem_toArray, List.getElem_cons_succ, List.getElem_cons_zero, List.setIfInBounds_toArray, List.set_cons_zero, List.set_cons_succ]
          first | (refine Wk.skip (m := 24) (k := 4) rfl (by rfl) ?_) | (refine Wk.step (m := 24) (k := 4) (v := _) rfl (by rfl) (fun wv hS => by obtain ⟨s0, s1, s2, s3, s4, s5, s6, s7, s8, s9, s10, s11⟩ := hS; go_simp; try with_reducible rfl) ?_)
          try simp only [Act.put, List.getElem_toArray, List.getElem_cons_succ, List.getElem_cons_zero, List.setIfInBounds_toArray, List.set_cons_zero, List.set_cons_succ]
          first | (refine Wk.skip (m := 23) (k := 5) rfl (by rfl) ?_) | (refine Wk.step (m := 23) (k := 5) (v := _) rfl (by rfl) (fun wv hS => by obtain ⟨s0, s1, s2, s3, s4, s5, s6, s7, s8, s9, s10, s11⟩ := hS; go_simp; try with_reducible rfl) ?_)
          try simp only [Act.put, List.getElem_toArray, List.getElem_cons_succ, List.getElem_cons_zero, List.setIfInBounds_toArray, List.set_cons_zero, List.set_cons_succ]
          first | (refine Wk.skip (m := 22) (k := 6) rfl (by rfl) ?_) | (refine Wk.step (m := 22) (k := 6) (v := _) rfl (by rfl) (fun wv hS => by obtain ⟨s0, s1, s2, s3, s4, s5, s6, s7, s8, s9, s10, s11⟩ := hS; go_simp; try with_reducible rfl) ?_)
          try simp only [Act.put, List.getElem_toArray, List.getElem_cons_succ, List.getElem_cons_zero, List.setIfInBounds_toArray, List.set_cons_zero, List.set_cons_succ]
          first | (refine Wk.skip (m := 21) (k := 7) rfl (by rfl) ?_) | (refine Wk.step (m := 21) (k := 7) (v := _) rfl (by rfl) (fun wv hS => by obtain ⟨s0, s1, s2, s3, s4, s5, s6, s7, s8, s9, s10, s11⟩ := hS; go_simp; try with_reducible rfl) ?_)
          try simp only [Act.put, List.getElem_toArray, List.getElem_cons_succ, List.getElem_cons_zero, List.setIfInBounds_toArray, List.set_cons_zero, List.set_cons_succ]
          first | (refine Wk.skip (m := 20) (k := 8) rfl (by rfl) ?_) | (refine Wk.step (m := 20) (k := 8) (v := _) rfl (by rfl) (fun wv hS => by obtain ⟨s0, s1, s2, s3, s4, s5, s6, s7, s8, s9, s10, s11⟩ := hS; go_simp; try with_reducible rfl) ?_)
          try simp only [Act.put, List.getElem_toArray, List.getElem_cons_succ, List.getElem_cons_zero, List.setIfInBounds_toArray, List.set_cons_zero, List.set_cons_succ]
          first | (refine Wk.skip (m := 19) (k := 9) rfl (by rfl) ?_) | (refine Wk.step (m := 19) (k := 9) (v := _) rfl (by rfl) (fun wv hS => by obtain ⟨s0, s1, s2, s3, s4, s5, s6, s7, s8, s9, s10, s11⟩ := hS; go_simp; try with_reducible rfl) ?_)
          try simp only [Act.put, List.getElem_toArray, List.getElem_cons_succ, List.getElem_cons_zero, List.setIfInBounds_toArray, List.set_cons_zero, List.set_cons_succ]
          first | (refine Wk.skip (m := 18) (k := 10) rfl (by rfl) ?_) | (refine Wk.step (m := 18) (k := 10) (v := _) rfl (by rfl) (fun wv hS => by obtain ⟨s0, s1, s2, s3, s4, s5, s6, s7, s8, s9, s10, s11⟩ := hS; go_simp; try with_reducible rfl) ?_)
          try simp only [Act.put, List.getElem_toArray, List.getElem_cons_succ, List.getElem_cons_zero, List.setIfInBounds_toArray, List.set_cons_zero, List.set_cons_succ]
          first | (refine Wk.skip (m := 17) (k := 11) rfl (by rfl) ?_) | (refine Wk.step (m := 17) (k := 11) (v := _) rfl (by rfl) (fun wv hS => by obtain ⟨s0, s1, s2, s3, s4, s5, s6, s7, s8, s9, s10, s11⟩ := hS; go_simp; try with_reducible rfl) ?_)
          try simp only [Act.put, List.getElem_toArray, List.getElem_cons_succ, List.getElem_cons_zero, List.setIfInBounds_toArray, List.set_cons_zero, List.set_cons_succ]
          first | (refine Wk.skip (m := 16) (k := 12) rfl (by rfl) ?_) | (refine Wk.step (m := 16) (k := 12) (v := _) rfl (by rfl) (fun wv hS => by obtain ⟨s0, s1, s2, s3, s4, s5, s6, s7, s8, s9, s10, s11⟩ := hS; go_simp; try with_reducible rfl) ?_)
          try simp only [Act.put, List.getElem_toArray, List.getElem_cons_succ, List.getElem_cons_zero, List.setIfInBounds_toArray, List.set_cons_zero, List.set_cons_succ]
          first | (refine Wk.skip (m := 15) (k := 13) rfl (by rfl) ?_) | (refine Wk.step (m := 15) (k := 13) (v := _) rfl (by rfl) (fun wv hS => by obtain ⟨s0, s1, s2, s3, s4, s5, s6, s7, s8, s9, s10, s11⟩ := hS; go_simp; try with_reducible rfl) ?_)
          try simp only [Act.put, List.getElem_toArray, List.getElem_cons_succ, List.getElem_cons_zero, List.setIfInBounds_toArray, List.set_cons_zero, List.set_cons_succ]
          first | (refine Wk.skip (m := 14) (k := 14) rfl (by rfl) ?_) | (refine Wk.step (m := 14) (k := 14) (v := _) rfl (by rfl) (fun wv hS => by obtain ⟨s0, s1, s2, s3, s4, s5, s6, s7, s8, s9, s10, s11⟩ := hS; go_simp; try with_reducible rfl) ?_)
          try simp only [Act.put, List.getElem_toArray, List.getElem_cons_succ, List.getElem_cons_zero, List.setIfInBounds_toArray, List.set_cons_zero, List.set_cons_succ]
          first | (refine Wk.skip (m := 13) (k := 15) rfl (by rfl) ?_) | (refine Wk.step (m := 13) (k := 15) (v := _) rfl (by rfl) (fun wv hS => by obtain ⟨s0, s1, s2, s3, s4, s5, s6, s7, s8, s9, s10, s11⟩ := hS; go_simp; try with_reducible rfl) ?_)
          try simp only [Act.put, List.getElem_toArray, List.getElem_cons_succ, List.getElem_cons_zero, List.setIfInBounds_toArray, List.set_cons_zero, List.set_cons_succ]
          first | (refine Wk.skip (m := 12) (k := 16) rfl (by rfl) ?_) | (refine Wk.step (m := 12) (k := 16) (v := _) rfl (by rfl) (fun wv hS => by obtain ⟨s0, s1, s2, s3, s4, s5, s6, s7, s8, s9, s10, s11⟩ := hS; go_simp; try with_reducible rfl) ?_)
          try simp only [Act.put, List.getElem_toArray, List.getElem_cons_succ, List.getElem_cons_zero, List.setIfInBounds_toArray, List.set_cons_zero, List.set_cons_succ]
          first | (refine Wk.skip (m := 11) (k := 17) rfl (by rfl) ?_) | (refine Wk.step (m := 11) (k := 17) (v := _) rfl (by rfl) (fun wv hS => by obtain ⟨s0, s1, s2, s3, s4, s5, s6, s7, s8, s9, s10, s11⟩ := hS; go_simp; try with_reducible rfl) ?_)
          try simp only [Act.put, List.getElem_toArray, List.getElem_cons_succ, List.getElem_cons_zero, List.setIfInBounds_toArray, List.set_cons_zero, List.set_cons_succ]
          first | (refine Wk.skip (m := 10) (k := 18) rfl (by rfl) ?_) | (refine Wk.step (m := 10) (k := 18) (v := _) rfl (by rfl) (fun wv hS => by obtain ⟨s0, s1, s2, s3, s4, s5, s6, s7, s8, s9, s10, s11⟩ := hS; go_simp; try with_reducible rfl) ?_)
          try simp only [Act.put, List.getElem_toArray, List.getElem_cons_succ, List.getElem_cons_zero, List.setIfInBounds_toArray, List.set_cons_zero, List.set_cons_succ]
          first | (refine Wk.skip (m := 9) (k := 19) rfl (by rfl) ?_) | (refine Wk.step (m := 9) (k := 19) (v := _) rfl (by rfl) (fun wv hS => by obtain ⟨s0, s1, s2, s3, s4, s5, s6, s7, s8, s9, s10, s11⟩ := hS; go_simp; try with_reducible rfl) ?_)
          try simp only [Act.put, List.getElem_toArray, List.getElem_cons_succ, List.getElem_cons_zero, List.setIfInBounds_toArray, List.set_cons_zero, List.set_cons_succ]
          first | (refine Wk.skip (m := 8) (k := 20) rfl (by rfl) ?_) | (refine Wk.step (m := 8) (k := 20) (v := _) rfl (by rfl) (fun wv hS => by obtain ⟨s0, s1, s2, s3, s4, s5, s6, s7, s8, s9, s10, s11⟩ := hS; go_simp; try with_reducible rfl) ?_)
          try simp only [Act.put, List.getElem_toArray, List.getElem_cons_succ, List.getElem_cons_zero, List.setIfInBounds_toArray, List.set_cons_zero, List.set_cons_succ]
          first | (refine Wk.skip (m := 7) (k := 21) rfl (by rfl) ?_) | (refine Wk.step (m := 7) (k := 21) (v := _) rfl (by rfl) (fun wv hS => by obtain ⟨s0, s1, s2, s3, s4, s5, s6, s7, s8, s9, s10, s11⟩ := hS; go_simp; try with_reducible rfl) ?_)
          try simp only [Act.put, List.getElem_toArray, List.getElem_cons_succ, List.getElem_cons_zero, List.setIfInBounds_toArray, List.set_cons_zero, List.set_cons_succ]
          first | (refine Wk.skip (m := 6) (k := 22) rfl (by rfl) ?_) | (refine Wk.step (m := 6) (k := 22) (v := _) rfl (by rfl) (fun wv hS => by obtain ⟨s0, s1, s2, s3, s4, s5, s6, s7, s8, s9, s10, s11⟩ := hS; go_simp; try with_reducible rfl) ?_)
          try simp only [Act.put, List.getElem_toArray, List.getElem_cons_succ, List.getElem_cons_zero, List.setIfInBounds_toArray, List.set_cons_zero, List.set_cons_succ]
          first | (refine Wk.skip (m := 5) (k := 23) rfl (by rfl) ?_) | (refine Wk.step (m := 5) (k := 23) (v := _) rfl (by rfl) (fun wv hS => by obtain ⟨s0, s1, s2, s3, s4, s5, s6, s7, s8, s9, s10, s11⟩ := hS; go_simp; try with_reducible rfl) ?_)
          try simp only [Act.put, List.getElem_toArray, List.getElem_cons_succ, List.getElem_cons_zero, List.setIfInBounds_toArray, List.set_cons_zero, List.set_cons_succ]
          first | (refine Wk.skip (m := 4) (k := 24) rfl (by rfl) ?_) | (refine Wk.step (m := 4) (k := 24) (v := _) rfl (by rfl) (fun wv hS => by obtain ⟨s0, s1, s2, s3, s4, s5, s6, s7, s8, s9, s10, s11⟩ := hS; go_simp; try with_reducible rfl) ?_)
          try simp only [Act.put, List.getElem_toArray, List.getElem_cons_succ, List.getElem_cons_zero, List.setIfInBounds_toArray, List.set_cons_zero, List.set_cons_succ]
          first | (refine Wk.skip (m := 3) (k := 25) rfl (by rfl) ?_) | (refine Wk.step (m := 3) (k := 25) (v := _) rfl (by rfl) (fun wv hS => by obtain ⟨s0, s1, s2, s3, s4, s5, s6, s7, s8, s9, s10, s11⟩ := hS; go_simp; try with_reducible rfl) ?_)
          try simp only [Act.put, List.getElem_toArray, List.getElem_cons_succ, List.getElem_cons_zero, List.setIfInBounds_toArray, List.set_cons_zero, List.set_cons_succ]
          first | (refine Wk.skip (m := 2) (k := 26) rfl (by rfl) ?_) | (refine Wk.step (m := 2) (k := 26) (v := _) rfl (by rfl) (fun wv hS => by obtain ⟨s0, s1, s2, s3, s4, s5, s6, s7, s8, s9, s10, s11⟩ := hS; go_simp; try with_reducible rfl) ?_)
          try simp only [Act.put, List.getElem_toArray, List.getElem_cons_succ, List.getElem_cons_zero, List.setIfInBounds_toArray, List.set_cons_zero, List.set_cons_succ]
          first | (refine Wk.skip (m := 1) (k := 27) rfl (by rfl) ?_) | (refine Wk.step (m := 1) (k := 27) (v := _) rfl (by rfl) (fun wv hS => by obtain ⟨s0, s1, s2, s3, s4, s5, s6, s7, s8, s9, s10, s11⟩ := hS; go_simp; try with_reducible rfl) ?_)
          try simp only [Act.put, List.getElem_toArray, List.getElem_cons_succ, List.getElem_cons_zero, List.setIfInBounds_toArray, List.set_cons_zero, List.set_cons_succ]
          first | (refine Wk.skip (m := 0) (k := 28) rfl (by rfl) ?_) | (refine Wk.step (m := 0) (k := 28) (v := _) rfl (by rfl) (fun wv hS => by obtain ⟨s0, s1, s2, s3, s4, s5, s6, s7, s8, s9, s10, s11⟩ := hS; go_simp; try with_reducible rfl) ?_)
          try simp only [Act.put, List.getElem_toArray, List.getElem_cons_succ, List.getElem_cons_zero, List.setIfInBounds_toArray, List.set_cons_zero, List.set_cons_succ]
          refine Wk.done fun wE hE => ?_
          clear u0 u1 u2 u3 u4 u5 u6 u7 u8 u9 d3
          obtain ⟨mE, u0, u1, u2, u3, u4, u5, u6, u7, u8, u9, d3⟩ := hE
          go_wp2_with fail
          go_ret
          exact ⟨retB (by rw [HV.out, HG.out, HL.out]; rfl), M0.trans mE⟩
      · have HG := Lib.hid (show decide (0 ≤ q.nd) = false from decide_eq_false hg)
        have hg1 : q.nd < 0 := by omega
        have hg2 : decide (0 ≤ q.nd) = false := decide_eq_false hg
        clear hg
        go_enter Try.func28, Try.ntmps28
        go_wp2_with fail
        refine wp_region_wk (fun w' => Mk0 (w.alloc (Obj.cells #[Value.int .i64 x0, Value.int .i64 x1, Value.int .i64 x2, Value.slice (some ⟨b, off, none⟩) n3 c3, Value.int .i64 (k : Int), Value.int .i64 (j : Int), Value.int .i64 x6, Value.int .i64 x7, Value.int .i64 x8, Value.slice a9 n9 c9] 40)) w' ∧ w'.cell? ⟨w.heap.size, 0, none⟩ = some (.int .i64 x0) ∧ w'.cell? ⟨w.heap.size, 1, none⟩ = some (.int .i64 x1) ∧ w'.cell? ⟨w.heap.size, 2, none⟩ = some (.int .i64 x2) ∧ w'.cell? ⟨w.heap.size, 3, none⟩ = some (.slice (some ⟨b, off, none⟩) n3 c3) ∧ w'.cell? ⟨w.heap.size, 4, none⟩ = some (.int .i64 (k : Int)) ∧ w'.cell? ⟨w.heap.size, 5, none⟩ = some (.int .i64 (j : Int)) ∧ w'.cell? ⟨w.heap.size, 6, none⟩ = some (.int .i64 x6) ∧ w'.cell? ⟨w.heap.size, 7, none⟩ = some (.int .i64 x7) ∧ w'.cell? ⟨w.heap.size, 8, none⟩ = some (.int .i64 x8) ∧ w'.cell? ⟨w.heap.size, 9, none⟩ = some (.slice a9 n9 c9) ∧ w'.cell? ⟨b, off + k * 4 + 3, none⟩ = some (.slice (some ⟨bh, offh, none⟩) nh ch)) (by kernel_rfl) (by kernel_rfl) (⟨Mk.drew1 _, u0, u1, u2, u3, u4, u5, u6, u7, u8, u9, d3⟩) ?_
        change Wk _ _ _ _ 29 0 _
        first | (refine Wk.skip (m := 28) (k := 0) rfl (by rfl) ?_) | (refine Wk.step (m := 28) (k := 0) (v := _) rfl (by rfl) (fun wv hS => by obtain ⟨s0, s1, s2, s3, s4, s5, s6, s7, s8, s9, s10, s11⟩ := hS; go_simp; try with_reducible rfl) ?_)
        try simp only [Act.put, List.getElem_toArray, List.getElem_cons_zero, List.setIfInBounds_toArray, List.set_cons_zero, List.set_cons_succ]
        refine Wk.call (m := 27) (k := 1) (v := .int .i64 (q.nd)) _ _ rfl (by rfl) (fun wv hS => by obtain ⟨s0, s1, s2, s3, s4, s5, s6, s7, s8, s9, s10, s11⟩ := hS; go_simp; first | done | exact ⟨rfl, rfl⟩ | with_reducible rfl) (fun wv hS => ?_) ?_; · obtain ⟨s0, s1, s2, s3, s4, s5, s6, s7, s8, s9, s10, s11⟩ := hS; have MM := M0.trans s0; refine ((specCurAS x0 x1 x2 (k : Int) (j : Int) x6 x7 x8 (some ⟨b, off, none⟩) n3 c3 z3 a9 n9 c9 B _ (h3.mk MM hB (.inr (Nat.le_refl _))) (Nat.le_trans hB MM.size) hn3)).mono ?_; rintro e w' ⟨he, mm⟩; rw [HC.out] at he; subst he; exact ⟨rfl, s0.trans mm, mm.cellAt s1, mm.cellAt s2, mm.cellAt s3, mm.cellAt s4, mm.cellAt s5, mm.cellAt s6, mm.cellAt s7, mm.cellAt s8, mm.cellAt s9, mm.cellAt s10, mm.cellAt s11⟩
        try simp only [Act.put, List.getElem_toArray, List.getElem_cons_succ, List.getElem_cons_zero, List.setIfInBounds_toArray, List.set_cons_zero, List.set_cons_succ]
        first | (refine Wk.skip (m := 26) (k := 2) rfl (by rfl) ?_) | (refine Wk.step (m := 26) (k := 2) (v := _) rfl (by rfl) (fun wv hS => by obtain ⟨s0, s1, s2, s3, s4, s5, s6, s7, s8, s9, s10, s11⟩ := hS; go_simp; try with_reducible rfl) ?_)
        try simp only [Act.put, List.getElem_toArray, List.getElem_cons_succ, List.getElem_cons_zero, List.setIfInBounds_toArray, List.set_cons_zero, List.set_cons_succ]
        first | (refine Wk.skip (m := 25) (k := 3) rfl (by rfl) ?_) | (refine Wk.step (m := 25) (k := 3) (v := _) rfl (by rfl) (fun wv hS => by obtain ⟨s0, s1, s2, s3, s4, s5, s6, s7, s8, s9, s10, s11⟩ := hS; go_simp; try with_reducible rfl) ?_)
        try simp only [Act.put, List.getElem_toArray, List.getElem_cons_succ, List.getElem_cons_zero, List.setIfInBounds_toArray, List.set_cons_zero, List.set_cons_succ]
        first | (refine Wk.skip (m := 24) (k := 4) rfl (by rfl) ?_) | (refine Wk.step (m := 24) (k := 4) (v := _) rfl (by rfl) (fun wv hS => by obtain ⟨s0, s1, s2, s3, s4, s5, s6, s7, s8, s9, s10, s11⟩ := hS; go_simp; try with_reducible rfl) ?_)
        try simp only [Act.put, List.getElem_toArray, List.getElem_cons_succ, List.getElem_cons_zero, List.setIfInBounds_toArray, List.set_cons_zero, List.set_cons_succ]
        first | (refine Wk.skip (m := 23) (k := 5) rfl (by rfl) ?_) | (refine Wk.step (m := 23) (k := 5) (v := _) rfl (by rfl) (fun wv hS => by obtain ⟨s0, s1, s2, s3, s4, s5, s6, s7, s8, s9, s10, s11⟩ := hS; go_simp; try with_reducible rfl) ?_)
        try simp only [Act.put, List.getElem_toArray, List.getElem_cons_succ, List.getElem_cons_zero, List.setIfInBounds_toArray, List.set_cons_zero, List.set_cons_succ]
        first | (refine Wk.skip (m := 22) (k := 6) rfl (by rfl) ?_) | (refine Wk.step (m := 22) (k := 6) (v := _) rfl (by rfl) (fun wv hS => by obtain ⟨s0, s1, s2, s3, s4, s5, s6, s7, s8, s9, s10, s11⟩ := hS; go_simp; try with_reducible rfl) ?_)
        try simp only [Act.put, List.getElem_toArray, List.getElem_cons_succ, List.getElem_cons_zero, List.setIfInBounds_toArray, List.set_cons_zero, List.set_cons_succ]
        first | (refine Wk.skip (m := 21) (k := 7) rfl (by rfl) ?_) | (refine Wk.step (m := 21) (k := 7) (v := _) rfl (by rfl) (fun wv hS => by obtain ⟨s0, s1, s2, s3, s4, s5, s6, s7, s8, s9, s10, s11⟩ := hS; go_simp; try with_reducible rfl) ?_)
        try simp only [Act.put, List.getElem_toArray, List.getElem_cons_succ, List.getElem_cons_zero, List.setIfInBounds_toArray, List.set_cons_zero, List.set_cons_succ]
        first | (refine Wk.skip (m := 20) (k := 8) rfl (by rfl) ?_) | (refine Wk.step (m := 20) (k := 8) (v := _) rfl (by rfl) (fun wv hS => by obtain ⟨s0, s1, s2, s3, s4, s5, s6, s7, s8, s9, s10, s11⟩ := hS; go_simp; try with_reducible rfl) ?_)
        try simp only [Act.put, List.getElem_toArray, List.getElem_cons_succ, List.getElem_cons_zero, List.setIfInBounds_toArray, List.set_cons_zero, List.set_cons_succ]
        first | (refine Wk.skip (m := 19) (k := 9) rfl (by rfl) ?_) | (refine Wk.step (m := 19) (k := 9) (v := _) rfl (by rfl) (fun wv hS => by obtain ⟨s0, s1, s2, s3, s4, s5, s6, s7, s8, s9, s10, s11⟩ := hS; go_simp; try with_reducible rfl) ?_)
        try simp only [Act.put, List.getElem_toArray, List.getElem_cons_succ, List.getElem_cons_zero, List.setIfInBounds_toArray, List.set_cons_zero, List.set_cons_succ]
        first | (refine Wk.skip (m := 18) (k := 10) rfl (by rfl) ?_) | (refine Wk.step (m := 18) (k := 10) (v := _) rfl (by rfl) (fun wv hS => by obtain ⟨s0, s1, s2, s3, s4, s5, s6, s7, s8, s9, s10, s11⟩ := hS; go_simp; try with_reducible rfl) ?_)
        try simp only [Act.put, List.getElem_toArray, List.getElem_cons_succ, List.getElem_cons_zero, List.setIfInBounds_toArray, List.set_cons_zero, List.set_cons_succ]
        first | (refine Wk.skip (m := 17) (k := 11) rfl (by rfl) ?_) | (refine Wk.step (m := 17) (k := 11) (v := _) rfl (by rfl) (fun wv hS => by obtain ⟨s0, s1, s2, s3, s4, s5, s6, s7, s8, s9, s10, s11⟩ := hS; go_simp; try with_reducible rfl) ?_)
        try simp only [Act.put, List.getElem_toArray, List.getElem_cons_succ, List.getElem_cons_zero, List.setIfInBounds_toArray, List.set_cons_zero, List.set_cons_succ]
        first | (refine Wk.skip (m := 16) (k := 12) rfl (by rfl) ?_) | (refine Wk.step (m := 16) (k := 12) (v := _) rfl (by rfl) (fun wv hS => by obtain ⟨s0, s1, s2, s3, s4, s5, s6, s7, s8, s9, s10, s11⟩ := hS; go_simp; try with_reducible rfl) ?_)
        try simp only [Act.put, List.getElem_toArray, List.getElem_cons_succ, List.getElem_cons_zero, List.setIfInBounds_toArray, List.set_cons_zero, List.set_cons_succ]
        first | (refine Wk.skip (m := 15) (k := 13) rfl (by rfl) ?_) | (refine Wk.step (m := 15) (k := 13) (v := _) rfl (by rfl) (fun wv hS => by obtain ⟨s0, s1, s2, s3, s4, s5, s6, s7, s8, s9, s10, s11⟩ := hS; go_simp; try with_reducible rfl) ?_)
        try simp only [Act.put, List.getElem_toArray, List.getElem_cons_succ, List.getElem_cons_zero, List.setIfInBounds_toArray, List.set_cons_zero, List.set_cons_succ]
        first | (refine Wk.skip (m := 14) (k := 14) rfl (by rfl) ?_) | (refine Wk.step (m := 14) (k := 14) (v := _) rfl (by rfl) (fun wv hS => by obtain ⟨s0, s1, s2, s3, s4, s5, s6, s7, s8, s9, s10, s11⟩ := hS; go_simp; try with_reducible rfl) ?_)
        try simp only [Act.put, List.getElem_toArray, List.getElem_cons_succ, List.getElem_cons_zero, List.setIfInBounds_toArray, List.set_cons_zero, List.set_cons_succ]
        first | (refine Wk.skip (m := 13) (k := 15) rfl (by rfl) ?_) | (refine Wk.step (m := 13) (k := 15) (v := _) rfl (by rfl) (fun wv hS => by obtain ⟨s0, s1, s2, s3, s4, s5, s6, s7, s8, s9, s10, s11⟩ := hS; go_simp; try with_reducible rfl) ?_)
        try simp only [Act.put, List.getElem_toArray, List.getElem_cons_succ, List.getElem_cons_zero, List.setIfInBounds_toArray, List.set_cons_zero, List.set_cons_succ]
        first | (refine Wk.skip (m := 12) (k := 16) rfl (by rfl) ?_) | (refine Wk.step (m := 12) (k := 16) (v := _) rfl (by rfl) (fun wv hS => by obtain ⟨s0, s1, s2, s3, s4, s5, s6, s7, s8, s9, s10, s11⟩ := hS; go_simp; try with_reducible rfl) ?_)
        try simp only [Act.put, List.getElem_toArray, List.getElem_cons_succ, List.getElem_cons_zero, List.setIfInBounds_toArray, List.set_cons_zero, List.set_cons_succ]
        first | (refine Wk.skip (m := 11) (k := 17) rfl (by rfl) ?_) | (refine Wk.step (m := 11) (k := 17) (v := _) rfl (by rfl) (fun wv hS => by obtain ⟨s0, s1, s2, s3, s4, s5, s6, s7, s8, s9, s10, s11⟩ := hS; go_simp; try with_reducible rfl) ?_)
        try simp only [Act.put, List.getElem_toArray, List.getElem_cons_succ, List.getElem_cons_zero, List.setIfInBounds_toArray, List.set_cons_zero, List.set_cons_succ]
        first | (refine Wk.skip (m := 10) (k := 18) rfl (by rfl) ?_) | (refine Wk.step (m := 10) (k := 18) (v := _) rfl (by rfl) (fun wv hS => by obtain ⟨s0, s1, s2, s3, s4, s5, s6, s7, s8, s9, s10, s11⟩ := hS; go_simp; try with_reducible rfl) ?_)
        try simp only [Act.put, List.getElem_toArray, List.getElem_cons_succ, List.getElem_cons_zero, List.setIfInBounds_toArray, List.set_cons_zero, List.set_cons_succ]
        first | (refine Wk.skip (m := 9) (k := 19) rfl (by rfl) ?_) | (refine Wk.step (m := 9) (k := 19) (v := _) rfl (by rfl) (fun wv hS => by obtain ⟨s0, s1, s2, s3, s4, s5, s6, s7, s8, s9, s10, s11⟩ := hS; go_simp; try with_reducible rfl) ?_)
        try simp only [Act.put, List.getElem_toArray, List.getElem_cons_succ, List.getElem_cons_zero, List.setIfInBounds_toArray, List.set_cons_zero, List.set_cons_succ]
        first | (refine Wk.skip (m := 8) (k := 20) rfl (by rfl) ?_) | (refine Wk.step (m := 8) (k := 20) (v := _) rfl (by rfl) (fun wv hS => by obtain ⟨s0, s1, s2, s3, s4, s5, s6, s7, s8, s9, s10, s11⟩ := hS; go_simp; try with_reducible rfl) ?_)
        try simp only [Act.put, List.getElem_toArray, List.getElem_cons_succ, List.getElem_cons_zero, List.setIfInBounds_toArray, List.set_cons_zero, List.set_cons_succ]
        first | (refine Wk.skip (m := 7) (k := 21) rfl (by rfl) ?_) | (refine Wk.step (m := 7) (k := 21) (v := _) rfl (by rfl) (fun wv hS => by obtain ⟨s0, s1, s2, s3, s4, s5, s6, s7, s8, s9, s10, s11⟩ := hS; go_simp; try with_reducible rfl) ?_)
        try simp only [Act.put, List.getElem_toArray, List.getElem_cons_succ, List.getElem_cons_zero, List.setIfInBounds_toArray, List.set_cons_zero, List.set_cons_succ]
        first | (refine Wk.skip (m := 6) (k := 22) rfl (by rfl) ?_) | (refine Wk.step (m := 6) (k := 22) (v := _) rfl (by rfl) (fun wv hS => by obtain ⟨s0, s1, s2, s3, s4, s5, s6, s7, s8, s9, s10, s11⟩ := hS; go_simp; try with_reducible rfl) ?_)
        try simp only [Act.put, List.getElem_toArray, List.getElem_cons_succ, List.getElem_cons_zero, List.setIfInBounds_toArray, List.set_cons_zero, List.set_cons_succ]
        first | (refine Wk.skip (m := 5) (k := 23) rfl (by rfl) ?_) | (refine Wk.step (m := 5) (k := 23) (v := _) rfl (by rfl) (fun wv hS => by obtain ⟨s0, s1, s2, s3, s4, s5, s6, s7, s8, s9, s10, s11⟩ := hS; go_simp; try with_reducible rfl) ?_)
        try simp only [Act.put, List.getElem_toArray, List.getElem_cons_succ, List.getElem_cons_zero, List.setIfInBounds_toArray, List.set_cons_zero, List.set_cons_succ]
        first | (refine Wk.skip (m := 4) (k := 24) rfl (by rfl) ?_) | (refine Wk.step (m := 4) (k := 24) (v := _) rfl (by rfl) (fun wv hS => by obtain ⟨s0, s1, s2, s3, s4, s5, s6, s7, s8, s9, s10, s11⟩ := hS; go_simp; try with_reducible rfl) ?_)
        try simp only [Act.put, List.getElem_toArray, List.getElem_cons_succ, List.getElem_cons_zero, List.setIfInBounds_toArray, List.set_cons_zero, List.set_cons_succ]
        first | (refine Wk.skip (m := 3) (k := 25) rfl (by rfl) ?_) | (refine Wk.step (m := 3) (k := 25) (v := _) rfl (by rfl) (fun wv hS => by obtain ⟨s0, s1, s2, s3, s4, s5, s6, s7, s8, s9, s10, s11⟩ := hS; go_simp; try with_reducible rfl) ?_)
        try simp only [Act.put, List.getElem_toArray, List.getElem_cons_succ, List.getElem_cons_zero, List.setIfInBounds_toArray, List.set_cons_zero, List.set_cons_succ]
        first | (refine Wk.skip (m := 2) (k := 26) rfl (by rfl) ?_) | (refine Wk.step (m := 2) (k := 26) (v := _) rfl (by rfl) (fun wv hS => by obtain ⟨s0, s1, s2, s3, s4, s5, s6, s7, s8, s9, s10, s11⟩ := hS; go_simp; try with_reducible rfl) ?_)
        try simp only [Act.put, List.getElem_toArray, List.getElem_cons_succ, List.getElem_cons_zero, List.setIfInBounds_toArray, List.set_cons_zero, List.set_cons_succ]
        first | (refine Wk.skip (m := 1) (k := 27) rfl (by rfl) ?_) | (refine Wk.step (m := 1) (k := 27) (v := _) rfl (by rfl) (fun wv hS => by obtain ⟨s0, s1, s2, s3, s4, s5, s6, s7, s8, s9, s10, s11⟩ := hS; go_simp; try with_reducible rfl) ?_)
        try simp only [Act.put, List.getElem_toArray, List.getElem_cons_succ, List.getElem_cons_zero, List.setIfInBounds_toArray, List.set_cons_zero, List.set_cons_succ]
        first | (refine Wk.skip (m := 0) (k := 28) rfl (by rfl) ?_) | (refine Wk.step (m := 0) (k := 28) (v := _) rfl (by rfl) (fun wv hS => by obtain ⟨s0, s1, s2, s3, s4, s5, s6, s7, s8, s9, s10, s11⟩ := hS; go_simp; try with_reducible rfl) ?_)
        try simp only [Act.put, List.getElem_toArray, List.getElem_cons_succ, List.getElem_cons_zero, List.setIfInBounds_toArray, List.set_cons_zero, List.set_cons_succ]
        refine Wk.done fun wE hE => ?_
        clear u0 u1 u2 u3 u4 u5 u6 u7 u8 u9 d3
        obtain ⟨mE, u0, u1, u2, u3, u4, u5, u6, u7, u8, u9, d3⟩ := hE
        go_wp2_with fail
        go_ret
        exact ⟨retB (by rw [HV.out, HG.out]; rfl), M0.trans mE⟩
    · have HH := Lib.hid (show pkHop z3 n3 (k : Int) x5 = none from pkHop_noB hk (by rw [← hx.out]; exact r3.1) hB')
      have M0 := Mk.alloc w (Obj.cells #[Value.int .i64 x0, Value.int .i64 x1, Value.int .i64 x2, Value.slice (some ⟨b, off, none⟩) n3 c3, Value.int .i64 (k : Int), Value.int .i64 x5, Value.int .i64 x6, Value.int .i64 x7, Value.int .i64 x8, Value.slice a9 n9 c9] 40)
      have hn : n3 ≤ 1048576 := Nat.le_trans (szPathPart_n z3 n3) hn3
      have i3 : (n3 : Int) ≤ 1048576 := by omega
      have u0 : (w.alloc (Obj.cells #[Value.int .i64 x0, Value.int .i64 x1, Value.int .i64 x2, Value.slice (some ⟨b, off, none⟩) n3 c3, Value.int .i64 (k : Int), Value.int .i64 x5, Value.int .i64 x6, Value.int .i64 x7, Value.int .i64 x8, Value.slice a9 n9 c9] 40)).cell? ⟨w.heap.size, 0, none⟩ = some (.int .i64 x0) := by simp [go_sem]
      have u1 : (w.alloc (Obj.cells #[Value.int .i64 x0, Value.int .i64 x1, Value.int .i64 x2, Value.slice (some ⟨b, off, none⟩) n3 c3, Value.int .i64 (k : Int), Value.int .i64 x5, Value.int .i64 x6, Value.int .i64 x7, Value.int .i64 x8, Value.slice a9 n9 c9] 40)).cell? ⟨w.heap.size, 1, none⟩ = some (.int .i64 x1) := by simp [go_sem]
      have u2 : (w.alloc (Obj.cells #[Value.int .i64 x0, Value.int .i64 x1, Value.int .i64 x2, Value.slice (some ⟨b, off, none⟩) n3 c3, Value.int .i64 (k : Int), Value.int .i64 x5, Value.int .i64 x6, Value.int .i64 x7, Value.int .i64 x8, Value.slice a9 n9 c9] 40)).cell? ⟨w.heap.size, 2, none⟩ = some (.int .i64 x2) := by simp [go_sem]
      have u3 : (w.alloc (Obj.cells #[Value.int .i64 x0, Value.int .i64 x1, Value.int .i64 x2, Value.slice (some ⟨b, off, none⟩) n3 c3, Value.int .i64 (k : Int), Value.int .i64 x5, Value.int .i64 x6, Value.int .i64 x7, Value.int .i64 x8, Value.slice a9 n9 c9] 40)).cell? ⟨w.heap.size, 3, none⟩ = some (.slice (some ⟨b, off, none⟩) n3 c3) := by simp [go_sem]
      have u4 : (w.alloc (Obj.cells #[Value.int .i64 x0, Value.int .i64 x1, Value.int .i64 x2, Value.slice (some ⟨b, off, none⟩) n3 c3, Value.int .i64 (k : Int), Value.int .i64 x5, Value.int .i64 x6, Value.int .i64 x7, Value.int .i64 x8, Value.slice a9 n9 c9] 40)).cell? ⟨w.heap.size, 4, none⟩ = some (.int .i64 (k : Int)) := by simp [go_sem]
      have u5 : (w.alloc (Obj.cells #[Value.int .i64 x0, Value.int .i64 x1, Value.int .i64 x2, Value.slice (some ⟨b, off, none⟩) n3 c3, Value.int .i64 (k : Int), Value.int .i64 x5, Value.int .i64 x6, Value.int .i64 x7, Value.int .i64 x8, Value.slice a9 n9 c9] 40)).cell? ⟨w.heap.size, 5, none⟩ = some (.int .i64 x5) := by simp [go_sem]
      have u6 : (w.alloc (Obj.cells #[Value.int .i64 x0, Value.int .i64 x1, Value.int .i64 x2, Value.slice (some ⟨b, off, none⟩) n3 c3, Value.int .i64 (k : Int), Value.int .i64 x5, Value.int .i64 x6, Value.int .i64 x7, Value.int .i64 x8, Value.slice a9 n9 c9] 40)).cell? ⟨w.heap.size, 6, none⟩ = some (.int .i64 x6) := by simp [go_sem]
      have u7 : (w.alloc (Obj.cells #[Value.int .i64 x0, Value.int .i64 x1, Value.int .i64 x2, Value.slice (some ⟨b, off, none⟩) n3 c3, Value.int .i64 (k : Int), Value.int .i64 x5, Value.int .i64 x6, Value.int .i64 x7, Value.int .i64 x8, Value.slice a9 n9 c9] 40)).cell? ⟨w.heap.size, 7, none⟩ = some (.int .i64 x7) := by simp [go_sem]
      have u8 : (w.alloc (Obj.cells #[Value.int .i64 x0, Value.int .i64 x1, Value.int .i64 x2, Value.slice (some ⟨b, off, none⟩) n3 c3, Value.int .i64 (k : Int), Value.int .i64 x5, Value.int .i64 x6, Value.int .i64 x7, Value.int .i64 x8, Value.slice a9 n9 c9] 40)).cell? ⟨w.heap.size, 8, none⟩ = some (.int .i64 x8) := by simp [go_sem]
      have u9 : (w.alloc (Obj.cells #[Value.int .i64 x0, Value.int .i64 x1, Value.int .i64 x2, Value.slice (some ⟨b, off, none⟩) n3 c3, Value.int .i64 (k : Int), Value.int .i64 x5, Value.int .i64 x6, Value.int .i64 x7, Value.int .i64 x8, Value.slice a9 n9 c9] 40)).cell? ⟨w.heap.size, 9, none⟩ = some (.slice a9 n9 c9) := by simp [go_sem]
      have hnh : nh ≤ 1048576 := by have HS := szPathPart_at z3 hk; unfold sePathPart at HS; rw [← hx.out, r3.1] at HS; omega
      have i4 : (nh : Int) ≤ 1048576 := by omega
      have i1 : (0 : Int) ≤ (k : Int) := by omega
      have i2 : (k : Int) < (n3 : Int) := by omega
      replace d0 := M0.cellAt d0
      replace d1 := M0.cellAt d1
      replace d2 := M0.cellAt d2
      replace d3 := M0.cellAt d3
      have HC := Lib.hid (curAS_none HH.out)
      go_enter Try.func28, Try.ntmps28
      go_wp2_with fail
      refine wp_region_wk (fun w' => Mk0 (w.alloc (Obj.cells #[Value.int .i64 x0, Value.int .i64 x1, Value.int .i64 x2, Value.slice (some ⟨b, off, none⟩) n3 c3, Value.int .i64 (k : Int), Value.int .i64 x5, Value.int .i64 x6, Value.int .i64 x7, Value.int .i64 x8, Value.slice a9 n9 c9] 40)) w' ∧ w'.cell? ⟨w.heap.size, 0, none⟩ = some (.int .i64 x0) ∧ w'.cell? ⟨w.heap.size, 1, none⟩ = some (.int .i64 x1) ∧ w'.cell? ⟨w.heap.size, 2, none⟩ = some (.int .i64 x2) ∧ w'.cell? ⟨w.heap.size, 3, none⟩ = some (.slice (some ⟨b, off, none⟩) n3 c3) ∧ w'.cell? ⟨w.heap.size, 4, none⟩ = some (.int .i64 (k : Int)) ∧ w'.cell? ⟨w.heap.size, 5, none⟩ = some (.int .i64 x5) ∧ w'.cell? ⟨w.heap.size, 6, none⟩ = some (.int .i64 x6) ∧ w'.cell? ⟨w.heap.size, 7, none⟩ = some (.int .i64 x7) ∧ w'.cell? ⟨w.heap.size, 8, none⟩ = some (.int .i64 x8) ∧ w'.cell? ⟨w.heap.size, 9, none⟩ = some (.slice a9 n9 c9)) (by kernel_rfl) (by kernel_rfl) (⟨Mk.drew1 _, u0, u1, u2, u3, u4, u5, u6, u7, u8, u9⟩) ?_
      change Wk _ _ _ _ 29 0 _
      first | (refine Wk.skip (m := 28) (k := 0) rfl (by rfl) ?_) | (refine Wk.step (m := 28) (k := 0) (v := _) rfl (by rfl) (fun wv hS => by obtain ⟨s0, s1, s2, s3, s4, s5, s6, s7, s8, s9, s10⟩ := hS; go_simp; try with_reducible rfl) ?_)
      try simp only [Act.put, List.getElem_toArray, List.getElem_cons_zero, List.setIfInBounds_toArray, List.set_cons_zero, List.set_cons_succ]
      refine Wk.call (m := 27) (k := 1) (v := .int .i64 (-1)) _ _ rfl (by rfl) (fun wv hS => by obtain ⟨s0, s1, s2, s3, s4, s5, s6, s7, s8, s9, s10⟩ := hS; go_simp; first | done | exact ⟨rfl, rfl⟩ | with_reducible rfl) (fun wv hS => ?_) ?_; · obtain ⟨s0, s1, s2, s3, s4, s5, s6, s7, s8, s9, s10⟩ := hS; have MM := M0.trans s0; refine ((specCurAS x0 x1 x2 (k : Int) x5 x6 x7 x8 (some ⟨b, off, none⟩) n3 c3 z3 a9 n9 c9 B _ (h3.mk MM hB (.inr (Nat.le_refl _))) (Nat.le_trans hB MM.size) hn3)).mono ?_; rintro e w' ⟨he, mm⟩; rw [HC.out] at he; subst he; exact ⟨rfl, s0.trans mm, mm.cellAt s1, mm.cellAt s2, mm.cellAt s3, mm.cellAt s4, mm.cellAt s5, mm.cellAt s6, mm.cellAt s7, mm.cellAt s8, mm.cellAt s9, mm.cellAt s10⟩
      try simp only [Act.put, List.getElem_toArray, List.getElem_cons_succ, List.getElem_cons_zero, List.setIfInBounds_toArray, List.set_cons_zero, List.set_cons_succ]
      first | (refine Wk.skip (m := 26) (k := 2) rfl (by rfl) ?_) | (refine Wk.step (m := 26) (k := 2) (v := _) rfl (by rfl) (fun wv hS => by obtain ⟨s0, s1, s2, s3, s4, s5, s6, s7, s8, s9, s10⟩ := hS; go_simp; try with_reducible rfl) ?_)
      try simp only [Act.put, List.getElem_toArray, List.getElem_cons_succ, List.getElem_cons_zero, List.setIfInBounds_toArray, List.set_cons_zero, List.set_cons_succ]
      first | (refine Wk.skip (m := 25) (k := 3) rfl (by rfl) ?_) | (refine Wk.step (m := 25) (k := 3) (v := _) rfl (by rfl) (fun wv hS => by obtain ⟨s0, s1, s2, s3, s4, s5, s6, s7, s8, s9, s10⟩ := hS; go_simp; try with_reducible rfl) ?_)
      try simp only [Act.put, List.getElem_toArray, List.getElem_cons_succ, List.getElem_cons_zero, List.setIfInBounds_toArray, List.set_cons_zero, List.set_cons_succ]
      first | (refine Wk.skip (m := 24) (k := 4) rfl (by rfl) ?_) | (refine Wk.step (m := 24) (k := 4) (v := _) rfl (by rfl) (fun wv hS => by obtain ⟨s0, s1, s2, s3, s4, s5, s6, s7, s8, s9, s10⟩ := hS; go_simp; try with_reducible rfl) ?_)
      try simp only [Act.put, List.getElem_toArray, List.getElem_cons_succ, List.getElem_cons_zero, List.setIfInBounds_toArray, List.set_cons_zero, List.set_cons_succ]
      first | (refine Wk.skip (m := 23) (k := 5) rfl (by rfl) ?_) | (refine Wk.step (m := 23) (k := 5) (v := _) rfl (by rfl) (fun wv hS => by obtain ⟨s0, s1, s2, s3, s4, s5, s6, s7, s8, s9, s10⟩ := hS; go_simp; try with_reducible rfl) ?_)
      try simp only [Act.put, List.getElem_toArray, List.getElem_cons_succ, List.getElem_cons_zero, List.setIfInBounds_toArray, List.set_cons_zero, List.set_cons_succ]
      first | (refine Wk.skip (m := 22) (k := 6) rfl (by rfl) ?_) | (refine Wk.step (m := 22) (k := 6) (v := _) rfl (by rfl) (fun wv hS => by obtain ⟨s0, s1, s2, s3, s4, s5, s6, s7, s8, s9, s10⟩ := hS; go_simp; try with_reducible rfl) ?_)
      try simp only [Act.put, List.getElem_toArray, List.getElem_cons_succ, List.getElem_cons_zero, List.setIfInBounds_toArray, List.set_cons_zero, List.set_cons_succ]
      first | (refine Wk.skip (m := 21) (k := 7) rfl (by rfl) ?_) | (refine Wk.step (m := 21) (k := 7) (v := _) rfl (by rfl) (fun wv hS => by obtain ⟨s0, s1, s2, s3, s4, s5, s6, s7, s8, s9, s10⟩ := hS; go_simp; try with_reducible rfl) ?_)
      try simp only [Act.put, List.getElem_toArray, List.getElem_cons_succ, List.getElem_cons_zero, List.setIfInBounds_toArray, List.set_cons_zero, List.set_cons_succ]
      first | (refine Wk.skip (m := 20) (k := 8) rfl (by rfl) ?_) | (refine Wk.step (m := 20) (k := 8) (v := _) rfl (by rfl) (fun wv hS => by obtain ⟨s0, s1, s2, s3, s4, s5, s6, s7, s8, s9, s10⟩ := hS; go_simp; try with_reducible rfl) ?_)
      try simp only [Act.put, List.getElem_toArray, List.getElem_cons_succ, List.getElem_cons_zero, List.setIfInBounds_toArray, List.set_cons_zero, List.set_cons_succ]
      first | (refine Wk.skip (m := 19) (k := 9) rfl (by rfl) ?_) | (refine Wk.step (m := 19) (k := 9) (v := _) rfl (by rfl) (fun wv hS => by obtain ⟨s0, s1, s2, s3, s4, s5, s6, s7, s8, s9, s10⟩ := hS; go_simp; try with_reducible rfl) ?_)
      try simp only [Act.put, List.getElem_toArray, List.getElem_cons_succ, List.getElem_cons_zero, List.setIfInBounds_toArray, List.set_cons_zero, List.set_cons_succ]
      first | (refine Wk.skip (m := 18) (k := 10) rfl (by rfl) ?_) | (refine Wk.step (m := 18) (k := 10) (v := _) rfl (by rfl) (fun wv hS => by obtain ⟨s0, s1, s2, s3, s4, s5, s6, s7, s8, s9, s10⟩ := hS; go_simp; try with_reducible rfl) ?_)
      try simp only [Act.put, List.getElem_toArray, List.getElem_cons_succ, List.getElem_cons_zero, List.setIfInBounds_toArray, List.set_cons_zero, List.set_cons_succ]
      first | (refine Wk.skip (m := 17) (k := 11) rfl (by rfl) ?_) | (refine Wk.step (m := 17) (k := 11) (v := _) rfl (by rfl) (fun wv hS => by obtain ⟨s0, s1, s2, s3, s4, s5, s6, s7, s8, s9, s10⟩ := hS; go_simp; try with_reducible rfl) ?_)
      try simp only [Act.put, List.getElem_toArray, List.getElem_cons_succ, List.getElem_cons_zero, List.setIfInBounds_toArray, List.set_cons_zero, List.set_cons_succ]
      first | (refine Wk.skip (m := 16) (k := 12) rfl (by rfl) ?_) | (refine Wk.step (m := 16) (k := 12) (v := _) rfl (by rfl) (fun wv hS => by obtain ⟨s0, s1, s2, s3, s4, s5, s6, s7, s8, s9, s10⟩ := hS; go_simp; try with_reducible rfl) ?_)
      try simp only [Act.put, List.getElem_toArray, List.getElem_cons_succ, List.getElem_cons_zero, List.setIfInBounds_toArray, List.set_cons_zero, List.set_cons_succ]
      first | (refine Wk.skip (m := 15) (k := 13) rfl (by rfl) ?_) | (refine Wk.step (m := 15) (k := 13) (v := _) rfl (by rfl) (fun wv hS => by obtain ⟨s0, s1, s2, s3, s4, s5, s6, s7, s8, s9, s10⟩ := hS; go_simp; try with_reducible rfl) ?_)
      try simp only [Act.put, List.getElem_toArray, List.getElem_cons_succ, List.getElem_cons_zero, List.setIfInBounds_toArray, List.set_cons_zero, List.set_cons_succ]
      first | (refine Wk.skip (m := 14) (k := 14) rfl (by rfl) ?_) | (refine Wk.step (m := 14) (k := 14) (v := _) rfl (by rfl) (fun wv hS => by obtain ⟨s0, s1, s2, s3, s4, s5, s6, s7, s8, s9, s10⟩ := hS; go_simp; try with_reducible rfl) ?_)
      try simp only [Act.put, List.getElem_toArray, List.getElem_cons_succ, List.getElem_cons_zero, List.setIfInBounds_toArray, List.set_cons_zero, List.set_cons_succ]
      first | (refine Wk.skip (m := 13) (k := 15) rfl (by rfl) ?_) | (refine Wk.step (m := 13) (k := 15) (v := _) rfl (by rfl) (fun wv hS => by obtain ⟨s0, s1, s2, s3, s4, s5, s6, s7, s8, s9, s10⟩ := hS; go_simp; try with_reducible rfl) ?_)
      try simp only [Act.put, List.getElem_toArray, List.getElem_cons_succ, List.getElem_cons_zero, List.setIfInBounds_toArray, List.set_cons_zero, List.set_cons_succ]
      first | (refine Wk.skip (m := 12) (k := 16) rfl (by rfl) ?_) | (refine Wk.step (m := 12) (k := 16) (v := _) rfl (by rfl) (fun wv hS => by obtain ⟨s0, s1, s2, s3, s4, s5, s6, s7, s8, s9, s10⟩ := hS; go_simp; try with_reducible rfl) ?_)
      try simp only [Act.put, List.getElem_toArray, List.getElem_cons_succ, List.getElem_cons_zero, List.setIfInBounds_toArray, List.set_cons_zero, List.set_cons_succ]
      first | (refine Wk.skip (m := 11) (k := 17) rfl (by rfl) ?_) | (refine Wk.step (m := 11) (k := 17) (v := _) rfl (by rfl) (fun wv hS => by obtain ⟨s0, s1, s2, s3, s4, s5, s6, s7, s8, s9, s10⟩ := hS; go_simp; try with_reducible rfl) ?_)
      try simp only [Act.put, List.getElem_toArray, List.getElem_cons_succ, List.getElem_cons_zero, List.setIfInBounds_toArray, List.set_cons_zero, List.set_cons_succ]
      first | (refine Wk.skip (m := 10) (k := 18) rfl (by rfl) ?_) | (refine Wk.step (m := 10) (k := 18) (v := _) rfl (by rfl) (fun wv hS => by obtain ⟨s0, s1, s2, s3, s4, s5, s6, s7, s8, s9, s10⟩ := hS; go_simp; try with_reducible rfl) ?_)
      try simp only [Act.put, List.getElem_toArray, List.getElem_cons_succ, List.getElem_cons_zero, List.setIfInBounds_toArray, List.set_cons_zero, List.set_cons_succ]
      first | (refine Wk.skip (m := 9) (k := 19) rfl (by rfl) ?_) | (refine Wk.step (m := 9) (k := 19) (v := _) rfl (by rfl) (fun wv hS => by obtain ⟨s0, s1, s2, s3, s4, s5, s6, s7, s8, s9, s10⟩ := hS; go_simp; try with_reducible rfl) ?_)
      try simp only [Act.put, List.getElem_toArray, List.getElem_cons_succ, List.getElem_cons_zero, List.setIfInBounds_toArray, List.set_cons_zero, List.set_cons_succ]
      first | (refine Wk.skip (m := 8) (k := 20) rfl (by rfl) ?_) | (refine Wk.step (m := 8) (k := 20) (v := _) rfl (by rfl) (fun wv hS => by obtain ⟨s0, s1, s2, s3, s4, s5, s6, s7, s8, s9, s10⟩ := hS; go_simp; try with_reducible rfl) ?_)
      try simp only [Act.put, List.getElem_toArray, List.getElem_cons_succ, List.getElem_cons_zero, List.setIfInBounds_toArray, List.set_cons_zero, List.set_cons_succ]
      first | (refine Wk.skip (m := 7) (k := 21) rfl (by rfl) ?_) | (refine Wk.step (m := 7) (k := 21) (v := _) rfl (by rfl) (fun wv hS => by obtain ⟨s0, s1, s2, s3, s4, s5, s6, s7, s8, s9, s10⟩ := hS; go_simp; try with_reducible rfl) ?_)
      try simp only [Act.put, List.getElem_toArray, List.getElem_cons_succ, List.getElem_cons_zero, List.setIfInBounds_toArray, List.set_cons_zero, List.set_cons_succ]
      first | (refine Wk.skip (m := 6) (k := 22) rfl (by rfl) ?_) | (refine Wk.step (m := 6) (k := 22) (v := _) rfl (by rfl) (fun wv hS => by obtain ⟨s0, s1, s2, s3, s4, s5, s6, s7, s8, s9, s10⟩ := hS; go_simp; try with_reducible rfl) ?_)
      try simp only [Act.put, List.getElem_toArray, List.getElem_cons_succ, List.getElem_cons_zero, List.setIfInBounds_toArray, List.set_cons_zero, List.set_cons_succ]
      first | (refine Wk.skip (m := 5) (k := 23) rfl (by rfl) ?_) | (refine Wk.step (m := 5) (k := 23) (v := _) rfl (by rfl) (fun wv hS => by obtain ⟨s0, s1, s2, s3, s4, s5, s6, s7, s8, s9, s10⟩ := hS; go_simp; try with_reducible rfl) ?_)
      try simp only [Act.put, List.getElem_toArray, List.getElem_cons_succ, List.getElem_cons_zero, List.setIfInBounds_toArray, List.set_cons_zero, List.set_cons_succ]
      first | (refine Wk.skip (m := 4) (k := 24) rfl (by rfl) ?_) | (refine Wk.step (m := 4) (k := 24) (v := _) rfl (by rfl) (fun wv hS => by obtain ⟨s0, s1, s2, s3, s4, s5, s6, s7, s8, s9, s10⟩ := hS; go_simp; try with_reducible rfl) ?_)
      try simp only [Act.put, List.getElem_toArray, List.getElem_cons_succ, List.getElem_cons_zero, List.setIfInBounds_toArray, List.set_cons_zero, List.set_cons_succ]
      first | (refine Wk.skip (m := 3) (k := 25) rfl (by rfl) ?_) | (refine Wk.step (m := 3) (k := 25) (v := _) rfl (by rfl) (fun wv hS => by obtain ⟨s0, s1, s2, s3, s4, s5, s6, s7, s8, s9, s10⟩ := hS; go_simp; try with_reducible rfl) ?_)
      try simp only [Act.put, List.getElem_toArray, List.getElem_cons_succ, List.getElem_cons_zero, List.setIfInBounds_toArray, List.set_cons_zero, List.set_cons_succ]
      first | (refine Wk.skip (m := 2) (k := 26) rfl (by rfl) ?_) | (refine Wk.step (m := 2) (k := 26) (v := _) rfl (by rfl) (fun wv hS => by obtain ⟨s0, s1, s2, s3, s4, s5, s6, s7, s8, s9, s10⟩ := hS; go_simp; try with_reducible rfl) ?_)
      try simp only [Act.put, List.getElem_toArray, List.getElem_cons_succ, List.getElem_cons_zero, List.setIfInBounds_toArray, List.set_cons_zero, List.set_cons_succ]
      first | (refine Wk.skip (m := 1) (k := 27) rfl (by rfl) ?_) | (refine Wk.step (m := 1) (k := 27) (v := _) rfl (by rfl) (fun wv hS => by obtain ⟨s0, s1, s2, s3, s4, s5, s6, s7, s8, s9, s10⟩ := hS; go_simp; try with_reducible rfl) ?_)
      try simp only [Act.put, List.getElem_toArray, List.getElem_cons_succ, List.getElem_cons_zero, List.setIfInBounds_toArray, List.set_cons_zero, List.set_cons_succ]
      first | (refine Wk.skip (m := 0) (k := 28) rfl (by rfl) ?_) | (refine Wk.step (m := 0) (k := 28) (v := _) rfl (by rfl) (fun wv hS => by obtain ⟨s0, s1, s2, s3, s4, s5, s6, s7, s8, s9, s10⟩ := hS; go_simp; try with_reducible rfl) ?_)
      try simp only [Act.put, List.getElem_toArray, List.getElem_cons_succ, List.getElem_cons_zero, List.setIfInBounds_toArray, List.set_cons_zero, List.set_cons_succ]
      refine Wk.done fun wE hE => ?_
      clear u0 u1 u2 u3 u4 u5 u6 u7 u8 u9
      obtain ⟨mE, u0, u1, u2, u3, u4, u5, u6, u7, u8, u9⟩ := hE
      go_wp2_with fail
      go_ret
      exact ⟨retB (atLast_neg (by rw [curAS_none HH.out]; decide)).symm, M0.trans mE⟩
  · have HH := Lib.hid (show pkHop z3 n3 x4 x5 = none from pkHop_noA hA)
    have M0 := Mk.alloc w (Obj.cells #[Value.int .i64 x0, Value.int .i64 x1, Value.int .i64 x2, Value.slice a3 n3 c3, Value.int .i64 x4, Value.int .i64 x5, Value.int .i64 x6, Value.int .i64 x7, Value.int .i64 x8, Value.slice a9 n9 c9] 40)
    have hn : n3 ≤ 1048576 := Nat.le_trans (szPathPart_n z3 n3) hn3
    have i3 : (n3 : Int) ≤ 1048576 := by omega
    have u0 : (w.alloc (Obj.cells #[Value.int .i64 x0, Value.int .i64 x1, Value.int .i64 x2, Value.slice a3 n3 c3, Value.int .i64 x4, Value.int .i64 x5, Value.int .i64 x6, Value.int .i64 x7, Value.int .i64 x8, Value.slice a9 n9 c9] 40)).cell? ⟨w.heap.size, 0, none⟩ = some (.int .i64 x0) := by simp [go_sem]
    have u1 : (w.alloc (Obj.cells #[Value.int .i64 x0, Value.int .i64 x1, Value.int .i64 x2, Value.slice a3 n3 c3, Value.int .i64 x4, Value.int .i64 x5, Value.int .i64 x6, Value.int .i64 x7, Value.int .i64 x8, Value.slice a9 n9 c9] 40)).cell? ⟨w.heap.size, 1, none⟩ = some (.int .i64 x1) := by simp [go_sem]
    have u2 : (w.alloc (Obj.cells #[Value.int .i64 x0, Value.int .i64 x1, Value.int .i64 x2, Value.slice a3 n3 c3, Value.int .i64 x4, Value.int .i64 x5, Value.int .i64 x6, Value.int .i64 x7, Value.int .i64 x8, Value.slice a9 n9 c9] 40)).cell? ⟨w.heap.size, 2, none⟩ = some (.int .i64 x2) := by simp [go_sem]
    have u3 : (w.alloc (Obj.cells #[Value.int .i64 x0, Value.int .i64 x1, Value.int .i64 x2, Value.slice a3 n3 c3, Value.int .i64 x4, Value.int .i64 x5, Value.int .i64 x6, Value.int .i64 x7, Value.int .i64 x8, Value.slice a9 n9 c9] 40)).cell? ⟨w.heap.size, 3, none⟩ = some (.slice a3 n3 c3) := by simp [go_sem]
    have u4 : (w.alloc (Obj.cells #[Value.int .i64 x0, Value.int .i64 x1, Value.int .i64 x2, Value.slice a3 n3 c3, Value.int .i64 x4, Value.int .i64 x5, Value.int .i64 x6, Value.int .i64 x7, Value.int .i64 x8, Value.slice a9 n9 c9] 40)).cell? ⟨w.heap.size, 4, none⟩ = some (.int .i64 x4) := by simp [go_sem]
    have u5 : (w.alloc (Obj.cells #[Value.int .i64 x0, Value.int .i64 x1, Value.int .i64 x2, Value.slice a3 n3 c3, Value.int .i64 x4, Value.int .i64 x5, Value.int .i64 x6, Value.int .i64 x7, Value.int .i64 x8, Value.slice a9 n9 c9] 40)).cell? ⟨w.heap.size, 5, none⟩ = some (.int .i64 x5) := by simp [go_sem]
    have u6 : (w.alloc (Obj.cells #[Value.int .i64 x0, Value.int .i64 x1, Value.int .i64 x2, Value.slice a3 n3 c3, Value.int .i64 x4, Value.int .i64 x5, Value.int .i64 x6, Value.int .i64 x7, Value.int .i64 x8, Value.slice a9 n9 c9] 40)).cell? ⟨w.heap.size, 6, none⟩ = some (.int .i64 x6) := by simp [go_sem]
    have u7 : (w.alloc (Obj.cells #[Value.int .i64 x0, Value.int .i64 x1, Value.int .i64 x2, Value.slice a3 n3 c3, Value.int .i64 x4, Value.int .i64 x5, Value.int .i64 x6, Value.int .i64 x7, Value.int .i64 x8, Value.slice a9 n9 c9] 40)).cell? ⟨w.heap.size, 7, none⟩ = some (.int .i64 x7) := by simp [go_sem]
    have u8 : (w.alloc (Obj.cells #[Value.int .i64 x0, Value.int .i64 x1, Value.int .i64 x2, Value.slice a3 n3 c3, Value.int .i64 x4, Value.int .i64 x5, Value.int .i64 x6, Value.int .i64 x7, Value.int .i64 x8, Value.slice a9 n9 c9] 40)).cell? ⟨w.heap.size, 8, none⟩ = some (.int .i64 x8) := by simp [go_sem]
    have u9 : (w.alloc (Obj.cells #[Value.int .i64 x0, Value.int .i64 x1, Value.int .i64 x2, Value.slice a3 n3 c3, Value.int .i64 x4, Value.int .i64 x5, Value.int .i64 x6, Value.int .i64 x7, Value.int .i64 x8, Value.slice a9 n9 c9] 40)).cell? ⟨w.heap.size, 9, none⟩ = some (.slice a9 n9 c9) := by simp [go_sem]
    have HC := Lib.hid (curAS_none HH.out)
    go_enter Try.func28, Try.ntmps28
    go_wp2_with fail
    refine wp_region_wk (fun w' => Mk0 (w.alloc (Obj.cells #[Value.int .i64 x0, Value.int .i64 x1, Value.int .i64 x2, Value.slice a3 n3 c3, Value.int .i64 x4, Value.int .i64 x5, Value.int .i64 x6, Value.int .i64 x7, Value.int .i64 x8, Value.slice a9 n9 c9] 40)) w' ∧ w'.cell? ⟨w.heap.size, 0, none⟩ = some (.int .i64 x0) ∧ w'.cell? ⟨w.heap.size, 1, none⟩ = some (.int .i64 x1) ∧ w'.cell? ⟨w.heap.size, 2, none⟩ = some (.int .i64 x2) ∧ w'.cell? ⟨w.heap.size, 3, none⟩ = some (.slice a3 n3 c3) ∧ w'.cell? ⟨w.heap.size, 4, none⟩ = some (.int .i64 x4) ∧ w'.cell? ⟨w.heap.size, 5, none⟩ = some (.int .i64 x5) ∧ w'.cell? ⟨w.heap.size, 6, none⟩ = some (.int .i64 x6) ∧ w'.cell? ⟨w.heap.size, 7, none⟩ = some (.int .i64 x7) ∧ w'.cell? ⟨w.heap.size, 8, none⟩ = some (.int .i64 x8) ∧ w'.cell? ⟨w.heap.size, 9, none⟩ = some (.slice a9 n9 c9)) (by kernel_rfl) (by kernel_rfl) (⟨Mk.drew1 _, u0, u1, u2, u3, u4, u5, u6, u7, u8, u9⟩) ?_
    change Wk _ _ _ _ 29 0 _
    first | (refine Wk.skip (m := 28) (k := 0) rfl (by rfl) ?_) | (refine Wk.step (m := 28) (k := 0) (v := _) rfl (by rfl) (fun wv hS => by obtain ⟨s0, s1, s2, s3, s4, s5, s6, s7, s8, s9, s10⟩ := hS; go_simp; try with_reducible rfl) ?_)
    try simp only [Act.put, List.getElem_toArray, List.getElem_cons_zero, List.setIfInBounds_toArray, List.set_cons_zero, List.set_cons_succ]
    refine Wk.call (m := 27) (k := 1) (v := .int .i64 (-1)) _ _ rfl (by rfl) (fun wv hS => by obtain ⟨s0, s1, s2, s3, s4, s5, s6, s7, s8, s9, s10⟩ := hS; go_simp; first | done | exact ⟨rfl, rfl⟩ | with_reducible rfl) (fun wv hS => ?_) ?_; · obtain ⟨s0, s1, s2, s3, s4, s5, s6, s7, s8, s9, s10⟩ := hS; have MM := M0.trans s0; refine ((specCurAS x0 x1 x2 x4 x5 x6 x7 x8 a3 n3 c3 z3 a9 n9 c9 B _ (h3.mk MM hB (.inr (Nat.le_refl _))) (Nat.le_trans hB MM.size) hn3)).mono ?_; rintro e w' ⟨he, mm⟩; rw [HC.out] at he; subst he; exact ⟨rfl, s0.trans mm, mm.cellAt s1, mm.cellAt s2, mm.cellAt s3, mm.cellAt s4, mm.cellAt s5, mm.cellAt s6, mm.cellAt s7, mm.cellAt s8, mm.cellAt s9, mm.cellAt s10⟩
    try simp only [Act.put, List.getElem_toArray, List.getElem_cons_succ, List.getElem_cons_zero, List.setIfInBounds_toArray, List.set_cons_zero, List.set_cons_succ]
    first | (refine Wk.skip (m := 26) (k := 2) rfl (by rfl) ?_) | (refine Wk.step (m := 26) (k := 2) (v := _) rfl (by rfl) (fun wv hS => by obtain ⟨s0, s1, s2, s3, s4, s5, s6, s7, s8, s9, s10⟩ := hS; go_simp; try with_reducible rfl) ?_)
    try simp only [Act.put, List.getElem_toArray, List.getElem_cons_succ, List.getElem_cons_zero, List.setIfInBounds_toArray, List.set_cons_zero, List.set_cons_succ]
    first | (refine Wk.skip (m := 25) (k := 3) rfl (by rfl) ?_) | (refine Wk.step (m := 25) (k := 3) (v := _) rfl (by rfl) (fun wv hS => by obtain ⟨s0, s1, s2, s3, s4, s5, s6, s7, s8, s9, s10⟩ := hS; go_simp; try with_reducible rfl) ?_)
    try simp only [Act.put, List.getElem_toArray, List.getElem_cons_succ, List.getElem_cons_zero, List.setIfInBounds_toArray, List.set_cons_zero, List.set_cons_succ]
    first | (refine Wk.skip (m := 24) (k := 4) rfl (by rfl) ?_) | (refine Wk.step (m := 24) (k := 4) (v := _) rfl (by rfl) (fun wv hS => by obtain ⟨s0, s1, s2, s3, s4, s5, s6, s7, s8, s9, s10⟩ := hS; go_simp; try with_reducible rfl) ?_)
    try simp only [Act.put, List.getElem_toArray, List.getElem_cons_succ, List.getElem_cons_zero, List.setIfInBounds_toArray, List.set_cons_zero, List.set_cons_succ]
    first | (refine Wk.skip (m := 23) (k := 5) rfl (by rfl) ?_) | (refine Wk.step (m := 23) (k := 5) (v := _) rfl (by rfl) (fun wv hS => by obtain ⟨s0, s1, s2, s3, s4, s5, s6, s7, s8, s9, s10⟩ := hS; go_simp; try with_reducible rfl) ?_)
    try simp only [Act.put, List.getElem_toArray, List.getElem_cons_succ, List.getElem_cons_zero, List.setIfInBounds_toArray, List.set_cons_zero, List.set_cons_succ]
    first | (refine Wk.skip (m := 22) (k := 6) rfl (by rfl) ?_) | (refine Wk.step (m := 22) (k := 6) (v := _) rfl (by rfl) (fun wv hS => by obtain ⟨s0, s1, s2, s3, s4, s5, s6, s7, s8, s9, s10⟩ := hS; go_simp; try with_reducible rfl) ?_)
    try simp only [Act.put, List.getElem_toArray, List.getElem_cons_succ, List.getElem_cons_zero, List.setIfInBounds_toArray, List.set_cons_zero, List.set_cons_succ]
    first | (refine Wk.skip (m := 21) (k := 7) rfl (by rfl) ?_) | (refine Wk.step (m := 21) (k := 7) (v := _) rfl (by rfl) (fun wv hS => by obtain ⟨s0, s1, s2, s3, s4, s5, s6, s7, s8, s9, s10⟩ := hS; go_simp; try with_reducible rfl) ?_)
    try simp only [Act.put, List.getElem_toArray, List.getElem_cons_succ, List.getElem_cons_zero, List.setIfInBounds_toArray, List.set_cons_zero, List.set_cons_succ]
    first | (refine Wk.skip (m := 20) (k := 8) rfl (by rfl) ?_) | (refine Wk.step (m := 20) (k := 8) (v := _) rfl (by rfl) (fun wv hS => by obtain ⟨s0, s1, s2, s3, s4, s5, s6, s7, s8, s9, s10⟩ := hS; go_simp; try with_reducible rfl) ?_)
    try simp only [Act.put, List.getElem_toArray, List.getElem_cons_succ, List.getElem_cons_zero, List.setIfInBounds_toArray, List.set_cons_zero, List.set_cons_succ]
    first | (refine Wk.skip (m := 19) (k := 9) rfl (by rfl) ?_) | (refine Wk.step (m := 19) (k := 9) (v := _) rfl (by rfl) (fun wv hS => by obtain ⟨s0, s1, s2, s3, s4, s5, s6, s7, s8, s9, s10⟩ := hS; go_simp; try with_reducible rfl) ?_)
    try simp only [Act.put, List.getElem_toArray, List.getElem_cons_succ, List.getElem_cons_zero, List.setIfInBounds_toArray, List.set_cons_zero, List.set_cons_succ]
    first | (refine Wk.skip (m := 18) (k := 10) rfl (by rfl) ?_) | (refine Wk.step (m := 18) (k := 10) (v := _) rfl (by rfl) (fun wv hS => by obtain ⟨s0, s1, s2, s3, s4, s5, s6, s7, s8, s9, s10⟩ := hS; go_simp; try with_reducible rfl) ?_)
    try simp only [Act.put, List.getElem_toArray, List.getElem_cons_succ, List.getElem_cons_zero, List.setIfInBounds_toArray, List.set_cons_zero, List.set_cons_succ]
    first | (refine Wk.skip (m := 17) (k := 11) rfl (by rfl) ?_) | (refine Wk.step (m := 17) (k := 11) (v := _) rfl (by rfl) (fun wv hS => by obtain ⟨s0, s1, s2, s3, s4, s5, s6, s7, s8, s9, s10⟩ := hS; go_simp; try with_reducible rfl) ?_)
    try simp only [Act.put, List.getElem_toArray, List.getElem_cons_succ, List.getElem_cons_zero, List.setIfInBounds_toArray, List.set_cons_zero, List.set_cons_succ]
    first | (refine Wk.skip (m := 16) (k := 12) rfl (by rfl) ?_) | (refine Wk.step (m := 16) (k := 12) (v := _) rfl (by rfl) (fun wv hS => by obtain ⟨s0, s1, s2, s3, s4, s5, s6, s7, s8, s9, s10⟩ := hS; go_simp; try with_reducible rfl) ?_)
    try simp only [Act.put, List.getElem_toArray, List.getElem_cons_succ, List.getElem_cons_zero, List.setIfInBounds_toArray, List.set_cons_zero, List.set_cons_succ]
    first | (refine Wk.skip (m := 15) (k := 13) rfl (by rfl) ?_) | (refine Wk.step (m := 15) (k := 13) (v := _) rfl (by rfl) (fun wv hS => by obtain ⟨s0, s1, s2, s3, s4, s5, s6, s7, s8, s9, s10⟩ := hS; go_simp; try with_reducible rfl) ?_)
    try simp only [Act.put, List.getElem_toArray, List.getElem_cons_succ, List.getElem_cons_zero, List.setIfInBounds_toArray, List.set_cons_zero, List.set_cons_succ]
    first | (refine Wk.skip (m := 14) (k := 14) rfl (by rfl) ?_) | (refine Wk.step (m := 14) (k := 14) (v := _) rfl (by rfl) (fun wv hS => by obtain ⟨s0, s1, s2, s3, s4, s5, s6, s7, s8, s9, s10⟩ := hS; go_simp; try with_reducible rfl) ?_)
    try simp only [Act.put, List.getElem_toArray, List.getElem_cons_succ, List.getElem_cons_zero, List.setIfInBounds_toArray, List.set_cons_zero, List.set_cons_succ]
    first | (refine Wk.skip (m := 13) (k := 15) rfl (by rfl) ?_) | (refine Wk.step (m := 13) (k := 15) (v := _) rfl (by rfl) (fun wv hS => by obtain ⟨s0, s1, s2, s3, s4, s5, s6, s7, s8, s9, s10⟩ := hS; go_simp; try with_reducible rfl) ?_)
    try simp only [Act.put, List.getElem_toArray, List.getElem_cons_succ, List.getElem_cons_zero, List.setIfInBounds_toArray, List.set_cons_zero, List.set_cons_succ]
    first | (refine Wk.skip (m := 12) (k := 16) rfl (by rfl) ?_) | (refine Wk.step (m := 12) (k := 16) (v := _) rfl (by rfl) (fun wv hS => by obtain ⟨s0, s1, s2, s3, s4, s5, s6, s7, s8, s9, s10⟩ := hS; go_simp; try with_reducible rfl) ?_)
    try simp only [Act.put, List.getElem_toArray, List.getElem_cons_succ, List.getElem_cons_zero, List.setIfInBounds_toArray, List.set_cons_zero, List.set_cons_succ]
    first | (refine Wk.skip (m := 11) (k := 17) rfl (by rfl) ?_) | (refine Wk.step (m := 11) (k := 17) (v := _) rfl (by rfl) (fun wv hS => by obtain ⟨s0, s1, s2, s3, s4, s5, s6, s7, s8, s9, s10⟩ := hS; go_simp; try with_reducible rfl) ?_)
    try simp only [Act.put, List.getElem_toArray, List.getElem_cons_succ, List.getElem_cons_zero, List.setIfInBounds_toArray, List.set_cons_zero, List.set_cons_succ]
    first | (refine Wk.skip (m := 10) (k := 18) rfl (by rfl) ?_) | (refine Wk.step (m := 10) (k := 18) (v := _) rfl (by rfl) (fun wv hS => by obtain ⟨s0, s1, s2, s3, s4, s5, s6, s7, s8, s9, s10⟩ := hS; go_simp; try with_reducible rfl) ?_)
    try simp only [Act.put, List.getElem_toArray, List.getElem_cons_succ, List.getElem_cons_zero, List.setIfInBounds_toArray, List.set_cons_zero, List.set_cons_succ]
    first | (refine Wk.skip (m := 9) (k := 19) rfl (by rfl) ?_) | (refine Wk.step (m := 9) (k := 19) (v := _) rfl (by rfl) (fun wv hS => by obtain ⟨s0, s1, s2, s3, s4, s5, s6, s7, s8, s9, s10⟩ := hS; go_simp; try with_reducible rfl) ?_)
    try simp only [Act.put, List.getElem_toArray, List.getElem_cons_succ, List.getElem_cons_zero, List.setIfInBounds_toArray, List.set_cons_zero, List.set_cons_succ]
    first | (refine Wk.skip (m := 8) (k := 20) rfl (by rfl) ?_) | (refine Wk.step (m := 8) (k := 20) (v := _) rfl (by rfl) (fun wv hS => by obtain ⟨s0, s1, s2, s3, s4, s5, s6, s7, s8, s9, s10⟩ := hS; go_simp; try with_reducible rfl) ?_)
    try simp only [Act.put, List.getElem_toArray, List.getElem_cons_succ, List.getElem_cons_zero, List.setIfInBounds_toArray, List.set_cons_zero, List.set_cons_succ]
    first | (refine Wk.skip (m := 7) (k := 21) rfl (by rfl) ?_) | (refine Wk.step (m := 7) (k := 21) (v := _) rfl (by rfl) (fun wv hS => by obtain ⟨s0, s1, s2, s3, s4, s5, s6, s7, s8, s9, s10⟩ := hS; go_simp; try with_reducible rfl) ?_)
    try simp only [Act.put, List.getElem_toArray, List.getElem_cons_succ, List.getElem_cons_zero, List.setIfInBounds_toArray, List.set_cons_zero, List.set_cons_succ]
    first | (refine Wk.skip (m := 6) (k := 22) rfl (by rfl) ?_) | (refine Wk.step (m := 6) (k := 22) (v := _) rfl (by rfl) (fun wv hS => by obtain ⟨s0, s1, s2, s3, s4, s5, s6, s7, s8, s9, s10⟩ := hS; go_simp; try with_reducible rfl) ?_)
    try simp only [Act.put, List.getElem_toArray, List.getElem_cons_succ, List.getElem_cons_zero, List.setIfInBounds_toArray, List.set_cons_zero, List.set_cons_succ]
    first | (refine Wk.skip (m := 5) (k := 23) rfl (by rfl) ?_) | (refine Wk.step (m := 5) (k := 23) (v := _) rfl (by rfl) (fun wv hS => by obtain ⟨s0, s1, s2, s3, s4, s5, s6, s7, s8, s9, s10⟩ := hS; go_simp; try with_reducible rfl) ?_)
    try simp only [Act.put, List.getElem_toArray, List.getElem_cons_succ, List.getElem_cons_zero, List.setIfInBounds_toArray, List.set_cons_zero, List.set_cons_succ]
    first | (refine Wk.skip (m := 4) (k := 24) rfl (by rfl) ?_) | (refine Wk.step (m := 4) (k := 24) (v := _) rfl (by rfl) (fun wv hS => by obtain ⟨s0, s1, s2, s3, s4, s5, s6, s7, s8, s9, s10⟩ := hS; go_simp; try with_reducible rfl) ?_)
    try simp only [Act.put, List.getElem_toArray, List.getElem_cons_succ, List.getElem_cons_zero, List.setIfInBounds_toArray, List.set_cons_zero, List.set_cons_succ]
    first | (refine Wk.skip (m := 3) (k := 25) rfl (by rfl) ?_) | (refine Wk.step (m := 3) (k := 25) (v := _) rfl (by rfl) (fun wv hS => by obtain ⟨s0, s1, s2, s3, s4, s5, s6, s7, s8, s9, s10⟩ := hS; go_simp; try with_reducible rfl) ?_)
    try simp only [Act.put, List.getElem_toArray, List.getElem_cons_succ, List.getElem_cons_zero, List.setIfInBounds_toArray, List.set_cons_zero, List.set_cons_succ]
    first | (refine Wk.skip (m := 2) (k := 26) rfl (by rfl) ?_) | (refine Wk.step (m := 2) (k := 26) (v := _) rfl (by rfl) (fun wv hS => by obtain ⟨s0, s1, s2, s3, s4, s5, s6, s7, s8, s9, s10⟩ := hS; go_simp; try with_reducible rfl) ?_)
    try simp only [Act.put, List.getElem_toArray, List.getElem_cons_succ, List.getElem_cons_zero, List.setIfInBounds_toArray, List.set_cons_zero, List.set_cons_succ]
    first | (refine Wk.skip (m := 1) (k := 27) rfl (by rfl) ?_) | (refine Wk.step (m := 1) (k := 27) (v := _) rfl (by rfl) (fun wv hS => by obtain ⟨s0, s1, s2, s3, s4, s5, s6, s7, s8, s9, s10⟩ := hS; go_simp; try with_reducible rfl) ?_)
    try simp only [Act.put, List.getElem_toArray, List.getElem_cons_succ, List.getElem_cons_zero, List.setIfInBounds_toArray, List.set_cons_zero, List.set_cons_succ]
    first | (refine Wk.skip (m := 0) (k := 28) rfl (by rfl) ?_) | (refine Wk.step (m := 0) (k := 28) (v := _) rfl (by rfl) (fun wv hS => by obtain ⟨s0, s1, s2, s3, s4, s5, s6, s7, s8, s9, s10⟩ := hS; go_simp; try with_reducible rfl) ?_)
    try simp only [Act.put, List.getElem_toArray, List.getElem_cons_succ, List.getElem_cons_zero, List.setIfInBounds_toArray, List.set_cons_zero, List.set_cons_succ]
    refine Wk.done fun wE hE => ?_
    clear u0 u1 u2 u3 u4 u5 u6 u7 u8 u9
    obtain ⟨mE, u0, u1, u2, u3, u4, u5, u6, u7, u8, u9⟩ := hE
    go_wp2_with fail
    go_ret
    exact ⟨retB (atLast_neg (by rw [curAS_none HH.out]; decide)).symm, M0.trans mE⟩

end Go.Proofs.Ytbjfcjjfhnjaiaa
