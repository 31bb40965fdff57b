
/- JoinThree of the program. -/
import Derived.Test.YtbkbkpnpllemfaaPathOf
namespace Go.Proofs.Ytbkbkpnpllemfaa
open Go.ChangeShapes Go.WideShapes Go.ChangeAt Go.RowKit
set_option linter.unusedVariables false
def j3k (b : Bool) : Int := match b with | true => 3 | false => 2
theorem hasR3 (w : World) (e : TypeId) (g0 g1 g2 : HPathPart) : HasR 4 HPathPart.cell (w.alloc (.cells #[.int .i64 g0.kind, .int .i64 g0.ts, .int .i64 g0.beta, .slice g0.a g0.n g0.c, .int .i64 g1.kind, .int .i64 g1.ts, .int .i64 g1.beta, .slice g1.a g1.n g1.c, .int .i64 g2.kind, .int .i64 g2.ts, .int .i64 g2.beta, .slice g2.a g2.n g2.c] e)) (w.alloc (.cells #[.int .i64 g0.kind, .int .i64 g0.ts, .int .i64 g0.beta, .slice g0.a g0.n g0.c, .int .i64 g1.kind, .int .i64 g1.ts, .int .i64 g1.beta, .slice g1.a g1.n g1.c, .int .i64 g2.kind, .int .i64 g2.ts, .int .i64 g2.beta, .slice g2.a g2.n g2.c] e)).heap.size (some ⟨w.heap.size, 0, none⟩) 3 [g0, g1, g2] := by
  refine ⟨rfl, fun _ => ⟨_, 0, rfl, by rw [World.size_alloc]; omega, fun j hj => ?_⟩⟩
  rw [Nat.zero_add, World.cell?_alloc_at _ _ _ _ rfl]
  match j, hj with
  | 0, _ => rfl
  | 1, _ => rfl
  | 2, _ => rfl
  | 3, _ => rfl
  | 4, _ => rfl
  | 5, _ => rfl
  | 6, _ => rfl
  | 7, _ => rfl
  | 8, _ => rfl
  | 9, _ => rfl
  | 10, _ => rfl
  | 11, _ => rfl
set_option maxRecDepth 100000 in
set_option maxHeartbeats 4000000 in
theorem partOf3 (x1 y1 : Int) (a1 : Option Addr) (n1 c1 B1 : Nat) (z1 : List THop) (bb : Bool) (w : World) (h1 : HasHop w B1 a1 n1 z1) (hB1 : B1 ≤ w.heap.size) (hn1 : n1 ≤ 1048576) (hc1 : a1 = none → c1 = 0) (hk1 : n1 ≤ c1) :
    Calls Try.prog 60 #[.agg #[.int .i64 x1, .int .i64 y1, .slice a1 n1 c1, .bool bb]] w (OutCPathPart (cnd (mpB n1 (j3k bb) 0) (j3k bb)) (cnd (mpB n1 (j3k bb) 0) x1) (cnd (mpB n1 (j3k bb) 0) (mpBeta y1 z1 n1 (j3k bb) 0)) (mpRow z1 n1 (j3k bb) 0) w) := by
  have M0 : Mk0 w ((w.alloc (Obj.cells #[Value.int .i64 x1, Value.int .i64 y1, Value.slice a1 n1 c1, Value.bool bb] 82)).alloc (Obj.cells #[Value.int .i64 0, Value.int .i64 0, Value.int .i64 0, Value.slice none 0 0] 35)) := ((Mk.alloc w (Obj.cells #[Value.int .i64 x1, Value.int .i64 y1, Value.slice a1 n1 c1, Value.bool bb] 82)).new (Obj.cells #[Value.int .i64 0, Value.int .i64 0, Value.int .i64 0, Value.slice none 0 0] 35))
  have k0 : ((w.alloc (Obj.cells #[Value.int .i64 x1, Value.int .i64 y1, Value.slice a1 n1 c1, Value.bool bb] 82)).alloc (Obj.cells #[Value.int .i64 0, Value.int .i64 0, Value.int .i64 0, Value.slice none 0 0] 35)).cell? ⟨w.heap.size, 0, none⟩ = some (.int .i64 x1) := by simp [go_sem]
  have k1 : ((w.alloc (Obj.cells #[Value.int .i64 x1, Value.int .i64 y1, Value.slice a1 n1 c1, Value.bool bb] 82)).alloc (Obj.cells #[Value.int .i64 0, Value.int .i64 0, Value.int .i64 0, Value.slice none 0 0] 35)).cell? ⟨w.heap.size, 1, none⟩ = some (.int .i64 y1) := by simp [go_sem]
  have k2 : ((w.alloc (Obj.cells #[Value.int .i64 x1, Value.int .i64 y1, Value.slice a1 n1 c1, Value.bool bb] 82)).alloc (Obj.cells #[Value.int .i64 0, Value.int .i64 0, Value.int .i64 0, Value.slice none 0 0] 35)).cell? ⟨w.heap.size, 2, none⟩ = some (.slice a1 n1 c1) := by simp [go_sem]
  have k3 : ((w.alloc (Obj.cells #[Value.int .i64 x1, Value.int .i64 y1, Value.slice a1 n1 c1, Value.bool bb] 82)).alloc (Obj.cells #[Value.int .i64 0, Value.int .i64 0, Value.int .i64 0, Value.slice none 0 0] 35)).cell? ⟨w.heap.size, 3, none⟩ = some (.bool bb) := by simp [go_sem]
  have r0 : ((w.alloc (Obj.cells #[Value.int .i64 x1, Value.int .i64 y1, Value.slice a1 n1 c1, Value.bool bb] 82)).alloc (Obj.cells #[Value.int .i64 0, Value.int .i64 0, Value.int .i64 0, Value.slice none 0 0] 35)).cell? ⟨w.heap.size + 1, 0, none⟩ = some (.int .i64 0) := by simp [go_sem]
  have r1 : ((w.alloc (Obj.cells #[Value.int .i64 x1, Value.int .i64 y1, Value.slice a1 n1 c1, Value.bool bb] 82)).alloc (Obj.cells #[Value.int .i64 0, Value.int .i64 0, Value.int .i64 0, Value.slice none 0 0] 35)).cell? ⟨w.heap.size + 1, 1, none⟩ = some (.int .i64 0) := by simp [go_sem]
  have r2 : ((w.alloc (Obj.cells #[Value.int .i64 x1, Value.int .i64 y1, Value.slice a1 n1 c1, Value.bool bb] 82)).alloc (Obj.cells #[Value.int .i64 0, Value.int .i64 0, Value.int .i64 0, Value.slice none 0 0] 35)).cell? ⟨w.heap.size + 1, 2, none⟩ = some (.int .i64 0) := by simp [go_sem]
  have r3 : ((w.alloc (Obj.cells #[Value.int .i64 x1, Value.int .i64 y1, Value.slice a1 n1 c1, Value.bool bb] 82)).alloc (Obj.cells #[Value.int .i64 0, Value.int .i64 0, Value.int .i64 0, Value.slice none 0 0] 35)).cell? ⟨w.heap.size + 1, 3, none⟩ = some (.slice none 0 0) := by simp [go_sem]
  have hs0 : ((w.alloc (Obj.cells #[Value.int .i64 x1, Value.int .i64 y1, Value.slice a1 n1 c1, Value.bool bb] 82)).alloc (Obj.cells #[Value.int .i64 0, Value.int .i64 0, Value.int .i64 0, Value.slice none 0 0] 35)).heap.size = w.heap.size + 1 + 1 := by simp only [World.size_alloc]
  have fR : ∀ q, ((w.alloc (Obj.cells #[Value.int .i64 x1, Value.int .i64 y1, Value.slice a1 n1 c1, Value.bool bb] 82)).alloc (Obj.cells #[Value.int .i64 0, Value.int .i64 0, Value.int .i64 0, Value.slice none 0 0] 35)).frozen? ⟨w.heap.size + 1, q, none⟩ = false := fun q => by simp [go_sem]
  cases bb
  · go_enter Try.func60, Try.ntmps60
    go_wp2_with fail
    generalize ((w.alloc (Obj.cells #[Value.int .i64 x1, Value.int .i64 y1, Value.slice a1 n1 c1, Value.bool false] 82)).alloc (Obj.cells #[Value.int .i64 0, Value.int .i64 0, Value.int .i64 0, Value.slice none 0 0] 35)) = wb at *
    refine (implMkP x1 y1 a1 n1 c1 B1 z1 2 0 wb (h1.mk M0 hB1 (.inr (Nat.le_refl _))) (Nat.le_trans hB1 (M0).size) hn1 hc1 hk1).mono ?_
    rintro e w2 ⟨A, N, C, rfl, hc, hO, m2⟩
    replace r0 := m2.cellAt r0
    replace r1 := m2.cellAt r1
    replace r2 := m2.cellAt r2
    replace r3 := m2.cellAt r3
    replace fR := fun q => (m2.frozen (b := w.heap.size + 1) (o := q) (by omega) (.inr (Nat.zero_le _))).trans (fR q)
    have M := M0.trans m2
    go_wp2_with fail
    replace r0 := World.cell?_setCell_same _ _ (.int .i64 (cnd (mpB n1 2 0) 2)) r0
    replace r1 := cell_set r1 ⟨w.heap.size + 1, 0, none⟩ (.int .i64 (cnd (mpB n1 2 0) 2)) (.inr (by simp))
    replace r2 := cell_set r2 ⟨w.heap.size + 1, 0, none⟩ (.int .i64 (cnd (mpB n1 2 0) 2)) (.inr (by simp))
    replace r3 := cell_set r3 ⟨w.heap.size + 1, 0, none⟩ (.int .i64 (cnd (mpB n1 2 0) 2)) (.inr (by simp))
    replace hO := hO.set ⟨w.heap.size + 1, 0, none⟩ (.int .i64 (cnd (mpB n1 2 0) 2)) (.inl (show w.heap.size + 1 < _ from by omega))
    replace M := M.put ⟨w.heap.size + 1, 0, none⟩ (.int .i64 (cnd (mpB n1 2 0) 2)) (show w.heap.size ≤ w.heap.size + 1 from by omega)
    replace r0 := cell_set r0 ⟨w.heap.size + 1, 1, none⟩ (.int .i64 (cnd (mpB n1 2 0) x1)) (.inr (by simp))
    replace r1 := World.cell?_setCell_same _ _ (.int .i64 (cnd (mpB n1 2 0) x1)) r1
    replace r2 := cell_set r2 ⟨w.heap.size + 1, 1, none⟩ (.int .i64 (cnd (mpB n1 2 0) x1)) (.inr (by simp))
    replace r3 := cell_set r3 ⟨w.heap.size + 1, 1, none⟩ (.int .i64 (cnd (mpB n1 2 0) x1)) (.inr (by simp))
    replace hO := hO.set ⟨w.heap.size + 1, 1, none⟩ (.int .i64 (cnd (mpB n1 2 0) x1)) (.inl (show w.heap.size + 1 < _ from by omega))
    replace M := M.put ⟨w.heap.size + 1, 1, none⟩ (.int .i64 (cnd (mpB n1 2 0) x1)) (show w.heap.size ≤ w.heap.size + 1 from by omega)
    replace r0 := cell_set r0 ⟨w.heap.size + 1, 2, none⟩ (.int .i64 (cnd (mpB n1 2 0) (mpBeta y1 z1 n1 2 0))) (.inr (by simp))
    replace r1 := cell_set r1 ⟨w.heap.size + 1, 2, none⟩ (.int .i64 (cnd (mpB n1 2 0) (mpBeta y1 z1 n1 2 0))) (.inr (by simp))
    replace r2 := World.cell?_setCell_same _ _ (.int .i64 (cnd (mpB n1 2 0) (mpBeta y1 z1 n1 2 0))) r2
    replace r3 := cell_set r3 ⟨w.heap.size + 1, 2, none⟩ (.int .i64 (cnd (mpB n1 2 0) (mpBeta y1 z1 n1 2 0))) (.inr (by simp))
    replace hO := hO.set ⟨w.heap.size + 1, 2, none⟩ (.int .i64 (cnd (mpB n1 2 0) (mpBeta y1 z1 n1 2 0))) (.inl (show w.heap.size + 1 < _ from by omega))
    replace M := M.put ⟨w.heap.size + 1, 2, none⟩ (.int .i64 (cnd (mpB n1 2 0) (mpBeta y1 z1 n1 2 0))) (show w.heap.size ≤ w.heap.size + 1 from by omega)
    replace r0 := cell_set r0 ⟨w.heap.size + 1, 3, none⟩ (.slice A N C) (.inr (by simp))
    replace r1 := cell_set r1 ⟨w.heap.size + 1, 3, none⟩ (.slice A N C) (.inr (by simp))
    replace r2 := cell_set r2 ⟨w.heap.size + 1, 3, none⟩ (.slice A N C) (.inr (by simp))
    replace r3 := World.cell?_setCell_same _ _ (.slice A N C) r3
    replace hO := hO.set ⟨w.heap.size + 1, 3, none⟩ (.slice A N C) (.inl (show w.heap.size + 1 < _ from by omega))
    replace M := M.put ⟨w.heap.size + 1, 3, none⟩ (.slice A N C) (show w.heap.size ≤ w.heap.size + 1 from by omega)
    have zF : ((((w2.setCell ⟨w.heap.size + 1, 0, none⟩ (.int .i64 (cnd (mpB n1 2 0) 2))).setCell ⟨w.heap.size + 1, 1, none⟩ (.int .i64 (cnd (mpB n1 2 0) x1))).setCell ⟨w.heap.size + 1, 2, none⟩ (.int .i64 (cnd (mpB n1 2 0) (mpBeta y1 z1 n1 2 0)))).setCell ⟨w.heap.size + 1, 3, none⟩ (.slice A N C)).heap.size = w2.heap.size := by simp only [World.size_set]
    generalize ((((w2.setCell ⟨w.heap.size + 1, 0, none⟩ (.int .i64 (cnd (mpB n1 2 0) 2))).setCell ⟨w.heap.size + 1, 1, none⟩ (.int .i64 (cnd (mpB n1 2 0) x1))).setCell ⟨w.heap.size + 1, 2, none⟩ (.int .i64 (cnd (mpB n1 2 0) (mpBeta y1 z1 n1 2 0)))).setCell ⟨w.heap.size + 1, 3, none⟩ (.slice A N C)) = WF at *
    refine bodyPost_ret (v := .agg #[.int .i64 (cnd (mpB n1 2 0) 2), .int .i64 (cnd (mpB n1 2 0) x1), .int .i64 (cnd (mpB n1 2 0) (mpBeta y1 z1 n1 2 0)), .slice A N C]) (by simp [results, Try.results60, go_sem, r0, r1, r2, r3]) rfl ?_
    exact ⟨A, N, C, rfl, hc, hO.wide (by omega) (by omega), M⟩
  · go_enter Try.func60, Try.ntmps60
    go_wp2_with fail
    generalize ((w.alloc (Obj.cells #[Value.int .i64 x1, Value.int .i64 y1, Value.slice a1 n1 c1, Value.bool true] 82)).alloc (Obj.cells #[Value.int .i64 0, Value.int .i64 0, Value.int .i64 0, Value.slice none 0 0] 35)) = wb at *
    refine (implMkP x1 y1 a1 n1 c1 B1 z1 3 0 wb (h1.mk M0 hB1 (.inr (Nat.le_refl _))) (Nat.le_trans hB1 (M0).size) hn1 hc1 hk1).mono ?_
    rintro e w2 ⟨A, N, C, rfl, hc, hO, m2⟩
    replace r0 := m2.cellAt r0
    replace r1 := m2.cellAt r1
    replace r2 := m2.cellAt r2
    replace r3 := m2.cellAt r3
    replace fR := fun q => (m2.frozen (b := w.heap.size + 1) (o := q) (by omega) (.inr (Nat.zero_le _))).trans (fR q)
    have M := M0.trans m2
    go_wp2_with fail
    replace r0 := World.cell?_setCell_same _ _ (.int .i64 (cnd (mpB n1 3 0) 3)) r0
    replace r1 := cell_set r1 ⟨w.heap.size + 1, 0, none⟩ (.int .i64 (cnd (mpB n1 3 0) 3)) (.inr (by simp))
    replace r2 := cell_set r2 ⟨w.heap.size + 1, 0, none⟩ (.int .i64 (cnd (mpB n1 3 0) 3)) (.inr (by simp))
    replace r3 := cell_set r3 ⟨w.heap.size + 1, 0, none⟩ (.int .i64 (cnd (mpB n1 3 0) 3)) (.inr (by simp))
    replace hO := hO.set ⟨w.heap.size + 1, 0, none⟩ (.int .i64 (cnd (mpB n1 3 0) 3)) (.inl (show w.heap.size + 1 < _ from by omega))
    replace M := M.put ⟨w.heap.size + 1, 0, none⟩ (.int .i64 (cnd (mpB n1 3 0) 3)) (show w.heap.size ≤ w.heap.size + 1 from by omega)
    replace r0 := cell_set r0 ⟨w.heap.size + 1, 1, none⟩ (.int .i64 (cnd (mpB n1 3 0) x1)) (.inr (by simp))
    replace r1 := World.cell?_setCell_same _ _ (.int .i64 (cnd (mpB n1 3 0) x1)) r1
    replace r2 := cell_set r2 ⟨w.heap.size + 1, 1, none⟩ (.int .i64 (cnd (mpB n1 3 0) x1)) (.inr (by simp))
    replace r3 := cell_set r3 ⟨w.heap.size + 1, 1, none⟩ (.int .i64 (cnd (mpB n1 3 0) x1)) (.inr (by simp))
    replace hO := hO.set ⟨w.heap.size + 1, 1, none⟩ (.int .i64 (cnd (mpB n1 3 0) x1)) (.inl (show w.heap.size + 1 < _ from by omega))
    replace M := M.put ⟨w.heap.size + 1, 1, none⟩ (.int .i64 (cnd (mpB n1 3 0) x1)) (show w.heap.size ≤ w.heap.size + 1 from by omega)
    replace r0 := cell_set r0 ⟨w.heap.size + 1, 2, none⟩ (.int .i64 (cnd (mpB n1 3 0) (mpBeta y1 z1 n1 3 0))) (.inr (by simp))
    replace r1 := cell_set r1 ⟨w.heap.size + 1, 2, none⟩ (.int .i64 (cnd (mpB n1 3 0) (mpBeta y1 z1 n1 3 0))) (.inr (by simp))
    replace r2 := World.cell?_setCell_same _ _ (.int .i64 (cnd (mpB n1 3 0) (mpBeta y1 z1 n1 3 0))) r2
    replace r3 := cell_set r3 ⟨w.heap.size + 1, 2, none⟩ (.int .i64 (cnd (mpB n1 3 0) (mpBeta y1 z1 n1 3 0))) (.inr (by simp))
    replace hO := hO.set ⟨w.heap.size + 1, 2, none⟩ (.int .i64 (cnd (mpB n1 3 0) (mpBeta y1 z1 n1 3 0))) (.inl (show w.heap.size + 1 < _ from by omega))
    replace M := M.put ⟨w.heap.size + 1, 2, none⟩ (.int .i64 (cnd (mpB n1 3 0) (mpBeta y1 z1 n1 3 0))) (show w.heap.size ≤ w.heap.size + 1 from by omega)
    replace r0 := cell_set r0 ⟨w.heap.size + 1, 3, none⟩ (.slice A N C) (.inr (by simp))
    replace r1 := cell_set r1 ⟨w.heap.size + 1, 3, none⟩ (.slice A N C) (.inr (by simp))
    replace r2 := cell_set r2 ⟨w.heap.size + 1, 3, none⟩ (.slice A N C) (.inr (by simp))
    replace r3 := World.cell?_setCell_same _ _ (.slice A N C) r3
    replace hO := hO.set ⟨w.heap.size + 1, 3, none⟩ (.slice A N C) (.inl (show w.heap.size + 1 < _ from by omega))
    replace M := M.put ⟨w.heap.size + 1, 3, none⟩ (.slice A N C) (show w.heap.size ≤ w.heap.size + 1 from by omega)
    have zF : ((((w2.setCell ⟨w.heap.size + 1, 0, none⟩ (.int .i64 (cnd (mpB n1 3 0) 3))).setCell ⟨w.heap.size + 1, 1, none⟩ (.int .i64 (cnd (mpB n1 3 0) x1))).setCell ⟨w.heap.size + 1, 2, none⟩ (.int .i64 (cnd (mpB n1 3 0) (mpBeta y1 z1 n1 3 0)))).setCell ⟨w.heap.size + 1, 3, none⟩ (.slice A N C)).heap.size = w2.heap.size := by simp only [World.size_set]
    generalize ((((w2.setCell ⟨w.heap.size + 1, 0, none⟩ (.int .i64 (cnd (mpB n1 3 0) 3))).setCell ⟨w.heap.size + 1, 1, none⟩ (.int .i64 (cnd (mpB n1 3 0) x1))).setCell ⟨w.heap.size + 1, 2, none⟩ (.int .i64 (cnd (mpB n1 3 0) (mpBeta y1 z1 n1 3 0)))).setCell ⟨w.heap.size + 1, 3, none⟩ (.slice A N C)) = WF at *
    refine bodyPost_ret (v := .agg #[.int .i64 (cnd (mpB n1 3 0) 3), .int .i64 (cnd (mpB n1 3 0) x1), .int .i64 (cnd (mpB n1 3 0) (mpBeta y1 z1 n1 3 0)), .slice A N C]) (by simp [results, Try.results60, go_sem, r0, r1, r2, r3]) rfl ?_
    exact ⟨A, N, C, rfl, hc, hO.wide (by omega) (by omega), M⟩

set_option maxRecDepth 100000 in
set_option maxHeartbeats 16000000 in
theorem implJ3 (x0 y0 : Int) (a0 : Option Addr) (n0 c0 B0 : Nat) (z0 : List THop) (x1 y1 : Int) (a1 : Option Addr) (n1 c1 B1 : Nat) (z1 : List THop) (x3 y3 : Int) (a3 : Option Addr) (n3 c3 B3 : Nat) (z3 : List THop) (bb : Bool) (w : World) (h0 : HasHop w B0 a0 n0 z0) (hB0 : B0 ≤ w.heap.size) (hn0 : n0 ≤ 1048576) (hc0 : a0 = none → c0 = 0) (hk0 : n0 ≤ c0) (h1 : HasHop w B1 a1 n1 z1) (hB1 : B1 ≤ w.heap.size) (hn1 : n1 ≤ 1048576) (hc1 : a1 = none → c1 = 0) (hk1 : n1 ≤ c1) (h3 : HasHop w B3 a3 n3 z3) (hB3 : B3 ≤ w.heap.size) (hn3 : n3 ≤ 1048576) (hc3 : a3 = none → c3 = 0) (hk3 : n3 ≤ c3) :
    Calls Try.prog 27 #[.agg #[.int .i64 x0, .int .i64 y0, .slice a0 n0 c0], .agg #[.int .i64 x1, .int .i64 y1, .slice a1 n1 c1], .bool bb, .agg #[.int .i64 x3, .int .i64 y3, .slice a3 n3 c3]] w (OutNPath (addIf (decide (0 < n3)) (addIf (decide (0 < n1)) (addIf (decide (0 < n0)) [] (mpEl x0 y0 z0 n0 1 0)) (mpEl x1 y1 z1 n1 (j3k bb) 0)) (mpEl x3 y3 z3 n3 4 0)) w) := by
  have M0 : Mk0 w ((((w.alloc (Obj.cells #[Value.int .i64 x0, Value.int .i64 y0, Value.slice a0 n0 c0] 28)).alloc (Obj.cells #[Value.int .i64 x1, Value.int .i64 y1, Value.slice a1 n1 c1] 28)).alloc (Obj.cells #[Value.int .i64 x3, Value.int .i64 y3, Value.slice a3 n3 c3] 28)).alloc (Obj.cells #[Value.slice none 0 0] 42)) := ((((Mk.alloc w (Obj.cells #[Value.int .i64 x0, Value.int .i64 y0, Value.slice a0 n0 c0] 28)).new (Obj.cells #[Value.int .i64 x1, Value.int .i64 y1, Value.slice a1 n1 c1] 28)).new (Obj.cells #[Value.int .i64 x3, Value.int .i64 y3, Value.slice a3 n3 c3] 28)).new (Obj.cells #[Value.slice none 0 0] 42))
  have k0 : ((((w.alloc (Obj.cells #[Value.int .i64 x0, Value.int .i64 y0, Value.slice a0 n0 c0] 28)).alloc (Obj.cells #[Value.int .i64 x1, Value.int .i64 y1, Value.slice a1 n1 c1] 28)).alloc (Obj.cells #[Value.int .i64 x3, Value.int .i64 y3, Value.slice a3 n3 c3] 28)).alloc (Obj.cells #[Value.slice none 0 0] 42)).cell? ⟨w.heap.size, 0, none⟩ = some (.int .i64 x0) := by simp [go_sem]
  have k1 : ((((w.alloc (Obj.cells #[Value.int .i64 x0, Value.int .i64 y0, Value.slice a0 n0 c0] 28)).alloc (Obj.cells #[Value.int .i64 x1, Value.int .i64 y1, Value.slice a1 n1 c1] 28)).alloc (Obj.cells #[Value.int .i64 x3, Value.int .i64 y3, Value.slice a3 n3 c3] 28)).alloc (Obj.cells #[Value.slice none 0 0] 42)).cell? ⟨w.heap.size, 1, none⟩ = some (.int .i64 y0) := by simp [go_sem]
  have k2 : ((((w.alloc (Obj.cells #[Value.int .i64 x0, Value.int .i64 y0, Value.slice a0 n0 c0] 28)).alloc (Obj.cells #[Value.int .i64 x1, Value.int .i64 y1, Value.slice a1 n1 c1] 28)).alloc (Obj.cells #[Value.int .i64 x3, Value.int .i64 y3, Value.slice a3 n3 c3] 28)).alloc (Obj.cells #[Value.slice none 0 0] 42)).cell? ⟨w.heap.size, 2, none⟩ = some (.slice a0 n0 c0) := by simp [go_sem]
  have l0 : ((((w.alloc (Obj.cells #[Value.int .i64 x0, Value.int .i64 y0, Value.slice a0 n0 c0] 28)).alloc (Obj.cells #[Value.int .i64 x1, Value.int .i64 y1, Value.slice a1 n1 c1] 28)).alloc (Obj.cells #[Value.int .i64 x3, Value.int .i64 y3, Value.slice a3 n3 c3] 28)).alloc (Obj.cells #[Value.slice none 0 0] 42)).cell? ⟨w.heap.size + 1, 0, none⟩ = some (.int .i64 x1) := by simp [go_sem]
  have l1 : ((((w.alloc (Obj.cells #[Value.int .i64 x0, Value.int .i64 y0, Value.slice a0 n0 c0] 28)).alloc (Obj.cells #[Value.int .i64 x1, Value.int .i64 y1, Value.slice a1 n1 c1] 28)).alloc (Obj.cells #[Value.int .i64 x3, Value.int .i64 y3, Value.slice a3 n3 c3] 28)).alloc (Obj.cells #[Value.slice none 0 0] 42)).cell? ⟨w.heap.size + 1, 1, none⟩ = some (.int .i64 y1) := by simp [go_sem]
  have l2 : ((((w.alloc (Obj.cells #[Value.int .i64 x0, Value.int .i64 y0, Value.slice a0 n0 c0] 28)).alloc (Obj.cells #[Value.int .i64 x1, Value.int .i64 y1, Value.slice a1 n1 c1] 28)).alloc (Obj.cells #[Value.int .i64 x3, Value.int .i64 y3, Value.slice a3 n3 c3] 28)).alloc (Obj.cells #[Value.slice none 0 0] 42)).cell? ⟨w.heap.size + 1, 2, none⟩ = some (.slice a1 n1 c1) := by simp [go_sem]
  have j0 : ((((w.alloc (Obj.cells #[Value.int .i64 x0, Value.int .i64 y0, Value.slice a0 n0 c0] 28)).alloc (Obj.cells #[Value.int .i64 x1, Value.int .i64 y1, Value.slice a1 n1 c1] 28)).alloc (Obj.cells #[Value.int .i64 x3, Value.int .i64 y3, Value.slice a3 n3 c3] 28)).alloc (Obj.cells #[Value.slice none 0 0] 42)).cell? ⟨w.heap.size + 1 + 1, 0, none⟩ = some (.int .i64 x3) := by simp [go_sem]
  have j1 : ((((w.alloc (Obj.cells #[Value.int .i64 x0, Value.int .i64 y0, Value.slice a0 n0 c0] 28)).alloc (Obj.cells #[Value.int .i64 x1, Value.int .i64 y1, Value.slice a1 n1 c1] 28)).alloc (Obj.cells #[Value.int .i64 x3, Value.int .i64 y3, Value.slice a3 n3 c3] 28)).alloc (Obj.cells #[Value.slice none 0 0] 42)).cell? ⟨w.heap.size + 1 + 1, 1, none⟩ = some (.int .i64 y3) := by simp [go_sem]
  have j2 : ((((w.alloc (Obj.cells #[Value.int .i64 x0, Value.int .i64 y0, Value.slice a0 n0 c0] 28)).alloc (Obj.cells #[Value.int .i64 x1, Value.int .i64 y1, Value.slice a1 n1 c1] 28)).alloc (Obj.cells #[Value.int .i64 x3, Value.int .i64 y3, Value.slice a3 n3 c3] 28)).alloc (Obj.cells #[Value.slice none 0 0] 42)).cell? ⟨w.heap.size + 1 + 1, 2, none⟩ = some (.slice a3 n3 c3) := by simp [go_sem]
  have r0 : ((((w.alloc (Obj.cells #[Value.int .i64 x0, Value.int .i64 y0, Value.slice a0 n0 c0] 28)).alloc (Obj.cells #[Value.int .i64 x1, Value.int .i64 y1, Value.slice a1 n1 c1] 28)).alloc (Obj.cells #[Value.int .i64 x3, Value.int .i64 y3, Value.slice a3 n3 c3] 28)).alloc (Obj.cells #[Value.slice none 0 0] 42)).cell? ⟨w.heap.size + 1 + 1 + 1, 0, none⟩ = some (.slice none 0 0) := by simp [go_sem]
  have hs0 : ((((w.alloc (Obj.cells #[Value.int .i64 x0, Value.int .i64 y0, Value.slice a0 n0 c0] 28)).alloc (Obj.cells #[Value.int .i64 x1, Value.int .i64 y1, Value.slice a1 n1 c1] 28)).alloc (Obj.cells #[Value.int .i64 x3, Value.int .i64 y3, Value.slice a3 n3 c3] 28)).alloc (Obj.cells #[Value.slice none 0 0] 42)).heap.size = w.heap.size + 1 + 1 + 1 + 1 := by simp only [World.size_alloc]
  have fR : ∀ q, ((((w.alloc (Obj.cells #[Value.int .i64 x0, Value.int .i64 y0, Value.slice a0 n0 c0] 28)).alloc (Obj.cells #[Value.int .i64 x1, Value.int .i64 y1, Value.slice a1 n1 c1] 28)).alloc (Obj.cells #[Value.int .i64 x3, Value.int .i64 y3, Value.slice a3 n3 c3] 28)).alloc (Obj.cells #[Value.slice none 0 0] 42)).frozen? ⟨w.heap.size + 1 + 1 + 1, q, none⟩ = false := fun q => by simp [go_sem]
  have bl0 := h0.1
  have bl1 := h1.1
  have bl3 := h3.1
  have hl0 : (mpRow z0 n0 1 0).length = n0 := mpRow_len0 _ _ _ h0.1 (by decide)
  have hl1 : (mpRow z1 n1 (j3k bb) 0).length = n1 := mpRow_len0 _ _ _ h1.1 (by cases bb <;> decide)
  have hl3 : (mpRow z3 n3 4 0).length = n3 := mpRow_len0 _ _ _ h3.1 (by decide)
  go_enter Try.func27, Try.ntmps27
  go_wp2_with fail
  have u0 : (((((w.alloc (Obj.cells #[Value.int .i64 x0, Value.int .i64 y0, Value.slice a0 n0 c0] 28)).alloc (Obj.cells #[Value.int .i64 x1, Value.int .i64 y1, Value.slice a1 n1 c1] 28)).alloc (Obj.cells #[Value.int .i64 x3, Value.int .i64 y3, Value.slice a3 n3 c3] 28)).alloc (Obj.cells #[Value.slice none 0 0] 42)).alloc (Obj.cells #[Value.int .i64 x1, Value.int .i64 y1, Value.slice a1 n1 c1, Value.bool bb] 82)).cell? ⟨w.heap.size + 1 + 1 + 1 + 1, 0, none⟩ = some (.int .i64 x1) := by simp [go_sem]
  have u1 : (((((w.alloc (Obj.cells #[Value.int .i64 x0, Value.int .i64 y0, Value.slice a0 n0 c0] 28)).alloc (Obj.cells #[Value.int .i64 x1, Value.int .i64 y1, Value.slice a1 n1 c1] 28)).alloc (Obj.cells #[Value.int .i64 x3, Value.int .i64 y3, Value.slice a3 n3 c3] 28)).alloc (Obj.cells #[Value.slice none 0 0] 42)).alloc (Obj.cells #[Value.int .i64 x1, Value.int .i64 y1, Value.slice a1 n1 c1, Value.bool bb] 82)).cell? ⟨w.heap.size + 1 + 1 + 1 + 1, 1, none⟩ = some (.int .i64 y1) := by simp [go_sem]
  have u2 : (((((w.alloc (Obj.cells #[Value.int .i64 x0, Value.int .i64 y0, Value.slice a0 n0 c0] 28)).alloc (Obj.cells #[Value.int .i64 x1, Value.int .i64 y1, Value.slice a1 n1 c1] 28)).alloc (Obj.cells #[Value.int .i64 x3, Value.int .i64 y3, Value.slice a3 n3 c3] 28)).alloc (Obj.cells #[Value.slice none 0 0] 42)).alloc (Obj.cells #[Value.int .i64 x1, Value.int .i64 y1, Value.slice a1 n1 c1, Value.bool bb] 82)).cell? ⟨w.heap.size + 1 + 1 + 1 + 1, 2, none⟩ = some (.slice a1 n1 c1) := by simp [go_sem]
  have u3 : (((((w.alloc (Obj.cells #[Value.int .i64 x0, Value.int .i64 y0, Value.slice a0 n0 c0] 28)).alloc (Obj.cells #[Value.int .i64 x1, Value.int .i64 y1, Value.slice a1 n1 c1] 28)).alloc (Obj.cells #[Value.int .i64 x3, Value.int .i64 y3, Value.slice a3 n3 c3] 28)).alloc (Obj.cells #[Value.slice none 0 0] 42)).alloc (Obj.cells #[Value.int .i64 x1, Value.int .i64 y1, Value.slice a1 n1 c1, Value.bool bb] 82)).cell? ⟨w.heap.size + 1 + 1 + 1 + 1, 3, none⟩ = some (.bool bb) := by simp [go_sem]
  have MC := Mk.alloc ((((w.alloc (Obj.cells #[Value.int .i64 x0, Value.int .i64 y0, Value.slice a0 n0 c0] 28)).alloc (Obj.cells #[Value.int .i64 x1, Value.int .i64 y1, Value.slice a1 n1 c1] 28)).alloc (Obj.cells #[Value.int .i64 x3, Value.int .i64 y3, Value.slice a3 n3 c3] 28)).alloc (Obj.cells #[Value.slice none 0 0] 42)) (Obj.cells #[Value.int .i64 x1, Value.int .i64 y1, Value.slice a1 n1 c1, Value.bool bb] 82)
  have hsC : (((((w.alloc (Obj.cells #[Value.int .i64 x0, Value.int .i64 y0, Value.slice a0 n0 c0] 28)).alloc (Obj.cells #[Value.int .i64 x1, Value.int .i64 y1, Value.slice a1 n1 c1] 28)).alloc (Obj.cells #[Value.int .i64 x3, Value.int .i64 y3, Value.slice a3 n3 c3] 28)).alloc (Obj.cells #[Value.slice none 0 0] 42)).alloc (Obj.cells #[Value.int .i64 x1, Value.int .i64 y1, Value.slice a1 n1 c1, Value.bool bb] 82)).heap.size = w.heap.size + 1 + 1 + 1 + 1 + 1 := by rw [World.size_alloc, hs0]
  replace k0 := MC.cellAt k0
  replace k1 := MC.cellAt k1
  replace k2 := MC.cellAt k2
  replace l0 := MC.cellAt l0
  replace l1 := MC.cellAt l1
  replace l2 := MC.cellAt l2
  replace j0 := MC.cellAt j0
  replace j1 := MC.cellAt j1
  replace j2 := MC.cellAt j2
  replace r0 := MC.cellAt r0
  replace fR := fun q => (MC.frozen (b := w.heap.size + 1 + 1 + 1) (o := q) (by omega) (.inr (Nat.zero_le _))).trans (fR q)
  have M := M0.trans MC
  generalize (((((w.alloc (Obj.cells #[Value.int .i64 x0, Value.int .i64 y0, Value.slice a0 n0 c0] 28)).alloc (Obj.cells #[Value.int .i64 x1, Value.int .i64 y1, Value.slice a1 n1 c1] 28)).alloc (Obj.cells #[Value.int .i64 x3, Value.int .i64 y3, Value.slice a3 n3 c3] 28)).alloc (Obj.cells #[Value.slice none 0 0] 42)).alloc (Obj.cells #[Value.int .i64 x1, Value.int .i64 y1, Value.slice a1 n1 c1, Value.bool bb] 82)) = wc at *
  clear M0 MC hs0
  refine wp_region_fh (fun (g : Bxs) w' => (Mk0 wc w' ∧ w'.cell? ⟨w.heap.size, 0, none⟩ = some (.int .i64 x0) ∧ w'.cell? ⟨w.heap.size, 1, none⟩ = some (.int .i64 y0) ∧ w'.cell? ⟨w.heap.size, 2, none⟩ = some (.slice a0 n0 c0) ∧ w'.cell? ⟨w.heap.size + 1, 0, none⟩ = some (.int .i64 x1) ∧ w'.cell? ⟨w.heap.size + 1, 1, none⟩ = some (.int .i64 y1) ∧ w'.cell? ⟨w.heap.size + 1, 2, none⟩ = some (.slice a1 n1 c1) ∧ w'.cell? ⟨w.heap.size + 1 + 1, 0, none⟩ = some (.int .i64 x3) ∧ w'.cell? ⟨w.heap.size + 1 + 1, 1, none⟩ = some (.int .i64 y3) ∧ w'.cell? ⟨w.heap.size + 1 + 1, 2, none⟩ = some (.slice a3 n3 c3) ∧ w'.cell? ⟨w.heap.size + 1 + 1 + 1, 0, none⟩ = some (.slice none 0 0) ∧ w'.cell? ⟨w.heap.size + 1 + 1 + 1 + 1, 0, none⟩ = some (.int .i64 x1) ∧ w'.cell? ⟨w.heap.size + 1 + 1 + 1 + 1, 1, none⟩ = some (.int .i64 y1) ∧ w'.cell? ⟨w.heap.size + 1 + 1 + 1 + 1, 2, none⟩ = some (.slice a1 n1 c1) ∧ w'.cell? ⟨w.heap.size + 1 + 1 + 1 + 1, 3, none⟩ = some (.bool bb)) ∧ BxS wc.heap.size g w') (fhF [fun g x wv => (x 0) = .agg #[.int .i64 x0, .int .i64 y0, .slice a0 n0 c0], fun g x wv => ∃ (g1 : HPathPart) (lo1 hi1 : Nat), (x 1) = .agg #[.int .i64 g1.kind, .int .i64 g1.ts, .int .i64 g1.beta, .slice g1.a g1.n g1.c] ∧ WPathPart.kid wv lo1 hi1 g1 (mpEl x0 y0 z0 n0 1 0) ∧ wc.heap.size ≤ lo1 ∧ lo1 ≤ hi1 ∧ hi1 ≤ wv.heap.size, fun g x wv => (x 2) = .agg #[.int .i64 x1, .int .i64 y1, .slice a1 n1 c1, .bool bb], fun g x wv => ∃ (g1 g3 : HPathPart) (lo1 hi1 lo3 hi3 : Nat), (x 1) = .agg #[.int .i64 g1.kind, .int .i64 g1.ts, .int .i64 g1.beta, .slice g1.a g1.n g1.c] ∧ WPathPart.kid wv lo1 hi1 g1 (mpEl x0 y0 z0 n0 1 0) ∧ wc.heap.size ≤ lo1 ∧ lo1 ≤ hi1 ∧ (x 3) = .agg #[.int .i64 g3.kind, .int .i64 g3.ts, .int .i64 g3.beta, .slice g3.a g3.n g3.c] ∧ WPathPart.kid wv lo3 hi3 g3 (mpEl x1 y1 z1 n1 (j3k bb) 0) ∧ hi1 ≤ lo3 ∧ lo3 ≤ hi3 ∧ hi3 ≤ wv.heap.size, fun g x wv => (x 4) = .agg #[.int .i64 x3, .int .i64 y3, .slice a3 n3 c3], fun g x wv => ∃ (g1 g3 g5 : HPathPart) (lo1 hi1 lo3 hi3 lo5 hi5 : Nat), (x 1) = .agg #[.int .i64 g1.kind, .int .i64 g1.ts, .int .i64 g1.beta, .slice g1.a g1.n g1.c] ∧ WPathPart.kid wv lo1 hi1 g1 (mpEl x0 y0 z0 n0 1 0) ∧ wc.heap.size ≤ lo1 ∧ lo1 ≤ hi1 ∧ (x 3) = .agg #[.int .i64 g3.kind, .int .i64 g3.ts, .int .i64 g3.beta, .slice g3.a g3.n g3.c] ∧ WPathPart.kid wv lo3 hi3 g3 (mpEl x1 y1 z1 n1 (j3k bb) 0) ∧ hi1 ≤ lo3 ∧ lo3 ≤ hi3 ∧ (x 5) = .agg #[.int .i64 g5.kind, .int .i64 g5.ts, .int .i64 g5.beta, .slice g5.a g5.n g5.c] ∧ WPathPart.kid wv lo5 hi5 g5 (mpEl x3 y3 z3 n3 4 0) ∧ hi3 ≤ lo5 ∧ lo5 ≤ hi5 ∧ hi5 ≤ wv.heap.size, fun g x wv => ∃ (g1 g3 g5 : HPathPart) (lo1 hi1 lo3 hi3 lo5 hi5 : Nat) (NB : Nat), (x 6) = .slice (some ⟨NB, 0, none⟩) 3 3 ∧ HasR 4 HPathPart.cell wv wv.heap.size (some ⟨NB, 0, none⟩) 3 [g1, g3, g5] ∧ WPathPart.kid wv lo1 hi1 g1 (mpEl x0 y0 z0 n0 1 0) ∧ wc.heap.size ≤ lo1 ∧ lo1 ≤ hi1 ∧ WPathPart.kid wv lo3 hi3 g3 (mpEl x1 y1 z1 n1 (j3k bb) 0) ∧ hi1 ≤ lo3 ∧ lo3 ≤ hi3 ∧ WPathPart.kid wv lo5 hi5 g5 (mpEl x3 y3 z3 n3 4 0) ∧ hi3 ≤ lo5 ∧ lo5 ≤ hi5 ∧ hi5 ≤ wv.heap.size, fun g x wv => ∃ (g1 g3 g5 : HPathPart) (lo1 hi1 lo3 hi3 lo5 hi5 : Nat) (A : Option Addr) (N C lo hi : Nat), (x 7) = .agg #[.slice A N C] ∧ ((A = none → C = 0) ∧ (N ≤ C ∧ C ≤ 9223372036854775807)) ∧ OwnR 4 HPathPart.cell wv lo hi A N ([g1, g3, g5].filter headP) ∧ hi5 ≤ lo ∧ lo ≤ hi ∧ hi ≤ wv.heap.size ∧ WPathPart.kid wv lo1 hi1 g1 (mpEl x0 y0 z0 n0 1 0) ∧ wc.heap.size ≤ lo1 ∧ lo1 ≤ hi1 ∧ WPathPart.kid wv lo3 hi3 g3 (mpEl x1 y1 z1 n1 (j3k bb) 0) ∧ hi1 ≤ lo3 ∧ lo3 ≤ hi3 ∧ WPathPart.kid wv lo5 hi5 g5 (mpEl x3 y3 z3 n3 4 0) ∧ hi3 ≤ lo5 ∧ lo5 ≤ hi5 ∧ hi5 ≤ wv.heap.size]) BxX (fun _ _ => False) (spL [[0], [1], [2], [1, 3], [4], [1, 3, 5], [6], [7]]) 9 8 (by kernel_rfl) (by kernel_rfl) (by kernel_rfl) (by decide) (by decide) (by kernel_rfl) (fun h => absurd h (by decide)) (fhM_mono ⟨fun g g' v w w' h x => h, fun g g' v w w' h x => (by obtain ⟨g1, lo1, hi1, e1, q1, p1, d1, z⟩ := h; have xs := x.far.size; exact ⟨g1, lo1, hi1, e1, WPathPart.kid_mk q1 x.far (by omega) (.inr (.inr (Nat.le_refl _))), p1, d1, Nat.le_trans z xs⟩), fun g g' v w w' h x => h, fun g g' v w w' h x => (by obtain ⟨g1, g3, lo1, hi1, lo3, hi3, e1, q1, p1, d1, e3, q3, p3, d3, z⟩ := h; have xs := x.far.size; exact ⟨g1, g3, lo1, hi1, lo3, hi3, e1, WPathPart.kid_mk q1 x.far (by omega) (.inr (.inr (Nat.le_refl _))), p1, d1, e3, WPathPart.kid_mk q3 x.far (by omega) (.inr (.inr (Nat.le_refl _))), p3, d3, Nat.le_trans z xs⟩), fun g g' v w w' h x => h, fun g g' v w w' h x => (by obtain ⟨g1, g3, g5, lo1, hi1, lo3, hi3, lo5, hi5, e1, q1, p1, d1, e3, q3, p3, d3, e5, q5, p5, d5, z⟩ := h; have xs := x.far.size; exact ⟨g1, g3, g5, lo1, hi1, lo3, hi3, lo5, hi5, e1, WPathPart.kid_mk q1 x.far (by omega) (.inr (.inr (Nat.le_refl _))), p1, d1, e3, WPathPart.kid_mk q3 x.far (by omega) (.inr (.inr (Nat.le_refl _))), p3, d3, e5, WPathPart.kid_mk q5 x.far (by omega) (.inr (.inr (Nat.le_refl _))), p5, d5, Nat.le_trans z xs⟩), fun g g' v w w' h x => (by obtain ⟨g1, g3, g5, lo1, hi1, lo3, hi3, lo5, hi5, NB, e, hr, q1, p1, d1, q3, p3, d3, q5, p5, d5, z⟩ := h; have xs := x.far.size; exact ⟨g1, g3, g5, lo1, hi1, lo3, hi3, lo5, hi5, NB, e, (hr.mk x.far (Nat.le_refl _) (.inr (Nat.le_refl _))).mono xs, WPathPart.kid_mk q1 x.far (by omega) (.inr (.inr (Nat.le_refl _))), p1, d1, WPathPart.kid_mk q3 x.far (by omega) (.inr (.inr (Nat.le_refl _))), p3, d3, WPathPart.kid_mk q5 x.far (by omega) (.inr (.inr (Nat.le_refl _))), p5, d5, Nat.le_trans z xs⟩), fun g g' v w w' h x => (by obtain ⟨g1, g3, g5, lo1, hi1, lo3, hi3, lo5, hi5, A, N, C, lo, hi, e, hc, ow, t1, t2, t3, q1, p1, d1, q3, p3, d3, q5, p5, d5, z⟩ := h; have xs := x.far.size; exact ⟨g1, g3, g5, lo1, hi1, lo3, hi3, lo5, hi5, A, N, C, lo, hi, e, hc, ow.mk x.far t3 (.inr (.inr (Nat.le_refl _))), t1, t2, Nat.le_trans t3 xs, WPathPart.kid_mk q1 x.far (by omega) (.inr (.inr (Nat.le_refl _))), p1, d1, WPathPart.kid_mk q3 x.far (by omega) (.inr (.inr (Nat.le_refl _))), p3, d3, WPathPart.kid_mk q5 x.far (by omega) (.inr (.inr (Nat.le_refl _))), p5, d5, Nat.le_trans z xs⟩), trivial⟩) ⟨⟨Mk.drew1 _, k0, k1, k2, l0, l1, l2, j0, j1, j2, r0, u0, u1, u2, u3⟩, BxS.none_ _ _⟩ ?_
  change WkH _ _ _ _ _ _ _ 9 8 8 0 _
  refine WkH.value (m := 7) (k := 0) (by decide) rfl rfl (of_decide_eq_true (by rfl)) rfl (fun g wv hS hF => ?_) (fun v0 => ?_)
  · obtain ⟨⟨s0, s1, s2, s3, s4, s5, s6, s7, s8, s9, s10, s11, s12, s13, s14⟩, hB2⟩ := hS
    exact ⟨.agg #[.int .i64 x0, .int .i64 y0, .slice a0 n0 c0], wv, g, (by go_simp; try with_reducible rfl), ⟨⟨s0, s1, s2, s3, s4, s5, s6, s7, s8, s9, s10, s11, s12, s13, s14⟩, hB2⟩, BxX.same (Mk.refl _ _ _), rfl⟩
  try simp only [Act.put, List.getElem_toArray, List.getElem_cons_zero, List.setIfInBounds_toArray, List.set_cons_zero, List.set_cons_succ]
  refine WkH.call (m := 6) (k := 1) (by decide) rfl rfl (of_decide_eq_true (by rfl)) rfl (fun g wv hS hF => ?_) (fun v1 => ?_)
  · obtain ⟨⟨s0, s1, s2, s3, s4, s5, s6, s7, s8, s9, s10, s11, s12, s13, s14⟩, hB2⟩ := hS
    have f0 : v0 = .agg #[.int .i64 x0, .int .i64 y0, .slice a0 n0 c0] := hF 0 (by rfl)
    obtain rfl := f0
    refine ⟨_, _, (by go_simp; first | done | exact ⟨rfl, rfl⟩ | with_reducible rfl), ?_⟩
    refine ((implMkP x0 y0 a0 n0 c0 B0 z0 1 0 wv (h0.mk (M.trans s0) hB0 (.inr (Nat.le_refl _))) (Nat.le_trans hB0 ((M.trans s0)).size) hn0 hc0 hk0)).mono ?_
    rintro e w' ⟨A, N, C, rfl, hcc, ow, mm⟩
    exact ⟨_, g, rfl, ⟨⟨s0.trans mm, mm.cellAt s1, mm.cellAt s2, mm.cellAt s3, mm.cellAt s4, mm.cellAt s5, mm.cellAt s6, mm.cellAt s7, mm.cellAt s8, mm.cellAt s9, mm.cellAt s10, mm.cellAt s11, mm.cellAt s12, mm.cellAt s13, mm.cellAt s14⟩, hB2.mk0 mm⟩, BxX.same mm, ⟨⟨_, _, _, A, N, C⟩, wv.heap.size, w'.heap.size, rfl, ⟨rfl, rfl, rfl, ow, hcc.2.1, hcc.2.2, hcc.1⟩, s0.size, mm.size, Nat.le_refl _⟩⟩
  try simp only [Act.put, List.getElem_toArray, List.getElem_cons_succ, List.getElem_cons_zero, List.setIfInBounds_toArray, List.set_cons_zero, List.set_cons_succ]
  refine WkH.value (m := 5) (k := 2) (by decide) rfl rfl (of_decide_eq_true (by rfl)) rfl (fun g wv hS hF => ?_) (fun v2 => ?_)
  · obtain ⟨⟨s0, s1, s2, s3, s4, s5, s6, s7, s8, s9, s10, s11, s12, s13, s14⟩, hB2⟩ := hS
    exact ⟨.agg #[.int .i64 x1, .int .i64 y1, .slice a1 n1 c1, .bool bb], wv, g, (by go_simp; try with_reducible rfl), ⟨⟨s0, s1, s2, s3, s4, s5, s6, s7, s8, s9, s10, s11, s12, s13, s14⟩, hB2⟩, BxX.same (Mk.refl _ _ _), rfl⟩
  try simp only [Act.put, List.getElem_toArray, List.getElem_cons_succ, List.getElem_cons_zero, List.setIfInBounds_toArray, List.set_cons_zero, List.set_cons_succ]
  refine WkH.call (m := 4) (k := 3) (by decide) rfl rfl (of_decide_eq_true (by rfl)) rfl (fun g wv hS hF => ?_) (fun v3 => ?_)
  · obtain ⟨⟨s0, s1, s2, s3, s4, s5, s6, s7, s8, s9, s10, s11, s12, s13, s14⟩, hB2⟩ := hS
    have f2 : v2 = .agg #[.int .i64 x1, .int .i64 y1, .slice a1 n1 c1, .bool bb] := hF 2 (by rfl)
    obtain rfl := f2
    have f1 : ∃ (g1 : HPathPart) (lo1 hi1 : Nat), v1 = .agg #[.int .i64 g1.kind, .int .i64 g1.ts, .int .i64 g1.beta, .slice g1.a g1.n g1.c] ∧ WPathPart.kid wv lo1 hi1 g1 (mpEl x0 y0 z0 n0 1 0) ∧ wc.heap.size ≤ lo1 ∧ lo1 ≤ hi1 ∧ hi1 ≤ wv.heap.size := hF 1 (by rfl)
    obtain ⟨g1, lo1, hi1, rfl, q1, p1, d1, z⟩ := f1
    refine ⟨_, _, (by go_simp; first | done | exact ⟨rfl, rfl⟩ | with_reducible rfl), ?_⟩
    refine ((partOf3 x1 y1 a1 n1 c1 B1 z1 bb wv (h1.mk (M.trans s0) hB1 (.inr (Nat.le_refl _))) (Nat.le_trans hB1 (M.trans s0).size) hn1 hc1 hk1)).mono ?_
    rintro e w' ⟨A, N, C, rfl, hcc, ow, mm⟩
    exact ⟨_, g, rfl, ⟨⟨s0.trans mm, mm.cellAt s1, mm.cellAt s2, mm.cellAt s3, mm.cellAt s4, mm.cellAt s5, mm.cellAt s6, mm.cellAt s7, mm.cellAt s8, mm.cellAt s9, mm.cellAt s10, mm.cellAt s11, mm.cellAt s12, mm.cellAt s13, mm.cellAt s14⟩, hB2.mk0 mm⟩, BxX.same mm, ⟨g1, ⟨_, _, _, A, N, C⟩, lo1, hi1, wv.heap.size, w'.heap.size, rfl, WPathPart.kid_mk q1 mm (by omega) (.inr (.inr (Nat.le_refl _))), p1, d1, rfl, ⟨rfl, rfl, rfl, ow, hcc.2.1, hcc.2.2, hcc.1⟩, z, mm.size, Nat.le_refl _⟩⟩
  try simp only [Act.put, List.getElem_toArray, List.getElem_cons_succ, List.getElem_cons_zero, List.setIfInBounds_toArray, List.set_cons_zero, List.set_cons_succ]
  refine WkH.value (m := 3) (k := 4) (by decide) rfl rfl (of_decide_eq_true (by rfl)) rfl (fun g wv hS hF => ?_) (fun v4 => ?_)
  · obtain ⟨⟨s0, s1, s2, s3, s4, s5, s6, s7, s8, s9, s10, s11, s12, s13, s14⟩, hB2⟩ := hS
    exact ⟨.agg #[.int .i64 x3, .int .i64 y3, .slice a3 n3 c3], wv, g, (by go_simp; try with_reducible rfl), ⟨⟨s0, s1, s2, s3, s4, s5, s6, s7, s8, s9, s10, s11, s12, s13, s14⟩, hB2⟩, BxX.same (Mk.refl _ _ _), rfl⟩
  try simp only [Act.put, List.getElem_toArray, List.getElem_cons_succ, List.getElem_cons_zero, List.setIfInBounds_toArray, List.set_cons_zero, List.set_cons_succ]
  refine WkH.call (m := 2) (k := 5) (by decide) rfl rfl (of_decide_eq_true (by rfl)) rfl (fun g wv hS hF => ?_) (fun v5 => ?_)
  · obtain ⟨⟨s0, s1, s2, s3, s4, s5, s6, s7, s8, s9, s10, s11, s12, s13, s14⟩, hB2⟩ := hS
    have f4 : v4 = .agg #[.int .i64 x3, .int .i64 y3, .slice a3 n3 c3] := hF 4 (by rfl)
    obtain rfl := f4
    have f3 : ∃ (g1 g3 : HPathPart) (lo1 hi1 lo3 hi3 : Nat), v1 = .agg #[.int .i64 g1.kind, .int .i64 g1.ts, .int .i64 g1.beta, .slice g1.a g1.n g1.c] ∧ WPathPart.kid wv lo1 hi1 g1 (mpEl x0 y0 z0 n0 1 0) ∧ wc.heap.size ≤ lo1 ∧ lo1 ≤ hi1 ∧ v3 = .agg #[.int .i64 g3.kind, .int .i64 g3.ts, .int .i64 g3.beta, .slice g3.a g3.n g3.c] ∧ WPathPart.kid wv lo3 hi3 g3 (mpEl x1 y1 z1 n1 (j3k bb) 0) ∧ hi1 ≤ lo3 ∧ lo3 ≤ hi3 ∧ hi3 ≤ wv.heap.size := hF 3 (by rfl)
    obtain ⟨g1, g3, lo1, hi1, lo3, hi3, rfl, q1, p1, d1, rfl, q3, p3, d3, z⟩ := f3
    refine ⟨_, _, (by go_simp; first | done | exact ⟨rfl, rfl⟩ | with_reducible rfl), ?_⟩
    refine ((implMkP x3 y3 a3 n3 c3 B3 z3 4 0 wv (h3.mk (M.trans s0) hB3 (.inr (Nat.le_refl _))) (Nat.le_trans hB3 ((M.trans s0)).size) hn3 hc3 hk3)).mono ?_
    rintro e w' ⟨A, N, C, rfl, hcc, ow, mm⟩
    exact ⟨_, g, rfl, ⟨⟨s0.trans mm, mm.cellAt s1, mm.cellAt s2, mm.cellAt s3, mm.cellAt s4, mm.cellAt s5, mm.cellAt s6, mm.cellAt s7, mm.cellAt s8, mm.cellAt s9, mm.cellAt s10, mm.cellAt s11, mm.cellAt s12, mm.cellAt s13, mm.cellAt s14⟩, hB2.mk0 mm⟩, BxX.same mm, ⟨g1, g3, ⟨_, _, _, A, N, C⟩, lo1, hi1, lo3, hi3, wv.heap.size, w'.heap.size, rfl, WPathPart.kid_mk q1 mm (by omega) (.inr (.inr (Nat.le_refl _))), p1, d1, rfl, WPathPart.kid_mk q3 mm (by omega) (.inr (.inr (Nat.le_refl _))), p3, d3, rfl, ⟨rfl, rfl, rfl, ow, hcc.2.1, hcc.2.2, hcc.1⟩, z, mm.size, Nat.le_refl _⟩⟩
  try simp only [Act.put, List.getElem_toArray, List.getElem_cons_succ, List.getElem_cons_zero, List.setIfInBounds_toArray, List.set_cons_zero, List.set_cons_succ]
  refine WkH.value (m := 1) (k := 6) (by decide) rfl rfl (of_decide_eq_true (by rfl)) rfl (fun g wv hS hF => ?_) (fun v6 => ?_)
  · obtain ⟨⟨s0, s1, s2, s3, s4, s5, s6, s7, s8, s9, s10, s11, s12, s13, s14⟩, hB2⟩ := hS
    have f5 : ∃ (g1 g3 g5 : HPathPart) (lo1 hi1 lo3 hi3 lo5 hi5 : Nat), v1 = .agg #[.int .i64 g1.kind, .int .i64 g1.ts, .int .i64 g1.beta, .slice g1.a g1.n g1.c] ∧ WPathPart.kid wv lo1 hi1 g1 (mpEl x0 y0 z0 n0 1 0) ∧ wc.heap.size ≤ lo1 ∧ lo1 ≤ hi1 ∧ v3 = .agg #[.int .i64 g3.kind, .int .i64 g3.ts, .int .i64 g3.beta, .slice g3.a g3.n g3.c] ∧ WPathPart.kid wv lo3 hi3 g3 (mpEl x1 y1 z1 n1 (j3k bb) 0) ∧ hi1 ≤ lo3 ∧ lo3 ≤ hi3 ∧ v5 = .agg #[.int .i64 g5.kind, .int .i64 g5.ts, .int .i64 g5.beta, .slice g5.a g5.n g5.c] ∧ WPathPart.kid wv lo5 hi5 g5 (mpEl x3 y3 z3 n3 4 0) ∧ hi3 ≤ lo5 ∧ lo5 ≤ hi5 ∧ hi5 ≤ wv.heap.size := hF 5 (by rfl)
    obtain ⟨g1, g3, g5, lo1, hi1, lo3, hi3, lo5, hi5, rfl, q1, p1, d1, rfl, q3, p3, d3, rfl, q5, p5, d5, z⟩ := f5
    have mm := Mk.alloc wv (Obj.cells #[.int .i64 g1.kind, .int .i64 g1.ts, .int .i64 g1.beta, .slice g1.a g1.n g1.c, .int .i64 g3.kind, .int .i64 g3.ts, .int .i64 g3.beta, .slice g3.a g3.n g3.c, .int .i64 g5.kind, .int .i64 g5.ts, .int .i64 g5.beta, .slice g5.a g5.n g5.c] 35)
    exact ⟨.slice (some ⟨wv.heap.size, 0, none⟩) 3 3, (wv.alloc (Obj.cells #[.int .i64 g1.kind, .int .i64 g1.ts, .int .i64 g1.beta, .slice g1.a g1.n g1.c, .int .i64 g3.kind, .int .i64 g3.ts, .int .i64 g3.beta, .slice g3.a g3.n g3.c, .int .i64 g5.kind, .int .i64 g5.ts, .int .i64 g5.beta, .slice g5.a g5.n g5.c] 35)), g, (by go_simp; try with_reducible rfl), ⟨⟨s0.trans mm, mm.cellAt s1, mm.cellAt s2, mm.cellAt s3, mm.cellAt s4, mm.cellAt s5, mm.cellAt s6, mm.cellAt s7, mm.cellAt s8, mm.cellAt s9, mm.cellAt s10, mm.cellAt s11, mm.cellAt s12, mm.cellAt s13, mm.cellAt s14⟩, hB2.mk0 mm⟩, BxX.same mm, (by have zm := mm.size; exact ⟨g1, g3, g5, lo1, hi1, lo3, hi3, lo5, hi5, wv.heap.size, rfl, hasR3 wv 35 g1 g3 g5, WPathPart.kid_mk q1 mm (by omega) (.inr (.inr (Nat.le_refl _))), p1, d1, WPathPart.kid_mk q3 mm (by omega) (.inr (.inr (Nat.le_refl _))), p3, d3, WPathPart.kid_mk q5 mm (by omega) (.inr (.inr (Nat.le_refl _))), p5, d5, Nat.le_trans z zm⟩)⟩
  try simp only [Act.put, List.getElem_toArray, List.getElem_cons_succ, List.getElem_cons_zero, List.setIfInBounds_toArray, List.set_cons_zero, List.set_cons_succ]
  refine WkH.call (m := 0) (k := 7) (by decide) rfl rfl (of_decide_eq_true (by rfl)) rfl (fun g wv hS hF => ?_) (fun v7 => ?_)
  · obtain ⟨⟨s0, s1, s2, s3, s4, s5, s6, s7, s8, s9, s10, s11, s12, s13, s14⟩, hB2⟩ := hS
    have f6 : ∃ (g1 g3 g5 : HPathPart) (lo1 hi1 lo3 hi3 lo5 hi5 : Nat) (NB : Nat), v6 = .slice (some ⟨NB, 0, none⟩) 3 3 ∧ HasR 4 HPathPart.cell wv wv.heap.size (some ⟨NB, 0, none⟩) 3 [g1, g3, g5] ∧ WPathPart.kid wv lo1 hi1 g1 (mpEl x0 y0 z0 n0 1 0) ∧ wc.heap.size ≤ lo1 ∧ lo1 ≤ hi1 ∧ WPathPart.kid wv lo3 hi3 g3 (mpEl x1 y1 z1 n1 (j3k bb) 0) ∧ hi1 ≤ lo3 ∧ lo3 ≤ hi3 ∧ WPathPart.kid wv lo5 hi5 g5 (mpEl x3 y3 z3 n3 4 0) ∧ hi3 ≤ lo5 ∧ lo5 ≤ hi5 ∧ hi5 ≤ wv.heap.size := hF 6 (by rfl)
    obtain ⟨g1, g3, g5, lo1, hi1, lo3, hi3, lo5, hi5, NB, rfl, hr, q1, p1, d1, q3, p3, d3, q5, p5, d5, z⟩ := f6
    refine ⟨_, _, (by go_simp; first | done | exact ⟨rfl, rfl⟩ | with_reducible rfl), ?_⟩
    refine ((pathOfH (some ⟨NB, 0, none⟩) 3 3 wv.heap.size [g1, g3, g5] wv hr (Nat.le_refl _) (by omega))).mono ?_
    rintro e w' ⟨A, N, C, rfl, hcc, ow, mm⟩
    exact ⟨_, g, rfl, ⟨⟨s0.trans mm, mm.cellAt s1, mm.cellAt s2, mm.cellAt s3, mm.cellAt s4, mm.cellAt s5, mm.cellAt s6, mm.cellAt s7, mm.cellAt s8, mm.cellAt s9, mm.cellAt s10, mm.cellAt s11, mm.cellAt s12, mm.cellAt s13, mm.cellAt s14⟩, hB2.mk0 mm⟩, BxX.same mm, (by have zm := mm.size; exact ⟨g1, g3, g5, lo1, hi1, lo3, hi3, lo5, hi5, A, N, C, wv.heap.size, w'.heap.size, rfl, hcc, ow, z, zm, Nat.le_refl _, WPathPart.kid_mk q1 mm (by omega) (.inr (.inr (Nat.le_refl _))), p1, d1, WPathPart.kid_mk q3 mm (by omega) (.inr (.inr (Nat.le_refl _))), p3, d3, WPathPart.kid_mk q5 mm (by omega) (.inr (.inr (Nat.le_refl _))), p5, d5, Nat.le_trans z zm⟩)⟩
  try simp only [Act.put, List.getElem_toArray, List.getElem_cons_succ, List.getElem_cons_zero, List.setIfInBounds_toArray, List.set_cons_zero, List.set_cons_succ]
  refine WkH.done fun gE wE hE hF => ?_
  clear k0 k1 k2 l0 l1 l2 j0 j1 j2 r0 u0 u1 u2 u3
  obtain ⟨⟨mE, k0, k1, k2, l0, l1, l2, j0, j1, j2, r0, u0, u1, u2, u3⟩, hBE⟩ := hE
  change wpAny _ _ _ _ 1 _ _ _
  have f7 : ∃ (g1 g3 g5 : HPathPart) (lo1 hi1 lo3 hi3 lo5 hi5 : Nat) (A : Option Addr) (N C lo hi : Nat), v7 = .agg #[.slice A N C] ∧ ((A = none → C = 0) ∧ (N ≤ C ∧ C ≤ 9223372036854775807)) ∧ OwnR 4 HPathPart.cell wE lo hi A N ([g1, g3, g5].filter headP) ∧ hi5 ≤ lo ∧ lo ≤ hi ∧ hi ≤ wE.heap.size ∧ WPathPart.kid wE lo1 hi1 g1 (mpEl x0 y0 z0 n0 1 0) ∧ wc.heap.size ≤ lo1 ∧ lo1 ≤ hi1 ∧ WPathPart.kid wE lo3 hi3 g3 (mpEl x1 y1 z1 n1 (j3k bb) 0) ∧ hi1 ≤ lo3 ∧ lo3 ≤ hi3 ∧ WPathPart.kid wE lo5 hi5 g5 (mpEl x3 y3 z3 n3 4 0) ∧ hi3 ≤ lo5 ∧ lo5 ≤ hi5 ∧ hi5 ≤ wE.heap.size := hF 7 (by decide)
  obtain ⟨g1, g3, g5, lo1, hi1, lo3, hi3, lo5, hi5, A, N, C, lo, hi, rfl, hc, hO, t1, t2, t3, q1, p1, d1, q3, p3, d3, q5, p5, d5, z⟩ := f7
  clear hF hBE
  have fE : ∀ q, wE.frozen? ⟨w.heap.size + 1 + 1 + 1, q, none⟩ = false := fun q => (mE.frozen (b := w.heap.size + 1 + 1 + 1) (o := q) (by omega) (.inr (Nat.zero_le _))).trans (fR q)
  refine wpAny_ready (rs := [8]) (by kernel_rfl) (by simp) ?_
  refine (AllReady.cons rfl (fun K hK => ?_) AllReady.nil)
  go_simp
  refine hK _ _ ?_
  clear hK K
  try simp only [Act.put, List.getElem_toArray, List.getElem_cons_succ, List.getElem_cons_zero, List.setIfInBounds_toArray, List.set_cons_zero, List.set_cons_succ]
  refine wpAny_doneN (by kernel_rfl) ?_
  refine ‹∀ (a : Act) (w : World), _ → _› _ _ ?_
  have ME := M.trans mE
  replace r0 := World.cell?_setCell_same _ _ (.slice A N C) r0
  have nq1 : g1.n = n0 := q1.2.2.2.1.1.symm.trans hl0
  have nq3 : g3.n = n1 := q3.2.2.2.1.1.symm.trans hl1
  have nq5 : g5.n = n3 := q5.2.2.2.1.1.symm.trans hl3
  have HF : [g1, g3, g5].filter headP = (addIf (decide (0 < n3)) (addIf (decide (0 < n1)) (addIf (decide (0 < n0)) [] g1) g3) g5) := by rw [filter3]; unfold headP; rw [nq1, nq3, nq5]
  rw [HF] at hO
  have hNl : addN (decide (0 < n3)) (addN (decide (0 < n1)) (addN (decide (0 < n0)) 0)) = N := (addIf_len _ (addIf_len _ (addIf_len _ rfl))).symm.trans hO.1
  have HK : Kids WPathPart wE wc.heap.size hi5 (fun q => lo ≤ q) N (addIf (decide (0 < n3)) (addIf (decide (0 < n1)) (addIf (decide (0 < n0)) [] g1) g3) g5) (addIf (decide (0 < n3)) (addIf (decide (0 < n1)) (addIf (decide (0 < n0)) [] (mpEl x0 y0 z0 n0 1 0)) (mpEl x1 y1 z1 n1 (j3k bb) 0)) (mpEl x3 y3 z3 n3 4 0)) := by
    rw [← hNl]
    refine Kids.snocIf _ (Kids.snocIf _ (Kids.snocIf _ (Kids.none_ _ _ _ wc.heap.size _ _ _) rfl rfl (by omega) d1 q1 (by omega) (fun b hb => ?_)) (addIf_len _ rfl) (addIf_len _ rfl) (by omega) d3 q3 (by omega) (fun b hb => ?_)) (addIf_len _ (addIf_len _ rfl)) (addIf_len _ (addIf_len _ rfl)) (by omega) d5 q5 (by omega) (fun b hb => ?_) <;> (have hb2 : lo ≤ b := hb; omega)
  have hRl : (addIf (decide (0 < n3)) (addIf (decide (0 < n1)) (addIf (decide (0 < n0)) [] (mpEl x0 y0 z0 n0 1 0)) (mpEl x1 y1 z1 n1 (j3k bb) 0)) (mpEl x3 y3 z3 n3 4 0)).length = N := by rw [← hNl]; exact addIf_len _ (addIf_len _ (addIf_len _ rfl))
  have hO2 := hO.set ⟨w.heap.size + 1 + 1 + 1, 0, none⟩ (.slice A N C) (.inl (show w.heap.size + 1 + 1 + 1 < lo by omega))
  have HK2 := HK.set ⟨w.heap.size + 1 + 1 + 1, 0, none⟩ (.slice A N C) (.inr (.inl (show w.heap.size + 1 + 1 + 1 < wc.heap.size by omega)))
  clear hO HK q1 q3 q5
  have MS := ME.put ⟨w.heap.size + 1 + 1 + 1, 0, none⟩ (.slice A N C) (show w.heap.size ≤ w.heap.size + 1 + 1 + 1 by omega)
  have zS : (wE.setCell ⟨w.heap.size + 1 + 1 + 1, 0, none⟩ (.slice A N C)).heap.size = wE.heap.size := by simp only [World.size_set]
  generalize (wE.setCell ⟨w.heap.size + 1 + 1 + 1, 0, none⟩ (.slice A N C)) = w9 at *
  have HOwn : OwnN WPathPart w9 w.heap.size w9.heap.size A N (addIf (decide (0 < n3)) (addIf (decide (0 < n1)) (addIf (decide (0 < n0)) [] (mpEl x0 y0 z0 n0 1 0)) (mpEl x1 y1 z1 n1 (j3k bb) 0)) (mpEl x3 y3 z3 n3 4 0)) := by
    refine ⟨hRl, _, (match A with | some a => a.block | none => 0), ?_, fun hn => ?_, (HK2.wide (by omega) (by omega)).avoid (fun q hq => ?_)⟩
    · refine ⟨hO2.1, fun hn => ?_⟩
      obtain ⟨b, off, rfl, g2, g3', g4⟩ := hO2.2 hn
      exact ⟨b, off, rfl, Nat.le_refl _, Nat.lt_succ_self _, g4⟩
    · obtain ⟨b, off, rfl, g2, g3', g4⟩ := hO2.2 hn
      exact ⟨by show w.heap.size ≤ b; omega, by show b < w9.heap.size; omega⟩
    · obtain ⟨hn, rfl⟩ := hq
      obtain ⟨b, off, rfl, g2, g3', g4⟩ := hO2.2 hn
      exact .inl g2
  go_wp2_with fail
  refine bodyPost_ret (v := .agg #[.slice A N C]) (by simp [results, Try.results27, go_sem, r0]) rfl ⟨A, N, C, rfl, hc, HOwn, MS⟩

end Go.Proofs.Ytbkbkpnpllemfaa
