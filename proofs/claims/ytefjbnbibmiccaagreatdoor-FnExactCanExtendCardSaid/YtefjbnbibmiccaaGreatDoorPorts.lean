
/- The two ports of a link. -/
import Derived.Test.YtefjbnbibmiccaaGreatDoorLkIdx
namespace Go.Proofs.YtefjbnbibmiccaaGreatDoor
open Go.ChangeShapes Go.WideShapes Go.ChangeAt Go.RowKit
set_option linter.unusedVariables false
set_option maxRecDepth 100000 in
set_option maxHeartbeats 800000 in
theorem portA (a ai b bi k : Int) (w : World) : Calls Tryz.prog 78 #[.agg #[.int .i64 a, .int .i64 ai, .int .i64 b, .int .i64 bi, .int .i64 k]] w fun e w' => e = .returned (.agg #[.int .i64 a, .int .i64 ai]) ∧ Mk0 w w' := by
  go_enter Tryz.func78, Tryz.ntmps78
  go_wp2
  refine bodyPost_ret (v := .agg #[.int .i64 a, .int .i64 ai]) (by simp [results, Tryz.results78, go_sem]) rfl ⟨rfl, Mk.of_below ?_⟩
  go_grown
set_option maxRecDepth 100000 in
set_option maxHeartbeats 800000 in
theorem portB (a ai b bi k : Int) (w : World) : Calls Tryz.prog 79 #[.agg #[.int .i64 a, .int .i64 ai, .int .i64 b, .int .i64 bi, .int .i64 k]] w fun e w' => e = .returned (.agg #[.int .i64 b, .int .i64 bi]) ∧ Mk0 w w' := by
  go_enter Tryz.func79, Tryz.ntmps79
  go_wp2
  refine bodyPost_ret (v := .agg #[.int .i64 b, .int .i64 bi]) (by simp [results, Tryz.results79, go_sem]) rfl ⟨rfl, Mk.of_below ?_⟩
  go_grown

theorem port_keep {w wr W w2 : World} {x : TLink} {r d : Int} (m2 : Mk0 W w2) (hW : W.heap = (wr.alloc (Obj.cells #[Value.int .i64 x.a, Value.int .i64 x.ai, Value.int .i64 x.b, Value.int .i64 x.bi, Value.int .i64 x.kind] 84)).heap) (y1 : w.heap.size + 1 < wr.heap.size) (p0 : wr.cell? ⟨w.heap.size + 1, 0, none⟩ = some (.int .i64 r)) (p1 : wr.cell? ⟨w.heap.size + 1, 1, none⟩ = some (.int .i64 d)) :
    w2.cell? ⟨w.heap.size + 1, 0, none⟩ = some (.int .i64 r) ∧ w2.cell? ⟨w.heap.size + 1, 1, none⟩ = some (.int .i64 d) ∧ w2.cell? ⟨wr.heap.size, 0, none⟩ = some (.int .i64 x.a) ∧ w2.cell? ⟨wr.heap.size, 1, none⟩ = some (.int .i64 x.ai) ∧ w2.cell? ⟨wr.heap.size, 2, none⟩ = some (.int .i64 x.b) ∧ w2.cell? ⟨wr.heap.size, 3, none⟩ = some (.int .i64 x.bi) ∧ w2.cell? ⟨wr.heap.size, 4, none⟩ = some (.int .i64 x.kind) := by
  have hs : W.heap.size = wr.heap.size + 1 := by rw [hW]; simp
  have hc : ∀ b o, b < W.heap.size → w2.cell? ⟨b, o, none⟩ = (wr.alloc (Obj.cells #[Value.int .i64 x.a, Value.int .i64 x.ai, Value.int .i64 x.b, Value.int .i64 x.bi, Value.int .i64 x.kind] 84)).cell? ⟨b, o, none⟩ := fun b o hb => (m2.cell hb (.inr (Nat.zero_le _))).trans (World.cell?_of_block (by rw [hW]))
  refine ⟨?_, ?_, ?_, ?_, ?_, ?_, ?_⟩
  · rw [hc _ _ (by omega), World.cell?_alloc_past _ _ _ y1]; exact p0
  · rw [hc _ _ (by omega), World.cell?_alloc_past _ _ _ y1]; exact p1
  all_goals (rw [hc _ _ (by omega), World.cell?_alloc_at _ _ _ _ rfl]; rfl)
theorem port_keep2 {w W w3 : World} {r d : Int} {p : Nat} (m3 : Mk0 W w3) (P0 : W.cell? ⟨p, 0, none⟩ = some (.int .i64 r)) (P1 : W.cell? ⟨p, 1, none⟩ = some (.int .i64 d)) :
    w3.cell? ⟨p, 0, none⟩ = some (.int .i64 r) ∧ w3.cell? ⟨p, 1, none⟩ = some (.int .i64 d) :=
  ⟨(m3.cell (World.block_lt_of_cell? W _ P0) (.inr (Nat.zero_le _))).trans P0, (m3.cell (World.block_lt_of_cell? W _ P1) (.inr (Nat.zero_le _))).trans P1⟩
end Go.Proofs.YtefjbnbibmiccaaGreatDoor
