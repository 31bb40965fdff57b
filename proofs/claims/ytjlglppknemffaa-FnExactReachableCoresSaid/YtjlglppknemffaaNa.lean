
/- neighboursOfAll of the program. -/
import Derived.Test.YtjlglppknemffaaSet2
import Derived.Test.YtjlglppknemffaaUni
import Derived.Test.YtjlglppknemffaaIter
import Derived.Test.YtjlglppknemffaaElems
namespace Go.Proofs.Ytjlglppknemffaa
open Go Go.Proofs Go.RowKit Go.Shelf Go.ChangeShapes Go.WideShapes Go.ChangeAt
set_option linter.unusedVariables false
attribute [local go_sem] Oper.semAt_some
theorem keepsMk {w w' : World} (m : Mk0 w w') : KeepsOthers w w' := .of_grownBy (row := none) ⟨m.os, m.tape, m.output, m.size, fun g hg _ => m.block g hg (.inr (Nat.zero_le _))⟩ (fun r o e => by cases e)
theorem naL_snoc (zl : List TLink) (n1 : Nat) (kd s : Int) (pre : List Int) (x : Int) : naL zl n1 kd s (pre ++ [x]) = uniV (naL zl n1 kd s pre) (nbS zl n1 x kd) := by
  unfold naL
  rw [List.foldl_append]
  rfl
set_option maxRecDepth 100000 in
set_option maxHeartbeats 4000000 in
theorem na_in (a0 a1 : Option Addr) (n0 c0 n1 c1 B : Nat) (zl : List TLink) (s kd : Int) (w : World) (hl : HasLink w B a1 n1 zl) (hB : B ≤ w.heap.size) (hn1 : n1 ≤ 1048576) :
    CallsIn Fence.wide 6 Try.prog 80 #[.agg #[.slice a0 n0 c0, .slice a1 n1 c1], .int .i64 s, .int .i64 kd] w fun e w' => e = .returned (.int .i64 (uS zl n1 kd s)) ∧ Below w.heap.size w w' := by
  refine callsIn_of_wp_marks Try.func80 rfl trivial ?_ rfl
  simp only [Try.ntmps80, List.size_toArray, List.length_cons, List.length_nil, Nat.reduceAdd, Nat.reduceSub, Array.replicate_succ, Array.replicate_zero, List.push_toArray, List.append_toArray, List.nil_append, List.cons_append]
  gi_wp2_with (refine ⟨trivial, ?_⟩; gi_at_call 76; refine (elementsOf_in _ _).mono ?_; rintro e w' ⟨rfl, rfl⟩)
  have hB0 : Below w.heap.size w ((((w.alloc (.cells #[.slice a0 n0 c0, .slice a1 n1 c1] 31)).alloc (.cells #[.int .i64 kd] 3)).alloc (.cells #[.int .i64 0] 3)).alloc (.cells #[.int .i64 s] 3)) := ((((Below.refl _ w).alloc (Nat.le_refl _) _).alloc (by simp) _).alloc (by simp; omega) _).alloc (by simp; omega) _
  have hs := cellNew (((w.alloc (.cells #[.slice a0 n0 c0, .slice a1 n1 c1] 31)).alloc (.cells #[.int .i64 kd] 3)).alloc (.cells #[.int .i64 0] 3)) (.int .i64 s) 3
  have hs3 : (((w.alloc (.cells #[.slice a0 n0 c0, .slice a1 n1 c1] 31)).alloc (.cells #[.int .i64 kd] 3)).alloc (.cells #[.int .i64 0] 3)).heap.size = w.heap.size + 1 + 1 + 1 := by simp [World.size_alloc]
  rw [hs3] at hs
  have ca := cellNew ((w.alloc (.cells #[.slice a0 n0 c0, .slice a1 n1 c1] 31)).alloc (.cells #[.int .i64 kd] 3)) (.int .i64 0) 3
  have hs2 : ((w.alloc (.cells #[.slice a0 n0 c0, .slice a1 n1 c1] 31)).alloc (.cells #[.int .i64 kd] 3)).heap.size = w.heap.size + 1 + 1 := by simp [World.size_alloc]
  rw [hs2] at ca
  have k0 : ((((w.alloc (.cells #[.slice a0 n0 c0, .slice a1 n1 c1] 31)).alloc (.cells #[.int .i64 kd] 3)).alloc (.cells #[.int .i64 0] 3)).alloc (.cells #[.int .i64 s] 3)).cell? ⟨w.heap.size, 0, none⟩ = some (.slice a0 n0 c0) := by simp [go_sem]
  have k1 : ((((w.alloc (.cells #[.slice a0 n0 c0, .slice a1 n1 c1] 31)).alloc (.cells #[.int .i64 kd] 3)).alloc (.cells #[.int .i64 0] 3)).alloc (.cells #[.int .i64 s] 3)).cell? ⟨w.heap.size, 1, none⟩ = some (.slice a1 n1 c1) := by simp [go_sem]
  have k2 : ((((w.alloc (.cells #[.slice a0 n0 c0, .slice a1 n1 c1] 31)).alloc (.cells #[.int .i64 kd] 3)).alloc (.cells #[.int .i64 0] 3)).alloc (.cells #[.int .i64 s] 3)).cell? ⟨w.heap.size + 1, 0, none⟩ = some (.int .i64 kd) := by simp [go_sem]
  have HN := Lib.hid hn1
  clear hn1
  refine wpIn_rangeFunc_ownF rfl (by decide) (gf := 105) (lb := #[.pointer (some ⟨w.heap.size + 1 + 1 + 1, 0, none⟩)]) rfl trivial (enters_of Try.func105 (by kernel_rfl) rfl)
    (elements_stops s (w.heap.size + 1 + 1 + 1) w.heap.size _ (by simp) hs.1) KpC.t (KpC.b (by simp; omega) (by simp)) (Below.refl _ _) (fun _ => rfl)
    (fun pre W => (W.cell? ⟨w.heap.size, 0, none⟩ = some (.slice a0 n0 c0) ∧ W.cell? ⟨w.heap.size, 1, none⟩ = some (.slice a1 n1 c1) ∧ W.cell? ⟨w.heap.size + 1, 0, none⟩ = some (.int .i64 kd) ∧ W.cell? ⟨w.heap.size + 1 + 1, 0, none⟩ = some (.int .i64 (naL zl n1 kd 0 pre)) ∧ W.frozen? ⟨w.heap.size + 1 + 1, 0, none⟩ = false ∧ W.cell? ⟨w.heap.size + 1 + 1 + 1, 0, none⟩ = some (.int .i64 s)) ∧ Below w.heap.size w W)
    (fun _ _ _ => False)
    (OwnFrom.and (Own.from (fun q A B row hs hg hr => ⟨Go.cell_kept hs.1 hg hr, Go.cell_kept hs.2.1 hg hr, Go.cell_kept hs.2.2.1 hg hr, Go.cell_kept hs.2.2.2.1 hg hr, (Go.frozen_kept hs.2.2.2.1 hg hr).trans hs.2.2.2.2.1, Go.cell_kept hs.2.2.2.2.2 hg hr⟩) _) (ownFrom_below (Nat.le_refl _) (by simp; omega)))
    (fun _ _ _ _ _ hs _ _ => hs)
    ⟨⟨k0, k1, k2, cellKeep _ ca.1, frozenKeep _ ca.1 ca.2, hs.1⟩, hB0⟩
    (fun x => { tmps := #[.agg #[.slice a0 n0 c0, .slice a1 n1 c1], .int .i64 s, .int .i64 kd, .pointer (some ⟨w.heap.size, 0, none⟩), undef, .pointer (some ⟨w.heap.size + 1, 0, none⟩), .int .i64 0, .pointer (some ⟨w.heap.size + 1 + 1, 0, none⟩), .int .i64 x, .int .i64 s, .func (.func 105) #[] #[.pointer (some ⟨w.heap.size + 1 + 1 + 1, 0, none⟩)], .int .i64 x, undef, undef, undef, undef, undef, undef, undef], defers := [] }) ?assign ?body ?done ?stop
  case assign =>
    intro l x W K hK
    gi_wp2
    exact hK
  case body =>
    rintro l pre x W ⟨⟨c0', c1', c2', ca', fa', cs'⟩, hBW⟩ hlt
    clear hs ca k0 k1 k2
    have hlW : HasLink W B a1 n1 zl := hl.mk (Mk.of_below hBW) hB (.inr (Nat.le_refl _))
    have hBsz := Nat.le_trans hB hBW.size
    have HSN := Lib.hid (naL_snoc zl n1 kd 0 pre x)
    obtain ⟨A, hA⟩ : ∃ A, Hid (A = naL zl n1 kd 0 pre) := ⟨_, Lib.hid rfl⟩
    rw [← hA.out] at ca' HSN
    have hmx : Try.prog.follows .mixedOrders = true := by kernel_rfl
    gi_wp2
    gi_region_with_o (first | (refine ⟨trivial, ?_⟩; gi_at_call 69; refine (CallsIn.inRound l (callsIn_wide.2 (implNb a0 a1 n0 c0 n1 c1 B zl x kd _ (by exact hlW) (by exact hBsz) HN.out))).mono ?_; rintro e w5 ⟨rfl, m5⟩; have d0 := m5.cellAt (by exact ca'); have d1 := m5.frozenAt (by exact ca') (by exact fa')) | (refine ⟨trivial, ?_⟩; gi_at_call 101; refine (CallsIn.inRound l (callsIn_wide.2 (implUni _ _ _))).mono ?_; rintro e w6 ⟨rfl, rfl⟩))
    all_goals gi_wp2
    all_goals (
      have m : Mk0 W w5 := (Mk.drew1 W).trans m5
      have hb3 := World.block_lt_of_cell? _ _ cs'
      exact ⟨(keepsMk m).trans (KeepsOthers.setCell _ _ _), ⟨(m.below0.mono hBW.size).setCell (p := ⟨w.heap.size + 1 + 1, 0, none⟩) (by simp; omega) _, (Below.heap_setCell _ ⟨w.heap.size + 1 + 1, 0, none⟩ _ (w.heap.size + 1 + 1 + 1) (by simp)).trans (m.block _ hb3 (.inr (Nat.zero_le _)))⟩,
        ⟨cell_set (m.cellAt c0') _ _ (.inl (by show w.heap.size + 1 + 1 ≠ _; omega)), cell_set (m.cellAt c1') _ _ (.inl (by show w.heap.size + 1 + 1 ≠ _; omega)), cell_set (m.cellAt c2') _ _ (.inl (by show w.heap.size + 1 + 1 ≠ _; omega)), by rw [HSN.out]; exact World.cell?_setCell_same' _ _ _ (by rw [d0]; rfl), by rw [World.frozen?_setCell]; exact d1, cell_set (m.cellAt cs') _ _ (.inl (by show w.heap.size + 1 + 1 ≠ _; omega))⟩, hBW.trans ((m.below0.mono hBW.size).setCell (p := ⟨w.heap.size + 1 + 1, 0, none⟩) (by simp; omega) _)⟩)
  case done =>
    rintro D ys W hD rfl ⟨⟨c0', c1', c2', ca', fa', cs'⟩, hBW⟩ hK
    gi_wp2
    refine ⟨by simp, .inl ⟨_, _, rfl, run_takeDeferred hK, ?_⟩⟩
    exact ⟨_, results_tmp rfl _ _ _, rfl, hBW.trans (belowK_b (w := w) (Nat.le_refl _) W D _ _ (by simp at hD; omega) hK rfl rfl)⟩
  case stop =>
    rintro D c pre W _ _ h _
    exact h.elim
end Go.Proofs.Ytjlglppknemffaa
