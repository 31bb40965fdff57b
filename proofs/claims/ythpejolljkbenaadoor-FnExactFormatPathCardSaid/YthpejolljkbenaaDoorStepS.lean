
/- The steps of a path, by the model. -/
import Derived.Test.YthpejolljkbenaaDoorStepMath
import Derived.Test.YthpejolljkbenaaDoorCPath
import Derived.Test.YthpejolljkbenaaDoorRet
import Derived.Test.YthpejolljkbenaaDoorInfo
import Derived.Deep.RegionHeld3
import Derived.BigQuiet
import Derived.Deep.QuietTactic
import Derived.Deep.CutRange
namespace Go.Proofs.YthpejolljkbenaaDoor
open Go.ChangeShapes Go.WideShapes Go.ChangeAt Go.RowKit
set_option linter.unusedVariables false
def addS (i k : Nat) (l : List TStep) (s : TStep) : List TStep := if 0 < i ∧ k = 0 ∧ meetB l [s] = true then l.dropLast ++ [⟨s.nd, (lastS l).ing, s.eg⟩] else l ++ [s]
theorem join_nil (l : List TStep) : joinS l [] = l := by
  unfold joinS
  rw [if_neg (by simp [meetB])]
  simp
theorem addS_join (ps : List TPathPart) (i k : Nat) (x : TPathPart) : joinS (stepsUp ps i) (stL x (k + 1)) = addS i k (joinS (stepsUp ps i) (stL x k)) (stOf x k) := by
  rw [stL]
  rcases Nat.eq_zero_or_pos k with h0 | h0
  · subst h0
    rw [show stL x 0 = [] from rfl, List.nil_append, join_nil]
    unfold joinS addS
    by_cases hm : meetB (stepsUp ps i) [stOf x 0] = true
    · have hi : 0 < i := by
        rcases Nat.eq_zero_or_pos i with h1 | h1
        · subst h1
          simp [stepsUp, meetB] at hm
        · exact h1
      rw [if_pos hm, if_pos ⟨hi, rfl, hm⟩]
      have he : (lastS (stepsUp ps i)).nd = (stOf x 0).nd := by
        unfold meetB at hm
        simp only [Bool.and_eq_true, beq_iff_eq] at hm
        exact hm.2.2
      simp only [glueS, he]
      rfl
    · rw [if_neg hm, if_neg (fun h => hm h.2.2)]
  · rw [joinS_snoc _ _ _ (by rw [stL_len]; exact h0)]
    unfold addS
    rw [if_neg (fun h => by omega)]
theorem newbox {w w' : World} {t : TypeId} (m : Mk0 (w.alloc (.cells #[.int .i64 0, .int .i64 0, .int .i64 0] t)) w') : w'.cell? ⟨w.heap.size, 0, none⟩ = some (.int .i64 0) ∧ w'.cell? ⟨w.heap.size, 1, none⟩ = some (.int .i64 0) ∧ w'.cell? ⟨w.heap.size, 2, none⟩ = some (.int .i64 0) ∧ w'.frozen? ⟨w.heap.size, 0, none⟩ = false ∧ w'.frozen? ⟨w.heap.size, 1, none⟩ = false ∧ w'.frozen? ⟨w.heap.size, 2, none⟩ = false := by
  have c : ∀ j, j < 3 → (w.alloc (.cells #[.int .i64 0, .int .i64 0, .int .i64 0] t)).cell? ⟨w.heap.size, j, none⟩ = some (.int .i64 0) := fun j hj => by
    rw [World.cell?_alloc_at _ _ _ _ rfl]
    match j, hj with
    | 0, _ => rfl
    | 1, _ => rfl
    | 2, _ => rfl
  have f : ∀ j, (w.alloc (.cells #[.int .i64 0, .int .i64 0, .int .i64 0] t)).frozen? ⟨w.heap.size, j, none⟩ = false := fun j => by simp [go_sem]
  exact ⟨m.cellAt (c 0 (by decide)), m.cellAt (c 1 (by decide)), m.cellAt (c 2 (by decide)), m.frozenAt (c 0 (by decide)) (f 0), m.frozenAt (c 1 (by decide)) (f 1), m.frozenAt (c 2 (by decide)) (f 2)⟩
theorem newboxA {W0 w' : World} (m : Mk0 W0 w') : (∀ w : World, W0 = w.alloc (.cells #[.int .i64 0, .int .i64 0, .int .i64 0] 91) → w'.cell? ⟨w.heap.size, 0, none⟩ = some (.int .i64 0)) ∧ (∀ w : World, W0 = w.alloc (.cells #[.int .i64 0, .int .i64 0, .int .i64 0] 91) → w'.cell? ⟨w.heap.size, 1, none⟩ = some (.int .i64 0)) ∧ (∀ w : World, W0 = w.alloc (.cells #[.int .i64 0, .int .i64 0, .int .i64 0] 91) → w'.cell? ⟨w.heap.size, 2, none⟩ = some (.int .i64 0)) ∧ (∀ w : World, W0 = w.alloc (.cells #[.int .i64 0, .int .i64 0, .int .i64 0] 91) → ∀ j, w'.frozen? ⟨w.heap.size, j, none⟩ = false) ∧ (∀ w : World, W0 = w.alloc (.cells #[.int .i64 0, .int .i64 0, .int .i64 0] 91) → w.heap.size < w'.heap.size) := by
  have hs : ∀ w : World, W0 = w.alloc (.cells #[.int .i64 0, .int .i64 0, .int .i64 0] 91) → w.heap.size < w'.heap.size := fun w e => by
    subst e
    have := m.size
    rw [World.size_alloc] at this
    omega
  refine ⟨fun w e => ?_, fun w e => ?_, fun w e => ?_, fun w e j => ?_, hs⟩
  · subst e; exact (newbox m).1
  · subst e; exact (newbox m).2.1
  · subst e; exact (newbox m).2.2.1
  · subst e
    rw [m.frozen (by rw [World.size_alloc]; omega) (.inr (Nat.zero_le _))]
    simp [go_sem]
theorem newboxC {W0 w' : World} (m : Mk0 W0 w') (w : World) : (W0 = (w.alloc (.cells #[.int .i64 0, .int .i64 0, .int .i64 0] 91)).drew → w'.cell? ⟨w.heap.size, 0, none⟩ = some (.int .i64 0)) ∧ (W0 = (w.alloc (.cells #[.int .i64 0, .int .i64 0, .int .i64 0] 91)).drew → w'.cell? ⟨w.heap.size, 1, none⟩ = some (.int .i64 0)) ∧ (W0 = (w.alloc (.cells #[.int .i64 0, .int .i64 0, .int .i64 0] 91)).drew → w'.cell? ⟨w.heap.size, 2, none⟩ = some (.int .i64 0)) ∧ (W0 = (w.alloc (.cells #[.int .i64 0, .int .i64 0, .int .i64 0] 91)).drew → ∀ j, w'.frozen? ⟨w.heap.size, j, none⟩ = false) ∧ (W0 = (w.alloc (.cells #[.int .i64 0, .int .i64 0, .int .i64 0] 91)).drew → w.heap.size < w'.heap.size) :=
  ⟨fun e => (newboxA m).1 w.drew e, fun e => (newboxA m).2.1 w.drew e, fun e => (newboxA m).2.2.1 w.drew e, fun e j => (newboxA m).2.2.2.1 w.drew e j, fun e => (newboxA m).2.2.2.2 w.drew e⟩
theorem newboxE {W0 wp W1 wq : World} (mp : Mk0 W0 wp) (mq : Mk0 W1 wq) (w : World) : (W0 = (w.alloc (.cells #[.int .i64 0, .int .i64 0, .int .i64 0] 91)).drew → W1 = wp → wq.cell? ⟨w.heap.size, 0, none⟩ = some (.int .i64 0)) ∧ (W0 = (w.alloc (.cells #[.int .i64 0, .int .i64 0, .int .i64 0] 91)).drew → W1 = wp → wq.cell? ⟨w.heap.size, 1, none⟩ = some (.int .i64 0)) ∧ (W0 = (w.alloc (.cells #[.int .i64 0, .int .i64 0, .int .i64 0] 91)).drew → W1 = wp → wq.cell? ⟨w.heap.size, 2, none⟩ = some (.int .i64 0)) ∧ (W0 = (w.alloc (.cells #[.int .i64 0, .int .i64 0, .int .i64 0] 91)).drew → W1 = wp → wq.frozen? ⟨w.heap.size, 0, none⟩ = false) ∧ (W0 = (w.alloc (.cells #[.int .i64 0, .int .i64 0, .int .i64 0] 91)).drew → W1 = wp → wq.frozen? ⟨w.heap.size, 1, none⟩ = false) ∧ (W0 = (w.alloc (.cells #[.int .i64 0, .int .i64 0, .int .i64 0] 91)).drew → W1 = wp → wq.frozen? ⟨w.heap.size, 2, none⟩ = false) ∧ (W0 = (w.alloc (.cells #[.int .i64 0, .int .i64 0, .int .i64 0] 91)).drew → W1 = wp → wq.cell? ⟨w.drew.heap.size, 0, none⟩ = some (.int .i64 0)) ∧ (W0 = (w.alloc (.cells #[.int .i64 0, .int .i64 0, .int .i64 0] 91)).drew → W1 = wp → wq.cell? ⟨w.drew.heap.size, 1, none⟩ = some (.int .i64 0)) ∧ (W0 = (w.alloc (.cells #[.int .i64 0, .int .i64 0, .int .i64 0] 91)).drew → W1 = wp → wq.cell? ⟨w.drew.heap.size, 2, none⟩ = some (.int .i64 0)) ∧ (W0 = (w.alloc (.cells #[.int .i64 0, .int .i64 0, .int .i64 0] 91)).drew → W1 = wp → wq.frozen? ⟨w.drew.heap.size, 0, none⟩ = false) ∧ (W0 = (w.alloc (.cells #[.int .i64 0, .int .i64 0, .int .i64 0] 91)).drew → W1 = wp → wq.frozen? ⟨w.drew.heap.size, 1, none⟩ = false) ∧ (W0 = (w.alloc (.cells #[.int .i64 0, .int .i64 0, .int .i64 0] 91)).drew → W1 = wp → wq.frozen? ⟨w.drew.heap.size, 2, none⟩ = false) := by
  have a : W0 = (w.alloc (.cells #[.int .i64 0, .int .i64 0, .int .i64 0] 91)).drew → W1 = wp → ∀ j, j < 3 → wq.cell? ⟨w.drew.heap.size, j, none⟩ = some (.int .i64 0) ∧ wq.frozen? ⟨w.drew.heap.size, j, none⟩ = false := fun e e1 j hj => by
    subst e1
    have n := newboxA (mp.trans mq)
    match j, hj with
    | 0, _ => exact ⟨n.1 w.drew e, n.2.2.2.1 w.drew e 0⟩
    | 1, _ => exact ⟨n.2.1 w.drew e, n.2.2.2.1 w.drew e 1⟩
    | 2, _ => exact ⟨n.2.2.1 w.drew e, n.2.2.2.1 w.drew e 2⟩
  exact ⟨fun e e1 => (a e e1 0 (by decide)).1, fun e e1 => (a e e1 1 (by decide)).1, fun e e1 => (a e e1 2 (by decide)).1, fun e e1 => (a e e1 0 (by decide)).2, fun e e1 => (a e e1 1 (by decide)).2, fun e e1 => (a e e1 2 (by decide)).2, fun e e1 => (a e e1 0 (by decide)).1, fun e e1 => (a e e1 1 (by decide)).1, fun e e1 => (a e e1 2 (by decide)).1, fun e e1 => (a e e1 0 (by decide)).2, fun e e1 => (a e e1 1 (by decide)).2, fun e e1 => (a e e1 2 (by decide)).2⟩
theorem keep3 {wr w' : World} {g : Nat} {u0 u1 u2 : Value} (h : Mk0 wr w') (hg : wr.heap.size ≤ g) : Mk0 wr (((w'.setCell ⟨g, 0, none⟩ u0).setCell ⟨g, 1, none⟩ u1).setCell ⟨g, 2, none⟩ u2) ∧ ∀ b o v, b < wr.heap.size → w'.cell? ⟨b, o, none⟩ = some v → (((w'.setCell ⟨g, 0, none⟩ u0).setCell ⟨g, 1, none⟩ u1).setCell ⟨g, 2, none⟩ u2).cell? ⟨b, o, none⟩ = some v :=
  ⟨((h.put _ _ hg).put _ _ hg).put _ _ hg, fun b o v hb hv => cell_set (cell_set (cell_set hv _ _ (.inl (by simp only; omega))) _ _ (.inl (by simp only; omega))) _ _ (.inl (by simp only; omega))⟩
theorem swapA {wr w1 : World} {o o' : Obj} (h : Mk0 wr (w1.alloc o)) (hg : wr.heap.size ≤ w1.heap.size) : Mk0 wr (w1.alloc o') ∧ ∀ b q v, b < wr.heap.size → (w1.alloc o).cell? ⟨b, q, none⟩ = some v → (w1.alloc o').cell? ⟨b, q, none⟩ = some v := by
  have e : ∀ k, k < w1.heap.size → (w1.alloc o').heap[k]? = (w1.alloc o).heap[k]? := fun k hk =>
    ((Mk.alloc w1 o').block k hk (.inr (Nat.zero_le _))).trans ((Mk.alloc w1 o).block k hk (.inr (Nat.zero_le _))).symm
  refine ⟨⟨h.os, h.tape, h.output, by rw [World.size_alloc]; omega, fun k hk hr => (e k (by omega)).trans (h.block k hk hr)⟩, fun b q v hb hv => ?_⟩
  rw [World.cell?_of_block (w := w1.alloc o) (e b (by omega))]
  exact hv
theorem vals3 {w' : World} {g : Nat} {u0 u1 u2 v0 v1 v2 : Value} (h0 : w'.cell? ⟨g, 0, none⟩ = some v0) (h1 : w'.cell? ⟨g, 1, none⟩ = some v1) (h2 : w'.cell? ⟨g, 2, none⟩ = some v2) (hf : w'.frozen? ⟨g, 1, none⟩ = false) :
    (((w'.setCell ⟨g, 0, none⟩ u0).setCell ⟨g, 1, none⟩ u1).setCell ⟨g, 2, none⟩ u2).cell? ⟨g, 0, none⟩ = some u0 ∧ (((w'.setCell ⟨g, 0, none⟩ u0).setCell ⟨g, 1, none⟩ u1).setCell ⟨g, 2, none⟩ u2).cell? ⟨g, 1, none⟩ = some u1 ∧ (((w'.setCell ⟨g, 0, none⟩ u0).setCell ⟨g, 1, none⟩ u1).setCell ⟨g, 2, none⟩ u2).cell? ⟨g, 2, none⟩ = some u2 ∧ (((w'.setCell ⟨g, 0, none⟩ u0).setCell ⟨g, 1, none⟩ u1).setCell ⟨g, 2, none⟩ u2).frozen? ⟨g, 1, none⟩ = false :=
  ⟨cell_set (cell_set (World.cell?_setCell_same _ _ _ h0) _ _ (.inr (by simp))) _ _ (.inr (by simp)), cell_set (World.cell?_setCell_same _ _ _ (cell_set h1 _ _ (.inr (by simp)))) _ _ (.inr (by simp)), World.cell?_setCell_same _ _ _ (cell_set (cell_set h2 _ _ (.inr (by simp))) _ _ (.inr (by simp))), frozen_set (frozen_set (frozen_set hf _ _) _ _) _ _⟩
set_option maxRecDepth 100000 in
set_option maxHeartbeats 4000000 in
theorem specPathSteps (a : Option Addr) (n c B : Nat) (ps : List TPathPart) (w : World) (h : HasPathPart w B a n ps) (hB : B ≤ w.heap.size) (hn : szPathPart ps n ≤ 1048576) :
    Calls Tryd.prog 43 #[.agg #[.slice a n c]] w (OutRows 3 TStep.cell w (pathSt ps n)) := by
  have hn0 : n ≤ 1048576 := Nat.le_trans (szPathPart_n ps n) hn
  have M0 := Mk.alloc w (Obj.cells #[Value.slice a n c] 53)
  obtain ⟨i0, hi0, hz0, hz1, hz2⟩ := info_parts infoRStep
  go_enter Tryd.func43, Tryd.ntmps43
  go_wp2_with fail
  have hl0 := own_emptyR (w.alloc (Obj.cells #[Value.slice a n c] 53)) 91 3
  have ML := Mk.alloc (w.alloc (Obj.cells #[Value.slice a n c] 53)) (.cells #[] 91)
  go_loopw [3, 4] (fun v i wr => ∃ k : Nat, k ≤ n ∧ i = .int .i64 k ∧ wr.ownsRow (w.alloc (Obj.cells #[Value.slice a n c] 53)).heap.size 91 3 v (stepsUp ps k).length (rowC 3 TStep.cell (stepsUp ps k)) ∧ Mk0 (w.alloc (Obj.cells #[Value.slice a n c] 53)) wr) (fun _ i _ => n - (intOf i).toNat)
  case atStart => exact ⟨0, Nat.zero_le _, rfl, by simpa [stepsUp, rowC] using hl0, ML⟩
  case round =>
    clear hl0 ML
    obtain ⟨k, hk, rfl, hown, hM⟩ := hrel
    have k0 := hM.cellAt (b := w.heap.size) (o := 0) (v := .slice a n c) (by simp [go_sem])
    have hM' := M0.trans hM
    have hbd := stepsUp_le ps k
    have hbd2 := sumTo_le sePathPart ps hk
    by_cases hlt : k < n
    · obtain ⟨X, hX⟩ : ∃ X, Hid (X = ps.getD k default) := ⟨_, rfl⟩
      obtain ⟨N3, hN3⟩ : ∃ N, Hid (X.hops.length = N) := ⟨_, rfl⟩
      have hs3 : sumTo sePathPart ps k + N3 ≤ 1048576 := by
        have h1 := sumTo_le sePathPart ps (show k + 1 ≤ n from hlt)
        rw [sumTo, ← hX.out] at h1
        unfold sePathPart at h1
        rw [hN3.out] at h1
        unfold szPathPart sePathPart at hn
        unfold sePathPart
        omega
      have HE0 := Lib.hid (show stepsUp ps (k + 1) = joinS (stepsUp ps k) (stL X N3) by rw [stepsUp, ← hX.out, hN3.out])
      go_wp2_with fail
      go_loopw [3, 5] (fun v i wi => ∃ j : Nat, j ≤ N3 ∧ i = .int .i64 j ∧ wi.ownsRow (w.alloc (Obj.cells #[Value.slice a n c] 53)).heap.size 91 3 v (joinS (stepsUp ps k) (stL X j)).length (rowC 3 TStep.cell (joinS (stepsUp ps k) (stL X j))) ∧ Mk0 (w.alloc (Obj.cells #[Value.slice a n c] 53)) wi) (fun _ i _ => N3 - (intOf i).toNat)
      case atStart => exact ⟨0, Nat.zero_le _, rfl, by rw [show stL X 0 = [] from rfl, join_nil]; exact hown, hM⟩
      case round =>
        clear hown hM' hM k0
        obtain ⟨j, hj, rfl, hown, hM⟩ := hrel
        have hM' := M0.trans hM
        have k0 := hM.cellAt (b := w.heap.size) (o := 0) (v := .slice a n c) (by simp [go_sem])
        have hbd3 := joinS_le (stepsUp ps k) (stL X j)
        rw [stL_len] at hbd3
        obtain ⟨L, hL⟩ : ∃ L, Hid (L = (joinS (stepsUp ps k) (stL X j)).length) := ⟨_, rfl⟩
        rw [← hL.out] at hown hbd3
        obtain ⟨A, cc, rfl, hA0⟩ := ownsRow_sliceR hown
        obtain ⟨b, off, x, rfl, hb, hx, a3, n3, c3, d0, d1, d2, d3, r3, m3, t3, z3⟩ := HasPathPart.at _ _ _ _ _ _ (h.mk hM' hB (.inr (Nat.le_refl _))) hlt
        obtain rfl : x = X := hx.out.trans hX.out.symm
        obtain rfl : n3 = N3 := r3.1.symm.trans hN3.out
        by_cases hlj : j < n3
        · obtain ⟨b2, off2, y, rfl, hb2, hy, f0, f1, f2, f3, f4⟩ := HasHop.at _ _ _ _ _ _ r3 hlj
          have hbr := World.block_lt_of_cell? _ _ d0
          simp only at hbr
          have hbw := World.block_lt_of_cell? _ _ k0
          simp only at hbw
          have hby := World.block_lt_of_cell? _ _ f0
          simp only at hby
          have q1 : (0 : Int) ≤ (k : Int) := by omega
          have q2 : (k : Int) < (n : Int) := by omega
          have q3 : (0 : Int) ≤ (j : Int) := by omega
          have q4 : (j : Int) < (n3 : Int) := by omega
          have e6 : stOf x j = ⟨y.nd, pInV x.kind x.hops n3 j, pOutV x.kind x.hops n3 j⟩ := by unfold stOf; rw [← hy.out, hN3.out]
          obtain ⟨PI, hPI⟩ : ∃ v, Hid (v = pInV x.kind x.hops n3 j) := ⟨_, rfl⟩
          obtain ⟨PO, hPO⟩ : ∃ v, Hid (v = pOutV x.kind x.hops n3 j) := ⟨_, rfl⟩
          have E6 := Lib.hid (show stOf x j = ⟨y.nd, PI, PO⟩ by rw [e6, hPI.out, hPO.out])
          clear e6
          have hBr := Nat.le_trans hB hM'.size
          go_upto_region 8 with fail
          go_cut [6] from 18 to 91 (fun s wq => ∃ g, s = .pointer (some ⟨g, 0, none⟩) ∧ wr.heap.size ≤ g ∧ wq.cell? ⟨g, 0, none⟩ = some (.int .i64 y.nd) ∧ wq.cell? ⟨g, 1, none⟩ = some (.int .i64 PI) ∧ wq.cell? ⟨g, 2, none⟩ = some (.int .i64 PO) ∧ wq.frozen? ⟨g, 1, none⟩ = false ∧ Mk0 wr wq)
          case first =>
            have cPI : ∀ w', Mk0 wr w' → Calls Tryd.prog 69 #[.agg #[.int .i64 x.kind, .int .i64 x.ts, .int .i64 x.beta, .slice (some ⟨b2, off2, none⟩) n3 c3], .int .i64 j] w' (fun e w'' => e = .returned (.int .i64 PI) ∧ Mk0 w' w'') := fun w' m => by
              rw [hPI.out]
              exact specPIn _ _ _ _ _ _ B x.hops _ _ (r3.mk m hBr (.inr (Nat.le_refl _))) (Nat.le_trans hBr m.size) (by omega)
            have cPO : ∀ w', Mk0 wr w' → Calls Tryd.prog 70 #[.agg #[.int .i64 x.kind, .int .i64 x.ts, .int .i64 x.beta, .slice (some ⟨b2, off2, none⟩) n3 c3], .int .i64 j] w' (fun e w'' => e = .returned (.int .i64 PO) ∧ Mk0 w' w'') := fun w' m => by
              rw [hPO.out]
              exact specPOut _ _ _ _ _ _ B x.hops _ _ (r3.mk m hBr (.inr (Nat.le_refl _))) (Nat.le_trans hBr m.size) (by omega)
            have hd : wr.drew.heap.size = wr.heap.size := rfl
            go_region_held3 (fun w' => Mk0 wr w' ∧ w'.cell? ⟨w.heap.size, 0, none⟩ = some (.slice (some ⟨b, off, none⟩) n c) ∧ w'.cell? ⟨b, off + k * 4, none⟩ = some (.int .i64 x.kind) ∧ w'.cell? ⟨b, off + k * 4 + 1, none⟩ = some (.int .i64 x.ts) ∧ w'.cell? ⟨b, off + k * 4 + 2, none⟩ = some (.int .i64 x.beta) ∧ w'.cell? ⟨b, off + k * 4 + 3, none⟩ = some (.slice (some ⟨b2, off2, none⟩) n3 c3) ∧ w'.cell? ⟨b2, off2 + j * 5, none⟩ = some (.int .i64 y.nd)) (first | exact ⟨Mk.drew1 _, k0, d0, d1, d2, d3, f0⟩ | (obtain ⟨s0, s1, s2, s3, s4, s5, s6⟩ := ‹Mk0 wr _ ∧ _›; first | exact ⟨s0.trans mm, mm.cellAt s1, mm.cellAt s2, mm.cellAt s3, mm.cellAt s4, mm.cellAt s5, mm.cellAt s6⟩ | exact ⟨s0.trans (Mk.alloc _ _), (Mk.alloc _ _).cellAt s1, (Mk.alloc _ _).cellAt s2, (Mk.alloc _ _).cellAt s3, (Mk.alloc _ _).cellAt s4, (Mk.alloc _ _).cellAt s5, (Mk.alloc _ _).cellAt s6⟩ | exact ⟨(swapA s0 (by omega)).1, (swapA s0 (by omega)).2 _ _ _ hbw s1, (swapA s0 (by omega)).2 _ _ _ hbr s2, (swapA s0 (by omega)).2 _ _ _ hbr s3, (swapA s0 (by omega)).2 _ _ _ hbr s4, (swapA s0 (by omega)).2 _ _ _ hbr s5, (swapA s0 (by omega)).2 _ _ _ hby s6⟩ | exact ⟨(keep3 s0 (by omega)).1, (keep3 s0 (by omega)).2 _ _ _ hbw s1, (keep3 s0 (by omega)).2 _ _ _ hbr s2, (keep3 s0 (by omega)).2 _ _ _ hbr s3, (keep3 s0 (by omega)).2 _ _ _ hbr s4, (keep3 s0 (by omega)).2 _ _ _ hbr s5, (keep3 s0 (by omega)).2 _ _ _ hby s6⟩)) (first | (go_at_call 69; with_reducible refine (cPI _ (‹Mk0 wr _ ∧ _›).1).mono ?_; rintro e wp ⟨rfl, mp⟩; have mm := mp; have zp := mm.size; have np := newboxA mp; have np2 := newboxC mp wr; obtain ⟨qp, rp⟩ := mp.kept) | (go_at_call 70; with_reducible refine (cPO _ (‹Mk0 wr _ ∧ _›).1).mono ?_; rintro e wq ⟨rfl, mq⟩; have mm := mq; have zq := mm.size; have nq := newboxA mq; have nq2 := newboxC mq wr; have nq3 := newboxE mp mq wr; obtain ⟨qq, rq⟩ := mq.kept))
            all_goals (try go_wp2_with fail)
            all_goals go_meet
            all_goals first
              | exact ⟨_, rfl, by omega, by simp [go_sem], by simp [go_sem], by simp [go_sem], by simp [go_sem], (‹Mk0 wr _ ∧ _›).1⟩
              | exact ⟨_, rfl, by omega, (vals3 ((newboxA mq).1 wp rfl) ((newboxA mq).2.1 wp rfl) ((newboxA mq).2.2.1 wp rfl) ((newboxA mq).2.2.2.1 wp rfl 1)).1, (vals3 ((newboxA mq).1 wp rfl) ((newboxA mq).2.1 wp rfl) ((newboxA mq).2.2.1 wp rfl) ((newboxA mq).2.2.2.1 wp rfl 1)).2.1, (vals3 ((newboxA mq).1 wp rfl) ((newboxA mq).2.1 wp rfl) ((newboxA mq).2.2.1 wp rfl) ((newboxA mq).2.2.2.1 wp rfl 1)).2.2.1, (vals3 ((newboxA mq).1 wp rfl) ((newboxA mq).2.1 wp rfl) ((newboxA mq).2.2.1 wp rfl) ((newboxA mq).2.2.2.1 wp rfl 1)).2.2.2, (‹Mk0 wr _ ∧ _›).1⟩
              | exact ⟨_, rfl, Nat.le_refl _, (vals3 ((newboxE mp mq wr).1 rfl rfl) ((newboxE mp mq wr).2.1 rfl rfl) ((newboxE mp mq wr).2.2.1 rfl rfl) ((newboxE mp mq wr).2.2.2.2.1 rfl rfl)).1, (vals3 ((newboxE mp mq wr).1 rfl rfl) ((newboxE mp mq wr).2.1 rfl rfl) ((newboxE mp mq wr).2.2.1 rfl rfl) ((newboxE mp mq wr).2.2.2.2.1 rfl rfl)).2.1, (vals3 ((newboxE mp mq wr).1 rfl rfl) ((newboxE mp mq wr).2.1 rfl rfl) ((newboxE mp mq wr).2.2.1 rfl rfl) ((newboxE mp mq wr).2.2.2.2.1 rfl rfl)).2.2.1, (vals3 ((newboxE mp mq wr).1 rfl rfl) ((newboxE mp mq wr).2.1 rfl rfl) ((newboxE mp mq wr).2.2.1 rfl rfl) ((newboxE mp mq wr).2.2.2.2.1 rfl rfl)).2.2.2, (‹Mk0 wr _ ∧ _›).1⟩
          case rest =>
            obtain ⟨g, rfl, hg, e0, e1, e2, ef, m8⟩ := hcut
            have hM8 := hM.trans m8
            have ho8 := own_keptR hown m8
            have hgw := World.block_lt_of_cell? _ _ e0
            simp only at hgw
            rcases Nat.eq_zero_or_pos k with hk0 | hk0
            · have d1 : decide (0 < k) = false := by simp; omega
              have HK := Lib.hid hk0
              clear hk0
              have HE := Lib.hid (show joinS (stepsUp ps k) (stL x (j + 1)) = joinS (stepsUp ps k) (stL x j) ++ [⟨y.nd, PI, PO⟩] by rw [addS_join, E6.out]; unfold addS; rw [if_neg (fun h => by have := HK.out; omega)])
              go_wp2_with fail
              go_quiet (fail)
              have hh3 : ∀ W : World, HasStep (W.alloc (.cells #[Value.int .i64 y.nd, Value.int .i64 PI, Value.int .i64 PO] 91)) (W.alloc (.cells #[Value.int .i64 y.nd, Value.int .i64 PI, Value.int .i64 PO] 91)).heap.size (some ⟨W.heap.size, 0, none⟩) 1 [⟨y.nd, PI, PO⟩] := fun W => hasR_new (cell := TStep.cell) (nc := 3) (by decide) W 91 ⟨y.nd, PI, PO⟩ _ (fun j hj => by match j, hj with | 0, _ => rfl | 1, _ => rfl | 2, _ => rfl)
              go_wp2_with (at_builtin; refine wpList_appR (by decide) oneStep rfl (.tmp 88) (.tmp 90) 87 rfl _ 91 i0 _ Tryd.underlying87 hi0 hz0 rfl hz1 (by rw [hz2]; decide) _ _ L rfl (own_keptR (own_keptR ho8 (Mk.drewN wc _)) (Mk.alloc _ _)) _ 1 1 [⟨y.nd, PI, PO⟩] rfl (fun h => by cases h) (hh3 _) (by omega) ((hM8.trans (Mk.drewN _ _)).trans (Mk.alloc _ _)).size ?_; intro v2 w3 hown2 hgr2)
              have M9 := ((hM8.trans (Mk.drewN _ _)).trans (Mk.alloc _ _)).appR hgr2 (fun q hq => (ho8.lt q hq).1)
              go_wp2_with fail
              go_roundw
              case rel => first | exact ⟨j + 1, by omega, by go_num, by rw [HE.out, List.length_append, ← hL.out]; exact hown2, M9⟩ | ((repeat apply Exists.intro); exact ⟨⟨j + 1, by omega, by go_num, by rw [HE.out, List.length_append, ← hL.out]; exact hown2, M9⟩, rfl⟩)
              case measure => simp [intOf]; omega
            · have d1 : decide (0 < k) = true := by simp; omega
              have u1 : 0 < k := by omega
              by_cases hj0 : j = 0
              · have HJ := Lib.hid hj0
                have d2 : ((j : Int) == 0) = true := by simp; omega
                have d3 : (j == 0) = true := by simp; omega
                clear hj0
                rcases Nat.eq_zero_or_pos L with hL0 | hL0
                · have d4 : decide (0 < L) = false := by simp; omega
                  have HL0 := Lib.hid hL0
                  clear hL0
                  have HE := Lib.hid (show joinS (stepsUp ps k) (stL x (j + 1)) = joinS (stepsUp ps k) (stL x j) ++ [⟨y.nd, PI, PO⟩] by rw [addS_join, E6.out]; unfold addS; rw [if_neg (fun h => by have h2 := (meet_pos h.2.2).1; rw [← hL.out] at h2; have := HL0.out; omega)])
                  go_wp2_with fail
                  go_quiet (fail)
                  have hh3 : ∀ W : World, HasStep (W.alloc (.cells #[Value.int .i64 y.nd, Value.int .i64 PI, Value.int .i64 PO] 91)) (W.alloc (.cells #[Value.int .i64 y.nd, Value.int .i64 PI, Value.int .i64 PO] 91)).heap.size (some ⟨W.heap.size, 0, none⟩) 1 [⟨y.nd, PI, PO⟩] := fun W => hasR_new (cell := TStep.cell) (nc := 3) (by decide) W 91 ⟨y.nd, PI, PO⟩ _ (fun j hj => by match j, hj with | 0, _ => rfl | 1, _ => rfl | 2, _ => rfl)
                  go_wp2_with (at_builtin; refine wpList_appR (by decide) oneStep rfl (.tmp 88) (.tmp 90) 87 rfl _ 91 i0 _ Tryd.underlying87 hi0 hz0 rfl hz1 (by rw [hz2]; decide) _ _ L rfl (own_keptR (own_keptR ho8 (Mk.drewN wc _)) (Mk.alloc _ _)) _ 1 1 [⟨y.nd, PI, PO⟩] rfl (fun h => by cases h) (hh3 _) (by omega) ((hM8.trans (Mk.drewN _ _)).trans (Mk.alloc _ _)).size ?_; intro v2 w3 hown2 hgr2)
                  have M9 := ((hM8.trans (Mk.drewN _ _)).trans (Mk.alloc _ _)).appR hgr2 (fun q hq => (ho8.lt q hq).1)
                  go_wp2_with fail
                  go_roundw
                  case rel => first | exact ⟨j + 1, by omega, by go_num, by rw [HE.out, List.length_append, ← hL.out]; exact hown2, M9⟩ | ((repeat apply Exists.intro); exact ⟨⟨j + 1, by omega, by go_num, by rw [HE.out, List.length_append, ← hL.out]; exact hown2, M9⟩, rfl⟩)
                  case measure => simp [intOf]; omega
                · have d4 : decide (0 < L) = true := by simp; omega
                  obtain ⟨m, hmL⟩ : ∃ m, Hid (L = m + 1) := ⟨L - 1, by show L = L - 1 + 1; omega⟩
                  obtain ⟨g2, rfl⟩ : ∃ g, A = some ⟨g, 0, none⟩ := by
                    rcases hown.2 with ⟨h', h0⟩ | ⟨g, cap, cur, h', _⟩
                    · omega
                    · simp only [Value.slice.injEq] at h'
                      exact ⟨g, h'.1⟩
                  have hg2 := hown.lt g2 rfl
                  obtain ⟨z, hz⟩ : ∃ z, Hid (z = lastS (joinS (stepsUp ps k) (stL x j))) := ⟨_, rfl⟩
                  have hlast : ∀ q, q < 3 → wc.cell? ⟨g2, m * 3 + q, none⟩ = some (TStep.cell z q) := fun q hq => by
                    have hh := hmL.out
                    have hh2 := hL.out
                    rw [ho8.cellAt (m * 3 + q) (by omega), rowC_get (by decide) _ _ (by omega), flat_at _ m q hq, hz.out]
                    unfold lastS
                    rw [← hh2, hh]
                    rfl
                  have l0 : wc.cell? ⟨g2, m * 3, none⟩ = some (.int .i64 z.nd) := hlast 0 (by decide)
                  have l1 : wc.cell? ⟨g2, m * 3 + 1, none⟩ = some (.int .i64 z.ing) := hlast 1 (by decide)
                  clear hlast
                  have hw : IntKind.i64.wrap ((L : Int) - 1) = (m : Int) := by have := hmL.out; rw [show (L : Int) - 1 = (m : Int) by omega]; rw [IntKind.wrap_i64]; omega
                  have i1 : (0 : Int) ≤ (m : Int) := by omega
                  have i2 : (m : Int) < (L : Int) := by have := hmL.out; omega
                  have hLc : L ≤ cc := by obtain ⟨_, _, e, _, h⟩ := ownsRow_sliceR2 hown; injection e with _ _ e3; omega
                  have i3 : (m : Int) ≤ (cc : Int) := by omega
                  have i4 : m ≤ cc := by omega
                  cases hnd : (z.nd == y.nd)
                  · have HE := Lib.hid (show joinS (stepsUp ps k) (stL x (j + 1)) = joinS (stepsUp ps k) (stL x j) ++ [⟨y.nd, PI, PO⟩] by rw [addS_join, E6.out]; unfold addS; rw [if_neg (fun h => by have h2 := h.2.2; unfold meetB at h2; rw [← hz.out] at h2; simp [hnd] at h2)])
                    go_wp2_with fail
                    go_quiet (fail)
                    have hh3 : ∀ W : World, HasStep (W.alloc (.cells #[Value.int .i64 y.nd, Value.int .i64 PI, Value.int .i64 PO] 91)) (W.alloc (.cells #[Value.int .i64 y.nd, Value.int .i64 PI, Value.int .i64 PO] 91)).heap.size (some ⟨W.heap.size, 0, none⟩) 1 [⟨y.nd, PI, PO⟩] := fun W => hasR_new (cell := TStep.cell) (nc := 3) (by decide) W 91 ⟨y.nd, PI, PO⟩ _ (fun j hj => by match j, hj with | 0, _ => rfl | 1, _ => rfl | 2, _ => rfl)
                    go_wp2_with (at_builtin; refine wpList_appR (by decide) oneStep rfl (.tmp 88) (.tmp 90) 87 rfl _ 91 i0 _ Tryd.underlying87 hi0 hz0 rfl hz1 (by rw [hz2]; decide) _ _ L rfl (own_keptR (own_keptR ho8 (Mk.drewN wc _)) (Mk.alloc _ _)) _ 1 1 [⟨y.nd, PI, PO⟩] rfl (fun h => by cases h) (hh3 _) (by omega) ((hM8.trans (Mk.drewN _ _)).trans (Mk.alloc _ _)).size ?_; intro v2 w3 hown2 hgr2)
                    have M9 := ((hM8.trans (Mk.drewN _ _)).trans (Mk.alloc _ _)).appR hgr2 (fun q hq => (ho8.lt q hq).1)
                    go_wp2_with fail
                    go_roundw
                    case rel => first | exact ⟨j + 1, by omega, by go_num, by rw [HE.out, List.length_append, ← hL.out]; exact hown2, M9⟩ | ((repeat apply Exists.intro); exact ⟨⟨j + 1, by omega, by go_num, by rw [HE.out, List.length_append, ← hL.out]; exact hown2, M9⟩, rfl⟩)
                    case measure => simp [intOf]; omega
                  · have HE := Lib.hid (show joinS (stepsUp ps k) (stL x (j + 1)) = (joinS (stepsUp ps k) (stL x j)).dropLast ++ [⟨y.nd, z.ing, PO⟩] by
                      rw [addS_join, E6.out]
                      unfold addS
                      rw [if_pos ⟨u1, HJ.out, by unfold meetB; rw [← hz.out, ← hL.out]; simp [hnd]; omega⟩, ← hz.out])
                    go_wp2_with fail
                    go_quiet (fail)
                    have hh3 : ∀ W : World, HasStep (W.alloc (.cells #[Value.int .i64 y.nd, Value.int .i64 z.ing, Value.int .i64 PO] 91)) (W.alloc (.cells #[Value.int .i64 y.nd, Value.int .i64 z.ing, Value.int .i64 PO] 91)).heap.size (some ⟨W.heap.size, 0, none⟩) 1 [⟨y.nd, z.ing, PO⟩] := fun W => hasR_new (cell := TStep.cell) (nc := 3) (by decide) W 91 ⟨y.nd, z.ing, PO⟩ _ (fun j hj => by match j, hj with | 0, _ => rfl | 1, _ => rfl | 2, _ => rfl)
                    have T3 := fun N : Nat => own_keptR (own_setR (own_keptR (ownsRow_pop ho8 hmL.out) (Mk.drewN wc N)) ⟨g, 1, none⟩ (.int .i64 z.ing) (fun q hq => by have e : some g2 = some q := hq; injection e with e; subst e; show g2 ≠ g; omega)) (Mk.alloc _ (Obj.cells #[Value.int .i64 y.nd, Value.int .i64 z.ing, Value.int .i64 PO] 91))
                    have T4 : ∀ N : Nat, HasStep (((wc.drewN N).setCell ⟨g, 1, none⟩ (.int .i64 z.ing)).alloc (Obj.cells #[Value.int .i64 y.nd, Value.int .i64 z.ing, Value.int .i64 PO] 91)) (((wc.drewN N).setCell ⟨g, 1, none⟩ (.int .i64 z.ing)).alloc (Obj.cells #[Value.int .i64 y.nd, Value.int .i64 z.ing, Value.int .i64 PO] 91)).heap.size (some ⟨wc.heap.size, 0, none⟩) 1 [⟨y.nd, z.ing, PO⟩] := fun N => by
                      have h := hh3 ((wc.drewN N).setCell ⟨g, 1, none⟩ (.int .i64 z.ing))
                      rw [show ((wc.drewN N).setCell ⟨g, 1, none⟩ (.int .i64 z.ing)).heap.size = wc.heap.size from World.size_set _ _ _] at h
                      exact h
                    have T5 := fun N : Nat => ((hM8.trans (Mk.drewN wc N)).put ⟨g, 1, none⟩ (.int .i64 z.ing) (Nat.le_trans hM.size hg)).trans (Mk.alloc _ (Obj.cells #[Value.int .i64 y.nd, Value.int .i64 z.ing, Value.int .i64 PO] 91))
                    go_wp2_with (at_builtin; refine wpList_appR (by decide) oneStep rfl (.tmp 88) (.tmp 90) 87 rfl _ 91 i0 _ Tryd.underlying87 hi0 hz0 rfl hz1 (by rw [hz2]; decide) _ _ m rfl (T3 _) _ 1 1 [⟨y.nd, z.ing, PO⟩] rfl (fun h => by cases h) (T4 _) (by have := hmL.out; omega) (T5 _).size ?_; intro v2 w3 hown2 hgr2)
                    have M9 := (T5 _).appR hgr2 (fun q hq => by have e : some g2 = some q := hq; injection e with e; subst e; exact hg2.1)
                    go_wp2_with fail
                    go_roundw
                    case rel => first | exact ⟨j + 1, by omega, by go_num, by rw [HE.out, List.length_append, List.length_dropLast, ← hL.out, hmL.out]; exact hown2, M9⟩ | ((repeat apply Exists.intro); exact ⟨⟨j + 1, by omega, by go_num, by rw [HE.out, List.length_append, List.length_dropLast, ← hL.out, hmL.out]; exact hown2, M9⟩, rfl⟩)
                    case measure => simp [intOf]; omega
              · have d2 : ((j : Int) == 0) = false := by simp; omega
                have d3 : (j == 0) = false := by simp; omega
                have HE := Lib.hid (show joinS (stepsUp ps k) (stL x (j + 1)) = joinS (stepsUp ps k) (stL x j) ++ [⟨y.nd, PI, PO⟩] by rw [addS_join, E6.out]; unfold addS; rw [if_neg (fun h => by omega)])
                go_wp2_with fail
                go_quiet (fail)
                have hh3 : ∀ W : World, HasStep (W.alloc (.cells #[Value.int .i64 y.nd, Value.int .i64 PI, Value.int .i64 PO] 91)) (W.alloc (.cells #[Value.int .i64 y.nd, Value.int .i64 PI, Value.int .i64 PO] 91)).heap.size (some ⟨W.heap.size, 0, none⟩) 1 [⟨y.nd, PI, PO⟩] := fun W => hasR_new (cell := TStep.cell) (nc := 3) (by decide) W 91 ⟨y.nd, PI, PO⟩ _ (fun j hj => by match j, hj with | 0, _ => rfl | 1, _ => rfl | 2, _ => rfl)
                go_wp2_with (at_builtin; refine wpList_appR (by decide) oneStep rfl (.tmp 88) (.tmp 90) 87 rfl _ 91 i0 _ Tryd.underlying87 hi0 hz0 rfl hz1 (by rw [hz2]; decide) _ _ L rfl (own_keptR (own_keptR ho8 (Mk.drewN wc _)) (Mk.alloc _ _)) _ 1 1 [⟨y.nd, PI, PO⟩] rfl (fun h => by cases h) (hh3 _) (by omega) ((hM8.trans (Mk.drewN _ _)).trans (Mk.alloc _ _)).size ?_; intro v2 w3 hown2 hgr2)
                have M9 := ((hM8.trans (Mk.drewN _ _)).trans (Mk.alloc _ _)).appR hgr2 (fun q hq => (ho8.lt q hq).1)
                go_wp2_with fail
                go_roundw
                case rel => first | exact ⟨j + 1, by omega, by go_num, by rw [HE.out, List.length_append, ← hL.out]; exact hown2, M9⟩ | ((repeat apply Exists.intro); exact ⟨⟨j + 1, by omega, by go_num, by rw [HE.out, List.length_append, ← hL.out]; exact hown2, M9⟩, rfl⟩)
                case measure => simp [intOf]; omega
        · obtain rfl : j = n3 := by omega
          go_wp2_with fail
          go_roundw
          case rel => exact ⟨k + 1, by omega, by go_num, by rw [HE0.out, ← hL.out]; exact hown, hM⟩
          case measure => simp [intOf]; omega
    · obtain rfl : k = n := by omega
      obtain ⟨L, hL⟩ : ∃ L, Hid (L = (stepsUp ps k).length) := ⟨_, rfl⟩
      rw [← hL.out] at hown hbd
      obtain ⟨A, cc, rfl, hA0⟩ := ownsRow_sliceR hown
      have hLb : L ≤ 1048576 := by unfold szPathPart at hn; omega
      rcases Nat.eq_zero_or_pos L with h0 | hpos
      · subst h0
        have HP := Lib.hid (show pathSt ps k = stepsUp ps k by unfold pathSt finS; rw [if_pos hL.out.symm])
        go_wp2_with fail
        go_ret
        exact OutRows.of (by decide) (own_lowR (by rw [HP.out]; exact hown) M0.size) hM'
      · obtain ⟨m, hmL⟩ : ∃ m, Hid (L = m + 1) := ⟨L - 1, by show L = L - 1 + 1; omega⟩
        obtain ⟨g, rfl⟩ : ∃ g, A = some ⟨g, 0, none⟩ := by
          rcases hown.2 with ⟨h', h0⟩ | ⟨g, cap, cur, h', _⟩
          · omega
          · simp only [Value.slice.injEq] at h'
            exact ⟨g, h'.1⟩
        have hg := hown.lt g rfl
        have hgs := hg.2
        obtain ⟨x, hx⟩ : ∃ x, Hid (x = (stepsUp ps k).getD 0 default) := ⟨_, rfl⟩
        have hfst : ∀ q, q < 3 → wr.cell? ⟨g, q, none⟩ = some (TStep.cell x q) := fun q hq => by
          have hh2 := hL.out
          have := flat_at (nc := 3) (cell := TStep.cell) (stepsUp ps k) 0 q hq
          rw [Nat.zero_mul, Nat.zero_add] at this
          rw [hown.cellAt q (by omega), rowC_get (by decide) _ _ (by omega), this, hx.out]
        have c0 : wr.cell? ⟨g, 0, none⟩ = some (.int .i64 x.nd) := hfst 0 (by decide)
        have c1 : wr.cell? ⟨g, 1, none⟩ = some (.int .i64 x.ing) := hfst 1 (by decide)
        have c2 : wr.cell? ⟨g, 2, none⟩ = some (.int .i64 x.eg) := hfst 2 (by decide)
        have f0 : wr.frozen? ⟨g, 0, none⟩ = false := hown.frozenAt _
        have f1 : wr.frozen? ⟨g, 1, none⟩ = false := hown.frozenAt _
        have f2 : wr.frozen? ⟨g, 2, none⟩ = false := hown.frozenAt _
        have hs1 := own_put3 hown 0 (by rw [← hL.out]; exact hpos) ⟨x.nd, 0, x.eg⟩
        simp only [Nat.zero_mul, Nat.zero_add] at hs1
        rw [show (stepsUp ps k).set 0 ⟨x.nd, 0, x.eg⟩ = fin1 (stepsUp ps k) by rw [hx.out]; rfl] at hs1
        obtain ⟨z, hz⟩ : ∃ z, Hid (z = lastS (fin1 (stepsUp ps k))) := ⟨_, rfl⟩
        have hlst : ∀ q, q < 3 → (((wr.setCell ⟨g, 0, none⟩ (.int .i64 x.nd)).setCell ⟨g, 1, none⟩ (.int .i64 0)).setCell ⟨g, 2, none⟩ (.int .i64 x.eg)).cell? ⟨g, m * 3 + q, none⟩ = some (TStep.cell z q) := fun q hq => by
          have hh := hmL.out
          have hh2 := hL.out
          rw [hs1.cellAt (m * 3 + q) (by omega), rowC_get (by decide) _ _ (by rw [fin1_len]; omega), flat_at _ m q hq, hz.out]
          unfold lastS
          rw [fin1_len, ← hh2, hh]
          rfl
        have l0 : (((wr.setCell ⟨g, 0, none⟩ (.int .i64 x.nd)).setCell ⟨g, 1, none⟩ (.int .i64 0)).setCell ⟨g, 2, none⟩ (.int .i64 x.eg)).cell? ⟨g, m * 3, none⟩ = some (.int .i64 z.nd) := hlst 0 (by decide)
        have l1 : (((wr.setCell ⟨g, 0, none⟩ (.int .i64 x.nd)).setCell ⟨g, 1, none⟩ (.int .i64 0)).setCell ⟨g, 2, none⟩ (.int .i64 x.eg)).cell? ⟨g, m * 3 + 1, none⟩ = some (.int .i64 z.ing) := hlst 1 (by decide)
        have l2 : (((wr.setCell ⟨g, 0, none⟩ (.int .i64 x.nd)).setCell ⟨g, 1, none⟩ (.int .i64 0)).setCell ⟨g, 2, none⟩ (.int .i64 x.eg)).cell? ⟨g, m * 3 + 2, none⟩ = some (.int .i64 z.eg) := hlst 2 (by decide)
        have p0 : wr.frozen? ⟨g, m * 3, none⟩ = false := hown.frozenAt _
        have p1 : wr.frozen? ⟨g, m * 3 + 1, none⟩ = false := hown.frozenAt _
        have p2 : wr.frozen? ⟨g, m * 3 + 2, none⟩ = false := hown.frozenAt _
        clear hfst hlst
        have hw : IntKind.i64.wrap ((L : Int) - 1) = (m : Int) := by have := hmL.out; rw [show (L : Int) - 1 = (m : Int) by omega]; rw [IntKind.wrap_i64]; omega
        have i1 : (0 : Int) ≤ (m : Int) := by omega
        have i2 : (m : Int) < (L : Int) := by have := hmL.out; omega
        have i3 : (0 : Int) < (L : Int) := by omega
        have hs2 := own_put3 hs1 m (by rw [fin1_len, ← hL.out, hmL.out]; omega) ⟨z.nd, z.ing, 0⟩
        have HP := Lib.hid (show pathSt ps k = (fin1 (stepsUp ps k)).set m ⟨z.nd, z.ing, 0⟩ by
          have hh := hmL.out
          have hh2 := hL.out
          unfold pathSt finS
          rw [if_neg (by omega)]
          unfold fin2
          rw [fin1_len, ← hh2, hh, hz.out]
          rfl)
        have M1 := (((((hM.put ⟨g, 0, none⟩ (.int .i64 x.nd) hg.1).put ⟨g, 1, none⟩ (.int .i64 0) hg.1).put ⟨g, 2, none⟩ (.int .i64 x.eg) hg.1).put ⟨g, m * 3, none⟩ (.int .i64 z.nd) hg.1).put ⟨g, m * 3 + 1, none⟩ (.int .i64 z.ing) hg.1).put ⟨g, m * 3 + 2, none⟩ (.int .i64 0) hg.1
        rw [← HP.out] at hs2
        go_wp2_with fail
        go_ret
        exact OutRows.of (by decide) (own_lowR (own_keptR (own_keptR hs2 (Mk.alloc _ _)) (Mk.alloc _ _)) M0.size) (M0.trans ((M1.trans (Mk.alloc _ _)).trans (Mk.alloc _ _)))

end Go.Proofs.YthpejolljkbenaaDoor
