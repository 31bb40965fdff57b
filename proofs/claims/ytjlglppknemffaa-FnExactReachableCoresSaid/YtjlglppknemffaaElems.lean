
/- The elements of a set and their number, by the program. -/
import Derived.Test.YtjlglppknemffaaIter
import Derived.Maps.OwnIn
namespace Go.Proofs.Ytjlglppknemffaa
open Go Go.Proofs Go.RowKit Go.Shelf Go.ChangeShapes Go.WideShapes Go.ChangeAt
set_option linter.unusedVariables false
attribute [local go_sem] Oper.semAt_some
set_option maxRecDepth 100000 in
set_option maxHeartbeats 4000000 in
theorem elements_in (s : Int) (w : World) :
    CallsIn Fence.wide 6 Try.prog 68 #[.int .i64 s] w fun e w' => ∃ v, e = .returned v ∧ w'.ownsRow w.heap.size 3 1 v (elN s 16).length ((elN s 16).map (.int .i64)) ∧ Below w.heap.size w w' := by
  refine callsIn_of_wp_marks Try.func68 rfl trivial ?_ rfl
  simp only [Try.ntmps68, List.size_toArray, List.length_cons, List.length_nil, Nat.reduceAdd, Nat.reduceSub, Array.replicate_succ, Array.replicate_zero, List.push_toArray, List.append_toArray, List.nil_append, List.cons_append]
  gi_wp2_with (refine ⟨trivial, ?_⟩; gi_at_call 76; refine (elementsOf_in _ _).mono ?_; rintro e w' ⟨rfl, rfl⟩)
  obtain ⟨i0, hi, hz0, hz1, hz2⟩ := info_parts infoI64
  have o0 := own_lit w 3 [] (by simp)
  have bO := Boxed.new (w.alloc (.cells #[] 3)) 35 (.slice (some ⟨w.heap.size, 0, none⟩) 0 0)
  have bN := Boxed.new ((w.alloc (.cells #[] 3)).alloc (.cells #[.slice (some ⟨w.heap.size, 0, none⟩) 0 0] 35)) 3 (.int .i64 s)
  simp only [World.size_alloc] at bO bN
  have hB0 : Below w.heap.size w (((w.alloc (.cells #[] 3)).alloc (.cells #[.slice (some ⟨w.heap.size, 0, none⟩) 0 0] 35)).alloc (.cells #[.int .i64 s] 3)) := (((Below.refl _ w).alloc (Nat.le_refl _) _).alloc (by simp) _).alloc (by simp; omega) _
  refine wpIn_rangeFunc_ownF rfl (by decide) (gf := 105) (lb := #[.pointer (some ⟨w.heap.size + 1 + 1, 0, none⟩)]) rfl trivial (enters_of Try.func105 (by kernel_rfl) rfl)
    (elements_stops s (w.heap.size + 1 + 1) w.heap.size _ (by simp) bN.cell) KpC.t (KpC.b (by simp; omega) (by simp)) (Below.refl _ _) (fun _ => rfl)
    (fun pre W => (∃ v, Boxed W (w.heap.size + 1) 35 v ∧ W.ownsRow w.heap.size 3 1 v pre.length (pre.map (Value.int .i64)) ∧ v.ownBlock ≠ some (w.heap.size + 1 + 1)) ∧ W.cell? ⟨w.heap.size + 1 + 1, 0, none⟩ = some (.int .i64 s) ∧ Below w.heap.size w W)
    (fun _ _ _ => False)
    (OwnFrom.and (Own.from (holdsRow_own w.heap.size (w.heap.size + 1) 35 3 1 (fun pre : List Int => pre.length) (fun pre : List Int => pre.map (Value.int .i64)) (fun (pre : List Int) v => v.ownBlock ≠ some (w.heap.size + 1 + 1))) _) (OwnFrom.and (Own.from (fun s A B row hs hg hr => cell_kept hs hg hr) _) (ownFrom_below (Nat.le_refl _) (by simp; omega))))
    (fun _ _ _ _ _ hs _ _ => hs)
    ⟨⟨_, bO.alloc _, (o0.alloc _).alloc _, by simp [Value.ownBlock]; omega⟩, bN.cell, hB0⟩
    (fun x => { tmps := #[.int .i64 s, undef, .slice none 0 0, .pointer (some ⟨w.heap.size + 1, 0, none⟩), .int .i64 x, .slice (some ⟨w.heap.size, 0, none⟩) 0 0, .int .i64 s, .func (.func 105) #[] #[.pointer (some ⟨w.heap.size + 1 + 1, 0, none⟩)], .int .i64 x, undef, undef, undef, undef, undef], defers := [] }) ?assign ?body ?done ?stop
  case assign =>
    intro l x W K hK
    gi_wp2
    exact hK
  case body =>
    rintro l pre x W ⟨⟨v, hv, hrow, hnb⟩, hcs, hB⟩ hlt
    have hc := hv.cell
    have hbl : w.heap.size + 1 + 1 < W.heap.size := World.block_lt_of_cell? W _ hcs
    have HN := Lib.hid hnb
    clear hnb
    have hbnd : pre.length + 1 ≤ maxLen := by unfold maxLen; omega
    have hbnd2 : (pre.length + 1) * 8 ≤ 140737488355328 := by omega
    have hbs : w.heap.size ≤ (W.alloc (.cells #[.int .i64 x] 3)).heap.size := by simp; omega
    gi_wp2_with (gi_at_builtin; refine wpListIn_append_own_at _ rfl _ _ 35 rfl w.heap.size 3 i0 (.int .i64 0) 1 8 Try.underlying35 hi hz0 hz1 hz2 rfl (by decide) _ _ _ rfl (hrow.alloc _) ⟨W.heap.size, 0, none⟩ 1 1 [.int .i64 x] rfl rfl (cell_one_new _ _ _) (by simp [Value.oneCell']) hbnd hbnd2 hbs ?_; intro v' w1 hown' hgrow _ hat; obtain ⟨g', cap', rfl⟩ := ownsRow_succ hown'; obtain ⟨hv1, hv2, hr2, hk2, hb2⟩ := hv.appended (by decide) hrow hB.size (by omega) hown' hgrow; have hc1 := hv1.cell; have hf1 := hv1.frozen)
    have hblk : w1.heap[w.heap.size + 1 + 1]? = W.heap[w.heap.size + 1 + 1]? := (hgrow.block _ (by simp; omega) (fun e => HN.out e.symm)).trans (Below.heap_alloc W _ _ hbl)
    have hblk2 := (Below.heap_setCell w1 ⟨w.heap.size + 1, 0, none⟩ (Value.slice (some ⟨g', 0, none⟩) (pre.length + 1) cap') (w.heap.size + 1 + 1) (by simp)).trans hblk
    refine ⟨hk2, ⟨hb2, hblk2⟩, ⟨_, hv2, by simpa using hr2, ?_⟩, (World.cell?_of_block (w := W) (a := ⟨w.heap.size + 1 + 1, 0, none⟩) hblk2).trans hcs, hB.trans hb2⟩
    rcases hat with h | h
    · rw [h]; exact HN.out
    · rw [h]; simp; omega
  case done =>
    rintro D ys W hD rfl ⟨⟨v, hv, hrow, hnb⟩, hcs, hB⟩ hK
    have hc := hv.cell
    clear hnb hcs
    gi_wp2
    refine ⟨by simp, .inl ⟨_, _, rfl, run_takeDeferred hK, ?_⟩⟩
    exact ⟨_, results_tmp rfl _ _ _, v, rfl, ownsRow_putObj hrow _ hK rfl, hB.trans (belowK_b (w := w) (Nat.le_refl _) W D _ _ (by simp at hD; omega) hK rfl rfl)⟩
  case stop =>
    rintro D c pre W _ _ h _
    exact h.elim
end Go.Proofs.Ytjlglppknemffaa
