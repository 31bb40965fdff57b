
/- EgressSteps of the program. -/
import Derived.Test.YtldnfjpdhmjhoaaEgS
import Derived.RangeFuncNested
namespace Go.Proofs.Ytldnfjpdhmjhoaa
open Go Go.Proofs Go.RowKit Go.Shelf Go.ChangeShapes Go.WideShapes Go.ChangeAt
set_option linter.unusedVariables false
attribute [local go_sem] Oper.semAt_some
theorem cells3_new (W : World) (e : TypeId) (u0 u1 u2 : Value) : ∀ j u, [u0, u1, u2][j]? = some u → (W.alloc (.cells #[u0, u1, u2] e)).cell? ((⟨W.heap.size, 0, none⟩ : Addr).add j) = some u := by
  intro j u hu
  rw [add_plain, World.cell?_alloc_at _ _ _ _ rfl]
  match j, hu with
  | 0, hu => simpa using hu
  | 1, hu => simpa using hu
  | 2, hu => simpa using hu
set_option maxRecDepth 100000 in
set_option maxHeartbeats 16000000 in
theorem aseq_in (bp : Nat) (a : Option Addr) (n c B : Nat) (ps : List TPathPart) (w : World) (h : HasPathPart w B a n ps) (hB : B ≤ w.heap.size) (hs : szPathPart ps n ≤ 1048576) (hbl : bp < w.heap.size) (hbp : w.cell? ⟨bp, 0, none⟩ = some (.slice a n c)) :
    CallsIn Fence.wide 6 Try.prog 45 #[.slice none 0 0, .func (.func 46) #[] #[.pointer (some ⟨bp, 0, none⟩)]] w fun e w' => ∃ v, e = .returned v ∧ w'.ownsRow w.heap.size 49 3 v (filtUp leaves (pathSt ps n) (pathSt ps n).length).length (rowC 3 TStep.cell (filtUp leaves (pathSt ps n) (pathSt ps n).length)) ∧ Below w.heap.size w w' := by
  obtain ⟨i0, hi0, hz0, hz1, hz2⟩ := info_parts infoRStep
  have hlenR := Nat.le_trans (pathSt_le ps n) hs
  have bO := Boxed.new w 26 (.slice none 0 0)
  have MB := Mk.alloc w (Obj.cells #[Value.slice none 0 0] 26)
  have hsB : (w.alloc (Obj.cells #[Value.slice none 0 0] 26)).heap.size = w.heap.size + 1 := by rw [World.size_alloc]
  have o0 : (w.alloc (Obj.cells #[Value.slice none 0 0] 26)).ownsRow w.heap.size 49 3 (.slice none 0 0) 0 (rowC 3 TStep.cell []) := World.ownsRow_nil _ _ _ _
  have hbp2 := MB.cellAt hbp
  have hH2 := h.mk MB hB (.inr (Nat.le_refl _))
  have hstops := Lib.hid (egr_stops bp w.heap.size 26 a n c B ps (w.alloc (Obj.cells #[Value.slice none 0 0] 26)) (by omega) hbp2 hH2 (by omega) hs _ bO (fun g hg => by cases hg))
  have hB0 := MB.below0
  refine callsIn_of_wp_marks Try.func45 rfl trivial ?_ rfl
  simp only [Try.ntmps45, List.size_toArray, List.length_cons, List.length_nil, Nat.reduceAdd, Nat.reduceSub, Array.replicate_succ, Array.replicate_zero, List.push_toArray, List.append_toArray, List.nil_append, List.cons_append]
  gi_wp2_with fail
  refine wpIn_rangeFunc_ownH rfl (by decide) (gf := 46) (lb := #[.pointer (some ⟨bp, 0, none⟩)]) rfl trivial (enters_of Try.func46 (by kernel_rfl) rfl)
    hstops.out KpB.t (KpB.b (by simp)) (Below.refl _ _) (fun _ => rfl)
    (fun (pre : List TStep) W => (∃ v, Boxed W w.heap.size 26 v ∧ W.ownsRow w.heap.size 49 3 v pre.length (rowC 3 TStep.cell pre) ∧ True) ∧ Below w.heap.size w W)
    (fun _ _ _ => False)
    (OwnFrom.and (Own.from (holdsRow_own w.heap.size w.heap.size 26 49 3 (fun pre : List TStep => pre.length) (fun pre : List TStep => rowC 3 TStep.cell pre) (fun (pre : List TStep) v => True)) _) (ownFrom_below (Nat.le_refl _) (by simp)))
    (fun _ _ _ _ _ hs _ _ => hs)
    ⟨⟨_, bO, o0, trivial⟩, hB0⟩
    (fun x a' W => ∃ hb, w.heap.size + 1 ≤ hb ∧ a' = { tmps := #[.slice none 0 0, .func (.func 46) #[] #[.pointer (some ⟨bp, 0, none⟩)], .pointer (some ⟨w.heap.size, 0, none⟩), undef, .slice none 0 0, .pointer (some ⟨hb, 0, none⟩), .func (.func 46) #[] #[.pointer (some ⟨bp, 0, none⟩)], .agg #[.int .i64 x.nd, .int .i64 x.ing, .int .i64 x.eg], undef, undef, undef, undef, undef], defers := [] } ∧ W.cell? ⟨hb, 0, none⟩ = some (.int .i64 x.nd) ∧ W.cell? ⟨hb, 1, none⟩ = some (.int .i64 x.ing) ∧ W.cell? ⟨hb, 2, none⟩ = some (.int .i64 x.eg))
    (fun x a' => Own.from (fun s A B row hs hg hr => (by obtain ⟨hb, e1, e2, e3, e4, e5⟩ := hs; exact ⟨hb, e1, e2, Go.cell_kept e3 hg hr, Go.cell_kept e4 hg hr, Go.cell_kept e5 hg hr⟩)) _) ?assign ?body ?done ?stop
  case assign =>
    intro l pre x W K hI hK
    obtain ⟨⟨v, hv, hrow, _⟩, hBW⟩ := hI
    have mA := Mk.alloc W (Obj.cells #[.int .i64 x.nd, .int .i64 x.ing, .int .i64 x.eg] 49)
    have hz := hv.lt
    gi_wp2
    refine hK _ _ (KeepsFrom.of_grownBy (World.grownBy_alloc W _ none) (fun _ e => by cases e)) (KpB.mk mA) ⟨⟨v, (mA.block _ hv.lt (.inr (Nat.zero_le _))).trans hv, own_keptR hrow mA, trivial⟩, hBW.trans (mA.below0.mono hBW.size)⟩ ⟨W.heap.size, by omega, rfl, ?_, ?_, ?_⟩
    all_goals simp [go_sem]
  case body =>
    rintro l pre x a' W hl hrr ⟨⟨v, hv, hrow, _⟩, hBW⟩ ⟨hb, hhb, rfl, c0, c1, c2⟩ hlt
    have hc5 := hv.cell
    have hf5 := hv.frozen
    have hzW := hBW.size
    have hbnd : pre.length + 1 ≤ maxLen := by unfold maxLen; omega
    have hbnd2 : (pre.length + 1) * 24 ≤ 140737488355328 := by omega
    have hbs : w.heap.size ≤ (W.alloc (Obj.cells #[.int .i64 x.nd, .int .i64 x.ing, .int .i64 x.eg] 49)).heap.size := by rw [World.size_alloc]; omega
    gi_wp2_with (gi_at_builtin; refine wpListIn_append_own_at _ rfl _ _ 26 rfl w.heap.size 49 i0 _ 3 24 Try.underlying26 hi0 hz0 hz1 hz2 rfl (by decide) _ _ _ rfl (hrow.alloc _) ⟨W.heap.size, 0, none⟩ 1 1 [.int .i64 x.nd, .int .i64 x.ing, .int .i64 x.eg] rfl rfl (cells3_new W 49 _ _ _) (by simp [Value.oneCell']) hbnd hbnd2 hbs ?_; intro v' w1 hown' hgrow _ hat; obtain ⟨A', C', rfl, _, _⟩ := ownsRow_sliceR2 hown'; obtain ⟨hv1, hv2, hr2, hk2, hb2⟩ := hv.appended (by decide) hrow (by omega) (Nat.le_refl _) hown' hgrow; have hc1 := hv1.cell; have hf1 := hv1.frozen)
    refine ⟨hk2.from _, KpB.app (Mk.alloc W (Obj.cells #[.int .i64 x.nd, .int .i64 x.ing, .int .i64 x.eg] 49)) hv hgrow (by omega) hv2 hat, ⟨_, hv2, ?_, trivial⟩, hBW.trans (hb2.mono (Nat.le_refl _))⟩
    rw [List.length_append, show rowC 3 TStep.cell (pre ++ [x]) = rowC 3 TStep.cell pre ++ [.int .i64 x.nd, .int .i64 x.ing, .int .i64 x.eg] by rw [rowC_app]; rfl]
    exact hr2
  case done =>
    rintro D ys W hD rfl ⟨⟨v, hv, hrow, _⟩, hB⟩ hK
    have hc := hv.cell
    gi_wp2
    refine ⟨by simp, .inl ⟨_, _, rfl, run_takeDeferred hK, ?_⟩⟩
    exact ⟨_, results_tmp rfl _ _ _, v, rfl, ownsRow_putObj hrow _ hK rfl, hB.trans (belowK_b (w := w) (Nat.le_refl _) W D _ _ (by simp at hD; omega) hK rfl rfl)⟩
  case stop =>
    rintro D c pre W _ _ h _
    exact h.elim
set_option maxRecDepth 100000 in
set_option maxHeartbeats 4000000 in
theorem implCollect (bp : Nat) (a : Option Addr) (n c B : Nat) (ps : List TPathPart) (w : World) (h : HasPathPart w B a n ps) (hB : B ≤ w.heap.size) (hs : szPathPart ps n ≤ 1048576) (hbl : bp < w.heap.size) (hbp : w.cell? ⟨bp, 0, none⟩ = some (.slice a n c)) :
    Calls Try.prog 28 #[.func (.func 46) #[] #[.pointer (some ⟨bp, 0, none⟩)]] w (OutRows 3 TStep.cell w (filtUp leaves (pathSt ps n) (pathSt ps n).length)) := by
  go_enter Try.func28, Try.ntmps28
  go_wp2_with fail
  refine (callsIn_wide.1 (aseq_in bp a n c B ps w h hB hs hbl hbp)).mono ?_
  rintro e w2 ⟨v, rfl, ho, hb⟩
  go_wp2_with fail
  go_ret
  exact OutRows.of (by decide) ho (Mk.of_below hb)
set_option maxRecDepth 100000 in
set_option maxHeartbeats 4000000 in
theorem implEgress (a : Option Addr) (n c B : Nat) (ps : List TPathPart) (w : World) (h : HasPathPart w B a n ps) (hB : B ≤ w.heap.size) (hs : szPathPart ps n ≤ 1048576) :
    Calls Try.prog 10 #[.agg #[.slice a n c]] w (OutRows 3 TStep.cell w (filtUp leaves (pathSt ps n) (pathSt ps n).length)) := by
  have M0 := Mk.alloc w (Obj.cells #[Value.slice a n c] 30)
  go_enter Try.func10, Try.ntmps10
  go_wp2_with fail
  refine (callsIn_wide.1 (egr_in a n c _)).mono ?_
  rintro e w' ⟨rfl, rfl⟩
  have M1 := M0.new (.cells #[.slice a n c] 30)
  go_wp2_with fail
  refine (implCollect (w.heap.size + 1) a n c B ps _ (h.mk M1 hB (.inr (Nat.le_refl _))) (Nat.le_trans hB M1.size) hs (by simp) (by simp [go_sem])).mono ?_
  rintro e w3 ⟨A3, N3, C3, rfl, hc3, hO, m3⟩
  go_wp2_with fail
  go_ret
  exact ⟨A3, N3, C3, rfl, hc3, hO.wide M1.size (Nat.le_refl _), M1.trans m3⟩

end Go.Proofs.Ytldnfjpdhmjhoaa
