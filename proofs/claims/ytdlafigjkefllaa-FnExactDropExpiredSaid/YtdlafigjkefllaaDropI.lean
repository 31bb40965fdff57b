
/- cloneBeacon, DropExpired of both sides. -/
import Derived.Test.YtdlafigjkefllaaLBeacon
import Derived.Test.YtdlafigjkefllaaSegC
import Derived.Test.YtdlafigjkefllaaExpiry
import Derived.Test.YtdlafigjkefllaaFh
import Derived.Test.YtdlafigjkefllaaAppRun
namespace Go.Proofs.Ytdlafigjkefllaa
open Go.ChangeShapes Go.WideShapes Go.ChangeAt Go.RowKit
set_option linter.unusedVariables false
def fresh (now : Int) (x : TBeacon) : Bool := decide (now ≤ segExp x.hops x.hops.length)
theorem filtUp_szB (p : TBeacon → Bool) (zs : List TBeacon) (n : Nat) : szBeacon (filtUp p zs n) (filtUp p zs n).length ≤ szBeacon zs n := by
  have h : ∀ k, sumTo seBeacon (filtUp p zs k) (filtUp p zs k).length ≤ sumTo seBeacon zs k := by
    intro k
    induction k with
    | zero => exact Nat.le_refl _
    | succ k ih =>
      rw [sumTo]
      by_cases hp : p (zs.getD k default) = true
      · rw [filtUp, if_pos hp, List.length_append]
        show sumTo seBeacon _ ((filtUp p zs k).length + 1) ≤ _
        rw [sumTo, getD_snoc_eq rfl]
        have : ∀ q, q ≤ (filtUp p zs k).length → sumTo seBeacon (filtUp p zs k ++ [zs.getD k default]) q = sumTo seBeacon (filtUp p zs k) q := by
          intro q
          induction q with
          | zero => intro _; rfl
          | succ q iq => intro hq; rw [sumTo, sumTo, iq (by omega), getD_snoc_lt (by omega)]
        rw [this _ (Nat.le_refl _)]
        omega
      · rw [filtUp, if_neg hp]
        omega
  have := h n
  have := filtUp_le p zs n
  unfold szBeacon
  omega
set_option maxRecDepth 100000 in
set_option maxHeartbeats 4000000 in
theorem implCloneBc (i x0 x1 : Int) (a : Option Addr) (n c B : Nat) (zs : List THop) (w : World) (h : HasHop w B a n zs) (hB : B ≤ w.heap.size) (hn : n ≤ 1048576) (hc0 : a = none → c = 0) (hnc : n ≤ c) :
    Calls Try.prog 41 #[.agg #[.int .i64 i, .int .i64 x0, .int .i64 x1, .slice a n c]] w (OutElBeacon ⟨i, x0, x1, zs⟩ w) := by
  have M0 : Mk0 w ((w.alloc (Obj.cells #[Value.int .i64 i, Value.int .i64 x0, Value.int .i64 x1, Value.slice a n c] 84)).alloc (Obj.cells #[Value.int .i64 0, Value.int .i64 0, Value.int .i64 0, Value.slice none 0 0] 84)) := ((Mk.alloc w (Obj.cells #[Value.int .i64 i, Value.int .i64 x0, Value.int .i64 x1, Value.slice a n c] 84)).new (Obj.cells #[Value.int .i64 0, Value.int .i64 0, Value.int .i64 0, Value.slice none 0 0] 84))
  have k0 : ((w.alloc (Obj.cells #[Value.int .i64 i, Value.int .i64 x0, Value.int .i64 x1, Value.slice a n c] 84)).alloc (Obj.cells #[Value.int .i64 0, Value.int .i64 0, Value.int .i64 0, Value.slice none 0 0] 84)).cell? ⟨w.heap.size, 0, none⟩ = some (.int .i64 i) := by simp [go_sem]
  have k1 : ((w.alloc (Obj.cells #[Value.int .i64 i, Value.int .i64 x0, Value.int .i64 x1, Value.slice a n c] 84)).alloc (Obj.cells #[Value.int .i64 0, Value.int .i64 0, Value.int .i64 0, Value.slice none 0 0] 84)).cell? ⟨w.heap.size, 1, none⟩ = some (.int .i64 x0) := by simp [go_sem]
  have k2 : ((w.alloc (Obj.cells #[Value.int .i64 i, Value.int .i64 x0, Value.int .i64 x1, Value.slice a n c] 84)).alloc (Obj.cells #[Value.int .i64 0, Value.int .i64 0, Value.int .i64 0, Value.slice none 0 0] 84)).cell? ⟨w.heap.size, 2, none⟩ = some (.int .i64 x1) := by simp [go_sem]
  have k3 : ((w.alloc (Obj.cells #[Value.int .i64 i, Value.int .i64 x0, Value.int .i64 x1, Value.slice a n c] 84)).alloc (Obj.cells #[Value.int .i64 0, Value.int .i64 0, Value.int .i64 0, Value.slice none 0 0] 84)).cell? ⟨w.heap.size, 3, none⟩ = some (.slice a n c) := by simp [go_sem]
  have r0 : ((w.alloc (Obj.cells #[Value.int .i64 i, Value.int .i64 x0, Value.int .i64 x1, Value.slice a n c] 84)).alloc (Obj.cells #[Value.int .i64 0, Value.int .i64 0, Value.int .i64 0, Value.slice none 0 0] 84)).cell? ⟨w.heap.size + 1, 0, none⟩ = some (.int .i64 0) := by simp [go_sem]
  have r1 : ((w.alloc (Obj.cells #[Value.int .i64 i, Value.int .i64 x0, Value.int .i64 x1, Value.slice a n c] 84)).alloc (Obj.cells #[Value.int .i64 0, Value.int .i64 0, Value.int .i64 0, Value.slice none 0 0] 84)).cell? ⟨w.heap.size + 1, 1, none⟩ = some (.int .i64 0) := by simp [go_sem]
  have r2 : ((w.alloc (Obj.cells #[Value.int .i64 i, Value.int .i64 x0, Value.int .i64 x1, Value.slice a n c] 84)).alloc (Obj.cells #[Value.int .i64 0, Value.int .i64 0, Value.int .i64 0, Value.slice none 0 0] 84)).cell? ⟨w.heap.size + 1, 2, none⟩ = some (.int .i64 0) := by simp [go_sem]
  have r3 : ((w.alloc (Obj.cells #[Value.int .i64 i, Value.int .i64 x0, Value.int .i64 x1, Value.slice a n c] 84)).alloc (Obj.cells #[Value.int .i64 0, Value.int .i64 0, Value.int .i64 0, Value.slice none 0 0] 84)).cell? ⟨w.heap.size + 1, 3, none⟩ = some (.slice none 0 0) := by simp [go_sem]
  have hs0 : ((w.alloc (Obj.cells #[Value.int .i64 i, Value.int .i64 x0, Value.int .i64 x1, Value.slice a n c] 84)).alloc (Obj.cells #[Value.int .i64 0, Value.int .i64 0, Value.int .i64 0, Value.slice none 0 0] 84)).heap.size = w.heap.size + 1 + 1 := by simp only [World.size_alloc]
  have fR : ∀ q, ((w.alloc (Obj.cells #[Value.int .i64 i, Value.int .i64 x0, Value.int .i64 x1, Value.slice a n c] 84)).alloc (Obj.cells #[Value.int .i64 0, Value.int .i64 0, Value.int .i64 0, Value.slice none 0 0] 84)).frozen? ⟨w.heap.size + 1, q, none⟩ = false := fun q => by simp [go_sem]
  go_enter Try.func41, Try.ntmps41
  go_wp2_with fail
  generalize ((w.alloc (Obj.cells #[Value.int .i64 i, Value.int .i64 x0, Value.int .i64 x1, Value.slice a n c] 84)).alloc (Obj.cells #[Value.int .i64 0, Value.int .i64 0, Value.int .i64 0, Value.slice none 0 0] 84)) = wb at *
  refine wp_region_fh (fun (g : Bxs) w' => (Mk0 wb w' ∧ w'.cell? ⟨w.heap.size, 0, none⟩ = some (.int .i64 i) ∧ w'.cell? ⟨w.heap.size, 1, none⟩ = some (.int .i64 x0) ∧ w'.cell? ⟨w.heap.size, 2, none⟩ = some (.int .i64 x1) ∧ w'.cell? ⟨w.heap.size, 3, none⟩ = some (.slice a n c) ∧ w'.cell? ⟨w.heap.size + 1, 0, none⟩ = some (.int .i64 0) ∧ w'.cell? ⟨w.heap.size + 1, 1, none⟩ = some (.int .i64 0) ∧ w'.cell? ⟨w.heap.size + 1, 2, none⟩ = some (.int .i64 0) ∧ w'.cell? ⟨w.heap.size + 1, 3, none⟩ = some (.slice none 0 0)) ∧ BxS wb.heap.size g w') (fhF [fun g x wv => (x 0) = .pointer (some ⟨w.heap.size, 0, none⟩), fun g x wv => (x 1) = .int .i64 i, fun g x wv => (x 2) = .pointer (some ⟨w.heap.size, 1, none⟩), fun g x wv => (x 3) = .agg #[.int .i64 x0, .int .i64 x1, .slice a n c], fun g x wv => ∃ (A : Option Addr) (N C lo hi : Nat), (x 4) = .agg #[.int .i64 x0, .int .i64 x1, .slice A N C] ∧ OwnHop wv lo hi A N zs ∧ ((A = none → C = 0) ∧ (N ≤ C ∧ C ≤ 9223372036854775807)) ∧ wb.heap.size ≤ lo ∧ lo ≤ hi ∧ hi ≤ wv.heap.size, fun g x wv => ∃ (A : Option Addr) (N C lo hi : Nat), (x 5) = .agg #[.int .i64 i, .int .i64 x0, .int .i64 x1, .slice A N C] ∧ OwnHop wv lo hi A N zs ∧ ((A = none → C = 0) ∧ (N ≤ C ∧ C ≤ 9223372036854775807)) ∧ wb.heap.size ≤ lo ∧ lo ≤ hi ∧ hi ≤ wv.heap.size]) BxX (fun _ _ => False) (spL [[0], [1], [2], [3], [4], [5]]) 7 6 (by kernel_rfl) (by kernel_rfl) (by kernel_rfl) (by decide) (by decide) (by kernel_rfl) (fun h => absurd h (by decide)) (fhM_mono ⟨fun g g' v w w' h x => h, fun g g' v w w' h x => h, fun g g' v w w' h x => h, fun g g' v w w' h x => h, fun g g' v w w' h x => (by obtain ⟨A, N, C, lo, hi, e, o, cc, d1, d2, d3⟩ := h; exact ⟨A, N, C, lo, hi, e, o.mk x.far d3 (.inr (.inr (Nat.le_refl _))), cc, d1, d2, Nat.le_trans d3 x.far.size⟩), fun g g' v w w' h x => (by obtain ⟨A, N, C, lo, hi, e, o, cc, d1, d2, d3⟩ := h; exact ⟨A, N, C, lo, hi, e, o.mk x.far d3 (.inr (.inr (Nat.le_refl _))), cc, d1, d2, Nat.le_trans d3 x.far.size⟩), trivial⟩) ⟨⟨Mk.drew1 _, k0, k1, k2, k3, r0, r1, r2, r3⟩, BxS.none_ _ _⟩ ?_
  change WkH _ _ _ _ _ _ _ 7 6 6 0 _
  refine WkH.value (m := 5) (k := 0) (by decide) rfl rfl (of_decide_eq_true (by rfl)) rfl (fun g wv hS hF => ?_) (fun v0 => ?_)
  · obtain ⟨⟨s0, s1, s2, s3, s4, s5, s6, s7, s8⟩, hB2⟩ := hS
    exact ⟨.pointer (some ⟨w.heap.size, 0, none⟩), wv, g, (by go_simp; try with_reducible rfl), ⟨⟨s0, s1, s2, s3, s4, s5, s6, s7, s8⟩, hB2⟩, BxX.same (Mk.refl _ _ _), rfl⟩
  try simp only [Act.put, List.getElem_toArray, List.getElem_cons_zero, List.setIfInBounds_toArray, List.set_cons_zero, List.set_cons_succ]
  refine WkH.value (m := 4) (k := 1) (by decide) rfl rfl (of_decide_eq_true (by rfl)) rfl (fun g wv hS hF => ?_) (fun v1 => ?_)
  · obtain ⟨⟨s0, s1, s2, s3, s4, s5, s6, s7, s8⟩, hB2⟩ := hS
    have f0 : v0 = .pointer (some ⟨w.heap.size, 0, none⟩) := hF 0 (by rfl)
    obtain rfl := f0
    exact ⟨.int .i64 i, wv, g, (by go_simp; try with_reducible rfl), ⟨⟨s0, s1, s2, s3, s4, s5, s6, s7, s8⟩, hB2⟩, BxX.same (Mk.refl _ _ _), rfl⟩
  try simp only [Act.put, List.getElem_toArray, List.getElem_cons_succ, List.getElem_cons_zero, List.setIfInBounds_toArray, List.set_cons_zero, List.set_cons_succ]
  refine WkH.value (m := 3) (k := 2) (by decide) rfl rfl (of_decide_eq_true (by rfl)) rfl (fun g wv hS hF => ?_) (fun v2 => ?_)
  · obtain ⟨⟨s0, s1, s2, s3, s4, s5, s6, s7, s8⟩, hB2⟩ := hS
    exact ⟨.pointer (some ⟨w.heap.size, 1, none⟩), wv, g, (by go_simp; try with_reducible rfl), ⟨⟨s0, s1, s2, s3, s4, s5, s6, s7, s8⟩, hB2⟩, BxX.same (Mk.refl _ _ _), rfl⟩
  try simp only [Act.put, List.getElem_toArray, List.getElem_cons_succ, List.getElem_cons_zero, List.setIfInBounds_toArray, List.set_cons_zero, List.set_cons_succ]
  refine WkH.value (m := 2) (k := 3) (by decide) rfl rfl (of_decide_eq_true (by rfl)) rfl (fun g wv hS hF => ?_) (fun v3 => ?_)
  · obtain ⟨⟨s0, s1, s2, s3, s4, s5, s6, s7, s8⟩, hB2⟩ := hS
    have f2 : v2 = .pointer (some ⟨w.heap.size, 1, none⟩) := hF 2 (by rfl)
    obtain rfl := f2
    exact ⟨.agg #[.int .i64 x0, .int .i64 x1, .slice a n c], wv, g, (by go_simp; try with_reducible rfl), ⟨⟨s0, s1, s2, s3, s4, s5, s6, s7, s8⟩, hB2⟩, BxX.same (Mk.refl _ _ _), rfl⟩
  try simp only [Act.put, List.getElem_toArray, List.getElem_cons_succ, List.getElem_cons_zero, List.setIfInBounds_toArray, List.set_cons_zero, List.set_cons_succ]
  refine WkH.call (m := 1) (k := 4) (by decide) rfl rfl (of_decide_eq_true (by rfl)) rfl (fun g wv hS hF => ?_) (fun v4 => ?_)
  · obtain ⟨⟨s0, s1, s2, s3, s4, s5, s6, s7, s8⟩, hB2⟩ := hS
    have f3 : v3 = .agg #[.int .i64 x0, .int .i64 x1, .slice a n c] := hF 3 (by rfl)
    obtain rfl := f3
    refine ⟨_, _, (by go_simp; first | done | exact ⟨rfl, rfl⟩ | with_reducible rfl), ?_⟩
    refine ((implCloneSeg x0 x1 a n c B zs wv (h.mk (M0.trans s0) hB (.inr (Nat.le_refl _))) (Nat.le_trans hB (M0.trans s0).size) hn hc0 hnc)).mono ?_
    rintro e w' ho; obtain ⟨A, N, C, rfl, cc, o, mm⟩ := ho.c
    exact ⟨_, g, rfl, ⟨⟨s0.trans mm, mm.cellAt s1, mm.cellAt s2, mm.cellAt s3, mm.cellAt s4, mm.cellAt s5, mm.cellAt s6, mm.cellAt s7, mm.cellAt s8⟩, hB2.mk0 mm⟩, BxX.same mm, ⟨A, N, C, wv.heap.size, w'.heap.size, rfl, o, cc, s0.size, mm.size, Nat.le_refl _⟩⟩
  try simp only [Act.put, List.getElem_toArray, List.getElem_cons_succ, List.getElem_cons_zero, List.setIfInBounds_toArray, List.set_cons_zero, List.set_cons_succ]
  refine WkH.value (m := 0) (k := 5) (by decide) rfl rfl (of_decide_eq_true (by rfl)) rfl (fun g wv hS hF => ?_) (fun v5 => ?_)
  · obtain ⟨⟨s0, s1, s2, s3, s4, s5, s6, s7, s8⟩, hB2⟩ := hS
    have f1 : v1 = .int .i64 i := hF 1 (by rfl)
    obtain rfl := f1
    have f4 : ∃ (A : Option Addr) (N C lo hi : Nat), v4 = .agg #[.int .i64 x0, .int .i64 x1, .slice A N C] ∧ OwnHop wv lo hi A N zs ∧ ((A = none → C = 0) ∧ (N ≤ C ∧ C ≤ 9223372036854775807)) ∧ wb.heap.size ≤ lo ∧ lo ≤ hi ∧ hi ≤ wv.heap.size := hF 4 (by rfl)
    obtain ⟨A, N, C, lo, hi, rfl, o, cc, d1, d2, d3⟩ := f4
    exact ⟨.agg #[.int .i64 i, .int .i64 x0, .int .i64 x1, .slice A N C], wv, g, (by go_simp; try with_reducible rfl), ⟨⟨s0, s1, s2, s3, s4, s5, s6, s7, s8⟩, hB2⟩, BxX.same (Mk.refl _ _ _), ⟨A, N, C, lo, hi, rfl, o, cc, d1, d2, d3⟩⟩
  try simp only [Act.put, List.getElem_toArray, List.getElem_cons_succ, List.getElem_cons_zero, List.setIfInBounds_toArray, List.set_cons_zero, List.set_cons_succ]
  refine WkH.done fun gE wE hE hF => ?_
  clear k0 k1 k2 k3 r0 r1 r2 r3
  obtain ⟨⟨mE, k0, k1, k2, k3, r0, r1, r2, r3⟩, hBE⟩ := hE
  change wpAny _ _ _ _ 1 _ _ _
  have f5 : ∃ (A : Option Addr) (N C lo hi : Nat), v5 = .agg #[.int .i64 i, .int .i64 x0, .int .i64 x1, .slice A N C] ∧ OwnHop wE lo hi A N zs ∧ ((A = none → C = 0) ∧ (N ≤ C ∧ C ≤ 9223372036854775807)) ∧ wb.heap.size ≤ lo ∧ lo ≤ hi ∧ hi ≤ wE.heap.size := hF 5 (by decide)
  obtain ⟨A, N, C, lo, hi, rfl, o, cc, d1, d2, d3⟩ := f5
  clear hF hBE
  have M := M0.trans mE
  have fR2 : ∀ q, wE.frozen? ⟨w.heap.size + 1, q, none⟩ = false := fun q => (mE.frozen (b := w.heap.size + 1) (o := q) (by omega) (.inr (Nat.zero_le _))).trans (fR q)
  have hbE := mE.size
  refine wpAny_ready (rs := [6]) (by kernel_rfl) (by simp) ?_
  refine (AllReady.cons rfl (fun K hK => ?_) AllReady.nil)
  go_simp
  refine hK _ _ ?_
  clear hK K
  try simp only [Act.put, List.getElem_toArray, List.getElem_cons_succ, List.getElem_cons_zero, List.setIfInBounds_toArray, List.set_cons_zero, List.set_cons_succ]
  refine wpAny_doneN (by kernel_rfl) ?_
  refine ‹∀ (a : Act) (w : World), _ → _› _ _ ?_
  replace r0 := World.cell?_setCell_same _ _ (.int .i64 i) r0
  replace r1 := cell_set r1 ⟨w.heap.size + 1, 0, none⟩ (.int .i64 i) (.inr (by simp))
  replace r2 := cell_set r2 ⟨w.heap.size + 1, 0, none⟩ (.int .i64 i) (.inr (by simp))
  replace r3 := cell_set r3 ⟨w.heap.size + 1, 0, none⟩ (.int .i64 i) (.inr (by simp))
  replace o := o.set ⟨w.heap.size + 1, 0, none⟩ (.int .i64 i) (.inl (show w.heap.size + 1 < lo by omega))
  replace M := M.put ⟨w.heap.size + 1, 0, none⟩ (.int .i64 i) (show w.heap.size ≤ w.heap.size + 1 by omega)
  replace r0 := cell_set r0 ⟨w.heap.size + 1, 1, none⟩ (.int .i64 x0) (.inr (by simp))
  replace r1 := World.cell?_setCell_same _ _ (.int .i64 x0) r1
  replace r2 := cell_set r2 ⟨w.heap.size + 1, 1, none⟩ (.int .i64 x0) (.inr (by simp))
  replace r3 := cell_set r3 ⟨w.heap.size + 1, 1, none⟩ (.int .i64 x0) (.inr (by simp))
  replace o := o.set ⟨w.heap.size + 1, 1, none⟩ (.int .i64 x0) (.inl (show w.heap.size + 1 < lo by omega))
  replace M := M.put ⟨w.heap.size + 1, 1, none⟩ (.int .i64 x0) (show w.heap.size ≤ w.heap.size + 1 by omega)
  replace r0 := cell_set r0 ⟨w.heap.size + 1, 2, none⟩ (.int .i64 x1) (.inr (by simp))
  replace r1 := cell_set r1 ⟨w.heap.size + 1, 2, none⟩ (.int .i64 x1) (.inr (by simp))
  replace r2 := World.cell?_setCell_same _ _ (.int .i64 x1) r2
  replace r3 := cell_set r3 ⟨w.heap.size + 1, 2, none⟩ (.int .i64 x1) (.inr (by simp))
  replace o := o.set ⟨w.heap.size + 1, 2, none⟩ (.int .i64 x1) (.inl (show w.heap.size + 1 < lo by omega))
  replace M := M.put ⟨w.heap.size + 1, 2, none⟩ (.int .i64 x1) (show w.heap.size ≤ w.heap.size + 1 by omega)
  replace r0 := cell_set r0 ⟨w.heap.size + 1, 3, none⟩ (.slice A N C) (.inr (by simp))
  replace r1 := cell_set r1 ⟨w.heap.size + 1, 3, none⟩ (.slice A N C) (.inr (by simp))
  replace r2 := cell_set r2 ⟨w.heap.size + 1, 3, none⟩ (.slice A N C) (.inr (by simp))
  replace r3 := World.cell?_setCell_same _ _ (.slice A N C) r3
  replace o := o.set ⟨w.heap.size + 1, 3, none⟩ (.slice A N C) (.inl (show w.heap.size + 1 < lo by omega))
  replace M := M.put ⟨w.heap.size + 1, 3, none⟩ (.slice A N C) (show w.heap.size ≤ w.heap.size + 1 by omega)
  have hz9 : ((((wE.setCell ⟨w.heap.size + 1, 0, none⟩ (.int .i64 i)).setCell ⟨w.heap.size + 1, 1, none⟩ (.int .i64 x0)).setCell ⟨w.heap.size + 1, 2, none⟩ (.int .i64 x1)).setCell ⟨w.heap.size + 1, 3, none⟩ (.slice A N C)).heap.size = wE.heap.size := by simp only [World.size_set]
  generalize ((((wE.setCell ⟨w.heap.size + 1, 0, none⟩ (.int .i64 i)).setCell ⟨w.heap.size + 1, 1, none⟩ (.int .i64 x0)).setCell ⟨w.heap.size + 1, 2, none⟩ (.int .i64 x1)).setCell ⟨w.heap.size + 1, 3, none⟩ (.slice A N C)) = WF at *
  go_wp2_with fail
  exact bodyPost_ret (v := .agg #[.int .i64 i, .int .i64 x0, .int .i64 x1, .slice A N C]) (by simp [results, Try.results41, go_sem, r0, r1, r2, r3]) rfl ⟨A, N, C, rfl, cc, o.wide (by omega) (by omega), M⟩

set_option maxRecDepth 100000 in
set_option maxHeartbeats 8000000 in
theorem implDrop (a : Option Addr) (n c B : Nat) (zs : List TBeacon) (now : Int) (w : World) (h : HasBeacon w B a n zs) (hB : B ≤ w.heap.size) (hs : szBeacon zs n ≤ 1048576) :
    Calls Try.prog 10 #[.slice a n c, .int .i64 now] w (OutLBeacon (filtUp (fresh now) zs n) w) := by
  have hn : n ≤ 1048576 := Nat.le_trans (szBeacon_n zs n) hs
  obtain ⟨i0, hi0, hz0, hz1, hz2⟩ := info_parts infoRBeacon
  go_enter Try.func10, Try.ntmps10
  go_wp2_with fail
  have hA := own_emptyR w 84 4
  have MA := Mk.alloc w (.cells #[] 84)
  go_loopw [5, 11] (fun v i wr => ∃ (k : Nat) (gs : List HBeacon), k ≤ n ∧ i = .int .i64 (k : Int) ∧ gs.length = (filtUp (fresh now) zs k).length ∧ wr.ownsRow w.heap.size 84 4 v gs.length (rowC 4 HBeacon.cell gs) ∧ Hid (Kids WBeacon wr w.heap.size wr.heap.size (fun g => v.ownBlock = some g) gs.length gs (filtUp (fresh now) zs k)) ∧ Mk0 w wr) (fun _ i _ => n - (intOf i).toNat)
  case atStart => exact ⟨0, [], Nat.zero_le _, rfl, rfl, hA, Lib.hid (Kids.none_ _ _ _ _ _ _ _), MA⟩
  case round =>
    clear hA MA
    obtain ⟨k, gs, hk, rfl, hgl, hown, hK, hM⟩ := hrel
    have hul := filtUp_le (fresh now) zs k
    have hlow := hM.size
    obtain ⟨L, hL⟩ : ∃ L, Hid (L = gs.length) := ⟨_, Lib.hid rfl⟩
    by_cases hlt : k < n
    · obtain ⟨b, off, x, rfl, hb, hx, a3, n3, c3, d0, d1, d2, d3, hr, p1, p2, p3⟩ := HasBeacon.at _ _ _ _ _ _ (h.mk hM hB (.inr (Nat.le_refl _))) hlt
      have hbd : n3 ≤ 1048576 := by have h1 := szBeacon_at zs hlt; rw [← hx.out] at h1; unfold seBeacon at h1; have h2 : x.hops.length = n3 := hr.1; omega
      have hn3 := hr.1
      have hbr := World.block_lt_of_cell? _ _ d0
      simp only at hbr
      have i1 : (0 : Int) ≤ (k : Int) := by omega
      have i2 : (k : Int) < (n : Int) := by omega
      have hBr := Nat.le_trans hB hM.size
      have MX := Mk.alloc wr (Obj.cells #[Value.int .i64 x.ing, Value.int .i64 x.ts, Value.int .i64 x.beta, Value.slice a3 n3 c3] 84)
      have e0 : (wr.alloc (Obj.cells #[Value.int .i64 x.ing, Value.int .i64 x.ts, Value.int .i64 x.beta, Value.slice a3 n3 c3] 84)).cell? ⟨wr.heap.size, 0, none⟩ = some (.int .i64 x.ing) := by simp [go_sem]
      have e1 : (wr.alloc (Obj.cells #[Value.int .i64 x.ing, Value.int .i64 x.ts, Value.int .i64 x.beta, Value.slice a3 n3 c3] 84)).cell? ⟨wr.heap.size, 1, none⟩ = some (.int .i64 x.ts) := by simp [go_sem]
      have e2 : (wr.alloc (Obj.cells #[Value.int .i64 x.ing, Value.int .i64 x.ts, Value.int .i64 x.beta, Value.slice a3 n3 c3] 84)).cell? ⟨wr.heap.size, 2, none⟩ = some (.int .i64 x.beta) := by simp [go_sem]
      have e3 : (wr.alloc (Obj.cells #[Value.int .i64 x.ing, Value.int .i64 x.ts, Value.int .i64 x.beta, Value.slice a3 n3 c3] 84)).cell? ⟨wr.heap.size, 3, none⟩ = some (.slice a3 n3 c3) := by simp [go_sem]
      have KP := implExpiry x.ts x.beta a3 n3 c3 B x.hops (wr.alloc (Obj.cells #[Value.int .i64 x.ing, Value.int .i64 x.ts, Value.int .i64 x.beta, Value.slice a3 n3 c3] 84)) (hr.mk MX hBr (.inr (Nat.le_refl _))) (Nat.le_trans hBr MX.size) hbd
      cases hp : fresh now x
      all_goals (have hp2 := hp; unfold fresh at hp2; rw [hn3] at hp2)
      · have HE := Lib.hid (show filtUp (fresh now) zs (k + 1) = filtUp (fresh now) zs k by rw [filtUp, ← hx.out, hp]; rfl)
        clear hp
        go_wp2_with fail
        refine KP.mono ?_
        rintro e w2 ⟨rfl, m2⟩
        clear KP
        have hmy := MX.trans m2
        go_wp2_with fail
        go_roundw
        case rel => exact ⟨k + 1, gs, by omega, by go_num, by rw [HE.out]; exact hgl, own_keptR hown hmy, by rw [HE.out]; exact Lib.hid ((hK.out.mk hmy (Nat.le_refl _) (.inr (.inr (Nat.le_refl _)))).wide (Nat.le_refl _) hmy.size), hM.trans hmy⟩
        case measure => simp [intOf]; omega
      · have HE := Lib.hid (show filtUp (fresh now) zs (k + 1) = filtUp (fresh now) zs k ++ [x] by rw [filtUp, ← hx.out, hp]; rfl)
        clear hp
        go_wp2_with fail
        refine KP.mono ?_
        rintro e w2 ⟨rfl, m2⟩
        clear KP
        have hmy := MX.trans m2
        replace e0 := m2.cellAt e0
        replace e1 := m2.cellAt e1
        replace e2 := m2.cellAt e2
        replace e3 := m2.cellAt e3
        have hszY := hmy.size
        have KC := implCloneBc x.ing x.ts x.beta a3 n3 c3 B x.hops w2 (hr.mk hmy hBr (.inr (Nat.le_refl _))) (Nat.le_trans hBr hmy.size) hbd p3 p1
        go_wp2_with fail
        refine KC.mono ?_
        rintro e w3 ⟨A3, N3, C3, rfl, hcc, hO3, m3⟩
        clear KC
        have mB := Mk.alloc w3 (Obj.cells #[.int .i64 x.ing, .int .i64 x.ts, .int .i64 x.beta, .slice A3 N3 C3] 84)
        have mY := (hmy.trans m3).trans mB
        have hown2 := own_keptR hown mY
        rw [← hL.out] at hown2
        have hsz3 := m3.size
        have hh := hasR_new (cell := HBeacon.cell) (nc := 4) (by decide) w3 84 (⟨x.ing, x.ts, x.beta, A3, N3, C3⟩ : HBeacon) #[.int .i64 x.ing, .int .i64 x.ts, .int .i64 x.beta, .slice A3 N3 C3] (fun j hj => by match j, hj with | 0, _ => rfl | 1, _ => rfl | 2, _ => rfl | 3, _ => rfl)
        have hlo : w.heap.size ≤ (w3.alloc (Obj.cells #[.int .i64 x.ing, .int .i64 x.ts, .int .i64 x.beta, .slice A3 N3 C3] 84)).heap.size := Nat.le_trans hlow mY.size
        have hLb : L ≤ k := by rw [hL.out]; omega
        have hK2 := Lib.hid ((((hK.out.mk hmy (Nat.le_refl _) (.inr (.inr (Nat.le_refl _)))).mk m3 hmy.size (.inr (.inr (Nat.le_refl _)))).snoc (g := (⟨x.ing, x.ts, x.beta, A3, N3, C3⟩ : HBeacon)) (x := x) rfl hgl.symm (show w.heap.size ≤ w2.heap.size by omega) m3.size ⟨rfl, rfl, rfl, hO3, hcc.2.1, hcc.2.2, hcc.1⟩ hmy.size (fun q hq => .inl (Nat.lt_of_lt_of_le (hown.lt q hq).2 hmy.size))).mk mB (Nat.le_refl _) (.inr (.inr (Nat.le_refl _))))
        clear hO3 hK
        go_wp2_with (at_builtin; refine wpList_appR4 (by decide) oneBeacon rfl (.tmp 20) (.tmp 23) 24 rfl w.heap.size 84 i0 _ Try.underlying24 hi0 hz0 rfl hz1 (by rw [hz2]; decide) _ gs L rfl hown2 _ 1 1 [(⟨x.ing, x.ts, x.beta, A3, N3, C3⟩ : HBeacon)] rfl (fun h => by cases h) hh (by omega) hlo ?_; intro v2 w4 hown4 hgr hat)
        have M4 := (hM.trans mY).appR hgr (fun g hg => (hown2.lt g hg).1)
        have z4 := hgr.size
        have zB := mB.size
        have hK4 := hK2.out.grow hgr mB.size hat
        clear hK2 hat
        have hGL : (gs ++ [(⟨x.ing, x.ts, x.beta, A3, N3, C3⟩ : HBeacon)]).length = L + 1 := by rw [List.length_append, hL.out]; rfl
        rw [← hGL] at hown4
        go_wp2_with fail
        go_roundw
        case rel => exact ⟨k + 1, gs ++ [(⟨x.ing, x.ts, x.beta, A3, N3, C3⟩ : HBeacon)], by omega, by go_num, by rw [HE.out, List.length_append, List.length_append, hgl]; rfl, hown4, by rw [HE.out, List.length_append]; exact Lib.hid (hK4.wide (Nat.le_refl _) (by omega)), M4⟩
        case measure => simp [intOf]; omega
    · obtain rfl : k = n := by omega
      go_wp2_with fail
      go_ret
      obtain ⟨A, C, rfl, hca, hcb⟩ := ownsRow_sliceR2 hown
      exact ⟨A, gs.length, C, rfl, ⟨hca, hcb⟩, OwnN.of_row hown hK.out hgl.symm (Nat.le_refl _), hM⟩

end Go.Proofs.Ytdlafigjkefllaa
