
/- JoinThree of the model. -/
import Derived.Test.YtbkbkpnpllemfaaJ3I
import Derived.Test.YtbkbkpnpllemfaaAppRun
import Derived.Deep.CutRange
namespace Go.Proofs.Ytbkbkpnpllemfaa
open Go.ChangeShapes Go.WideShapes Go.ChangeAt Go.RowKit
set_option linter.unusedVariables false
set_option maxRecDepth 100000 in
set_option maxHeartbeats 40000000 in
theorem specJ3 (x0 y0 : Int) (a0 : Option Addr) (n0 c0 B0 : Nat) (z0 : List THop) (x1 y1 : Int) (a1 : Option Addr) (n1 c1 B1 : Nat) (z1 : List THop) (x3 y3 : Int) (a3 : Option Addr) (n3 c3 B3 : Nat) (z3 : List THop) (bb : Bool) (w : World) (h0 : HasHop w B0 a0 n0 z0) (hB0 : B0 ≤ w.heap.size) (hn0 : n0 ≤ 1048576) (hc0 : a0 = none → c0 = 0) (hk0 : n0 ≤ c0) (h1 : HasHop w B1 a1 n1 z1) (hB1 : B1 ≤ w.heap.size) (hn1 : n1 ≤ 1048576) (hc1 : a1 = none → c1 = 0) (hk1 : n1 ≤ c1) (h3 : HasHop w B3 a3 n3 z3) (hB3 : B3 ≤ w.heap.size) (hn3 : n3 ≤ 1048576) (hc3 : a3 = none → c3 = 0) (hk3 : n3 ≤ c3) :
    Calls Try.prog 26 #[.agg #[.int .i64 x0, .int .i64 y0, .slice a0 n0 c0], .agg #[.int .i64 x1, .int .i64 y1, .slice a1 n1 c1], .bool bb, .agg #[.int .i64 x3, .int .i64 y3, .slice a3 n3 c3]] w (OutNPath (addIf (decide (0 < n3)) (addIf (decide (0 < n1)) (addIf (decide (0 < n0)) [] (mpEl x0 y0 z0 n0 1 0)) (mpEl x1 y1 z1 n1 (j3k bb) 0)) (mpEl x3 y3 z3 n3 4 0)) w) := by
  have M0 : Mk0 w ((((w.alloc (Obj.cells #[Value.int .i64 x0, Value.int .i64 y0, Value.slice a0 n0 c0] 28)).alloc (Obj.cells #[Value.int .i64 x1, Value.int .i64 y1, Value.slice a1 n1 c1] 28)).alloc (Obj.cells #[Value.int .i64 x3, Value.int .i64 y3, Value.slice a3 n3 c3] 28)).alloc (Obj.cells #[Value.slice none 0 0] 42)) := ((((Mk.alloc w (Obj.cells #[Value.int .i64 x0, Value.int .i64 y0, Value.slice a0 n0 c0] 28)).new (Obj.cells #[Value.int .i64 x1, Value.int .i64 y1, Value.slice a1 n1 c1] 28)).new (Obj.cells #[Value.int .i64 x3, Value.int .i64 y3, Value.slice a3 n3 c3] 28)).new (Obj.cells #[Value.slice none 0 0] 42))
  have k0 : ((((w.alloc (Obj.cells #[Value.int .i64 x0, Value.int .i64 y0, Value.slice a0 n0 c0] 28)).alloc (Obj.cells #[Value.int .i64 x1, Value.int .i64 y1, Value.slice a1 n1 c1] 28)).alloc (Obj.cells #[Value.int .i64 x3, Value.int .i64 y3, Value.slice a3 n3 c3] 28)).alloc (Obj.cells #[Value.slice none 0 0] 42)).cell? ⟨w.heap.size, 0, none⟩ = some (.int .i64 x0) := by simp [go_sem]
  have k1 : ((((w.alloc (Obj.cells #[Value.int .i64 x0, Value.int .i64 y0, Value.slice a0 n0 c0] 28)).alloc (Obj.cells #[Value.int .i64 x1, Value.int .i64 y1, Value.slice a1 n1 c1] 28)).alloc (Obj.cells #[Value.int .i64 x3, Value.int .i64 y3, Value.slice a3 n3 c3] 28)).alloc (Obj.cells #[Value.slice none 0 0] 42)).cell? ⟨w.heap.size, 1, none⟩ = some (.int .i64 y0) := by simp [go_sem]
  have k2 : ((((w.alloc (Obj.cells #[Value.int .i64 x0, Value.int .i64 y0, Value.slice a0 n0 c0] 28)).alloc (Obj.cells #[Value.int .i64 x1, Value.int .i64 y1, Value.slice a1 n1 c1] 28)).alloc (Obj.cells #[Value.int .i64 x3, Value.int .i64 y3, Value.slice a3 n3 c3] 28)).alloc (Obj.cells #[Value.slice none 0 0] 42)).cell? ⟨w.heap.size, 2, none⟩ = some (.slice a0 n0 c0) := by simp [go_sem]
  have l0 : ((((w.alloc (Obj.cells #[Value.int .i64 x0, Value.int .i64 y0, Value.slice a0 n0 c0] 28)).alloc (Obj.cells #[Value.int .i64 x1, Value.int .i64 y1, Value.slice a1 n1 c1] 28)).alloc (Obj.cells #[Value.int .i64 x3, Value.int .i64 y3, Value.slice a3 n3 c3] 28)).alloc (Obj.cells #[Value.slice none 0 0] 42)).cell? ⟨w.heap.size + 1, 0, none⟩ = some (.int .i64 x1) := by simp [go_sem]
  have l1 : ((((w.alloc (Obj.cells #[Value.int .i64 x0, Value.int .i64 y0, Value.slice a0 n0 c0] 28)).alloc (Obj.cells #[Value.int .i64 x1, Value.int .i64 y1, Value.slice a1 n1 c1] 28)).alloc (Obj.cells #[Value.int .i64 x3, Value.int .i64 y3, Value.slice a3 n3 c3] 28)).alloc (Obj.cells #[Value.slice none 0 0] 42)).cell? ⟨w.heap.size + 1, 1, none⟩ = some (.int .i64 y1) := by simp [go_sem]
  have l2 : ((((w.alloc (Obj.cells #[Value.int .i64 x0, Value.int .i64 y0, Value.slice a0 n0 c0] 28)).alloc (Obj.cells #[Value.int .i64 x1, Value.int .i64 y1, Value.slice a1 n1 c1] 28)).alloc (Obj.cells #[Value.int .i64 x3, Value.int .i64 y3, Value.slice a3 n3 c3] 28)).alloc (Obj.cells #[Value.slice none 0 0] 42)).cell? ⟨w.heap.size + 1, 2, none⟩ = some (.slice a1 n1 c1) := by simp [go_sem]
  have j0 : ((((w.alloc (Obj.cells #[Value.int .i64 x0, Value.int .i64 y0, Value.slice a0 n0 c0] 28)).alloc (Obj.cells #[Value.int .i64 x1, Value.int .i64 y1, Value.slice a1 n1 c1] 28)).alloc (Obj.cells #[Value.int .i64 x3, Value.int .i64 y3, Value.slice a3 n3 c3] 28)).alloc (Obj.cells #[Value.slice none 0 0] 42)).cell? ⟨w.heap.size + 1 + 1, 0, none⟩ = some (.int .i64 x3) := by simp [go_sem]
  have j1 : ((((w.alloc (Obj.cells #[Value.int .i64 x0, Value.int .i64 y0, Value.slice a0 n0 c0] 28)).alloc (Obj.cells #[Value.int .i64 x1, Value.int .i64 y1, Value.slice a1 n1 c1] 28)).alloc (Obj.cells #[Value.int .i64 x3, Value.int .i64 y3, Value.slice a3 n3 c3] 28)).alloc (Obj.cells #[Value.slice none 0 0] 42)).cell? ⟨w.heap.size + 1 + 1, 1, none⟩ = some (.int .i64 y3) := by simp [go_sem]
  have j2 : ((((w.alloc (Obj.cells #[Value.int .i64 x0, Value.int .i64 y0, Value.slice a0 n0 c0] 28)).alloc (Obj.cells #[Value.int .i64 x1, Value.int .i64 y1, Value.slice a1 n1 c1] 28)).alloc (Obj.cells #[Value.int .i64 x3, Value.int .i64 y3, Value.slice a3 n3 c3] 28)).alloc (Obj.cells #[Value.slice none 0 0] 42)).cell? ⟨w.heap.size + 1 + 1, 2, none⟩ = some (.slice a3 n3 c3) := by simp [go_sem]
  have r0 : ((((w.alloc (Obj.cells #[Value.int .i64 x0, Value.int .i64 y0, Value.slice a0 n0 c0] 28)).alloc (Obj.cells #[Value.int .i64 x1, Value.int .i64 y1, Value.slice a1 n1 c1] 28)).alloc (Obj.cells #[Value.int .i64 x3, Value.int .i64 y3, Value.slice a3 n3 c3] 28)).alloc (Obj.cells #[Value.slice none 0 0] 42)).cell? ⟨w.heap.size + 1 + 1 + 1, 0, none⟩ = some (.slice none 0 0) := by simp [go_sem]
  have hs0 : ((((w.alloc (Obj.cells #[Value.int .i64 x0, Value.int .i64 y0, Value.slice a0 n0 c0] 28)).alloc (Obj.cells #[Value.int .i64 x1, Value.int .i64 y1, Value.slice a1 n1 c1] 28)).alloc (Obj.cells #[Value.int .i64 x3, Value.int .i64 y3, Value.slice a3 n3 c3] 28)).alloc (Obj.cells #[Value.slice none 0 0] 42)).heap.size = w.heap.size + 1 + 1 + 1 + 1 := by simp only [World.size_alloc]
  obtain ⟨i0, hi0, hz0, hz1, hz2⟩ := info_parts infoRPathPart
  have fR : ∀ q, ((((w.alloc (Obj.cells #[Value.int .i64 x0, Value.int .i64 y0, Value.slice a0 n0 c0] 28)).alloc (Obj.cells #[Value.int .i64 x1, Value.int .i64 y1, Value.slice a1 n1 c1] 28)).alloc (Obj.cells #[Value.int .i64 x3, Value.int .i64 y3, Value.slice a3 n3 c3] 28)).alloc (Obj.cells #[Value.slice none 0 0] 42)).frozen? ⟨w.heap.size + 1 + 1 + 1, q, none⟩ = false := fun q => by simp [go_sem]
  have hl0 : (mpRow z0 n0 1 0).length = n0 := mpRow_len0 _ _ _ h0.1 (by decide)
  have hl1 : (mpRow z1 n1 (j3k bb) 0).length = n1 := mpRow_len0 _ _ _ h1.1 (by cases bb <;> decide)
  have hl3 : (mpRow z3 n3 4 0).length = n3 := mpRow_len0 _ _ _ h3.1 (by decide)
  go_enter Try.func26, Try.ntmps26
  go_upto_region 2 with fail
  have b0 : (((((w.alloc (Obj.cells #[Value.int .i64 x0, Value.int .i64 y0, Value.slice a0 n0 c0] 28)).alloc (Obj.cells #[Value.int .i64 x1, Value.int .i64 y1, Value.slice a1 n1 c1] 28)).alloc (Obj.cells #[Value.int .i64 x3, Value.int .i64 y3, Value.slice a3 n3 c3] 28)).alloc (Obj.cells #[Value.slice none 0 0] 42)).alloc (Obj.cells #[Value.slice none 0 0] 42)).cell? ⟨w.heap.size + 1 + 1 + 1 + 1, 0, none⟩ = some (.slice none 0 0) := by simp [go_sem]
  have fb : ∀ q, (((((w.alloc (Obj.cells #[Value.int .i64 x0, Value.int .i64 y0, Value.slice a0 n0 c0] 28)).alloc (Obj.cells #[Value.int .i64 x1, Value.int .i64 y1, Value.slice a1 n1 c1] 28)).alloc (Obj.cells #[Value.int .i64 x3, Value.int .i64 y3, Value.slice a3 n3 c3] 28)).alloc (Obj.cells #[Value.slice none 0 0] 42)).alloc (Obj.cells #[Value.slice none 0 0] 42)).frozen? ⟨w.heap.size + 1 + 1 + 1 + 1, q, none⟩ = false := fun q => by simp [go_sem]
  have MC := Mk.alloc ((((w.alloc (Obj.cells #[Value.int .i64 x0, Value.int .i64 y0, Value.slice a0 n0 c0] 28)).alloc (Obj.cells #[Value.int .i64 x1, Value.int .i64 y1, Value.slice a1 n1 c1] 28)).alloc (Obj.cells #[Value.int .i64 x3, Value.int .i64 y3, Value.slice a3 n3 c3] 28)).alloc (Obj.cells #[Value.slice none 0 0] 42)) (Obj.cells #[Value.slice none 0 0] 42)
  have hsC : w.heap.size + 1 + 1 + 1 + 1 + 1 ≤ (((((w.alloc (Obj.cells #[Value.int .i64 x0, Value.int .i64 y0, Value.slice a0 n0 c0] 28)).alloc (Obj.cells #[Value.int .i64 x1, Value.int .i64 y1, Value.slice a1 n1 c1] 28)).alloc (Obj.cells #[Value.int .i64 x3, Value.int .i64 y3, Value.slice a3 n3 c3] 28)).alloc (Obj.cells #[Value.slice none 0 0] 42)).alloc (Obj.cells #[Value.slice none 0 0] 42)).heap.size := by rw [World.size_alloc, hs0]; exact Nat.le_refl _
  have k0' := MC.cellAt k0
  have k1' := MC.cellAt k1
  have k2' := MC.cellAt k2
  have l0' := MC.cellAt l0
  have l1' := MC.cellAt l1
  have l2' := MC.cellAt l2
  have j0' := MC.cellAt j0
  have j1' := MC.cellAt j1
  have j2' := MC.cellAt j2
  have r0' := MC.cellAt r0
  have fR' : ∀ q, (((((w.alloc (Obj.cells #[Value.int .i64 x0, Value.int .i64 y0, Value.slice a0 n0 c0] 28)).alloc (Obj.cells #[Value.int .i64 x1, Value.int .i64 y1, Value.slice a1 n1 c1] 28)).alloc (Obj.cells #[Value.int .i64 x3, Value.int .i64 y3, Value.slice a3 n3 c3] 28)).alloc (Obj.cells #[Value.slice none 0 0] 42)).alloc (Obj.cells #[Value.slice none 0 0] 42)).frozen? ⟨w.heap.size + 1 + 1 + 1, q, none⟩ = false := fun q => (MC.frozen (b := w.heap.size + 1 + 1 + 1) (o := q) (by omega) (.inr (Nat.zero_le _))).trans (fR q)
  have k0w := k0
  have k1w := k1
  have k2w := k2
  have l0w := l0
  have l1w := l1
  have l2w := l2
  have j0w := j0
  have j1w := j1
  have j2w := j2
  have r0w := r0
  have fRw := fR
  replace k0 := k0'
  replace k1 := k1'
  replace k2 := k2'
  replace l0 := l0'
  replace l1 := l1'
  replace l2 := l2'
  replace j0 := j0'
  replace j1 := j1'
  replace j2 := j2'
  replace r0 := r0'
  clear k0'
  clear k1'
  clear k2'
  clear l0'
  clear l1'
  clear l2'
  clear j0'
  clear j1'
  clear j2'
  clear r0'
  replace fR := fR'
  clear fR'
  generalize (((((w.alloc (Obj.cells #[Value.int .i64 x0, Value.int .i64 y0, Value.slice a0 n0 c0] 28)).alloc (Obj.cells #[Value.int .i64 x1, Value.int .i64 y1, Value.slice a1 n1 c1] 28)).alloc (Obj.cells #[Value.int .i64 x3, Value.int .i64 y3, Value.slice a3 n3 c3] 28)).alloc (Obj.cells #[Value.slice none 0 0] 42)).alloc (Obj.cells #[Value.slice none 0 0] 42)) = wA0 at *
  generalize ((((w.alloc (Obj.cells #[Value.int .i64 x0, Value.int .i64 y0, Value.slice a0 n0 c0] 28)).alloc (Obj.cells #[Value.int .i64 x1, Value.int .i64 y1, Value.slice a1 n1 c1] 28)).alloc (Obj.cells #[Value.int .i64 x3, Value.int .i64 y3, Value.slice a3 n3 c3] 28)).alloc (Obj.cells #[Value.slice none 0 0] 42)) = wb at *
  have hown : wA0.ownsRow (w.heap.size + 1 + 1 + 1 + 1 + 1) 35 4 (.slice none 0 0) 0 (rowC 4 HPathPart.cell []) := own_nilR _ _ _ _
  have hK : Hid (Kids WPathPart wA0 (w.heap.size + 1 + 1 + 1 + 1 + 1) wA0.heap.size (fun g => (Value.slice none 0 0).ownBlock = some g) 0 [] []) := Kids.none_ _ _ _ _ _ _ _
  have hMW := M0.trans MC
  have hrel : ∃ (A : Option Addr) (K C : Nat) (gs : List HPathPart), (wA0.cell? ⟨w.heap.size + 1 + 1 + 1 + 1, 0, none⟩ = some (.slice A K C) ∧ ∀ q, wA0.frozen? ⟨w.heap.size + 1 + 1 + 1 + 1, q, none⟩ = false) ∧ wA0.ownsRow (w.heap.size + 1 + 1 + 1 + 1 + 1) 35 4 (.slice A K C) K (rowC 4 HPathPart.cell gs) ∧ Hid (Kids WPathPart wA0 (w.heap.size + 1 + 1 + 1 + 1 + 1) wA0.heap.size (fun g => (Value.slice A K C).ownBlock = some g) K gs ([] : List TPathPart)) ∧ ((A = none → C = 0) ∧ (K ≤ C ∧ C ≤ 9223372036854775807)) ∧ Mk0 wb wA0 ∧ w.heap.size + 1 + 1 + 1 + 1 + 1 ≤ wA0.heap.size ∧ K ≤ 0 ∧ ([] : List TPathPart).length = K := ⟨none, 0, 0, [], ⟨b0, fb⟩, hown, hK, ⟨fun _ => rfl, Nat.le_refl _, by decide⟩, MC, hsC, Nat.le_refl _, rfl⟩
  clear b0 fb hown hK hMW MC hsC
  have FRB : Hid (∀ q, wb.frozen? ⟨w.heap.size + 1 + 1 + 1, q, none⟩ = false) := Lib.hid fRw
  have K0 := Lib.hid k0w
  have K1 := Lib.hid k1w
  have K2 := Lib.hid k2w
  have L0 := Lib.hid l0w
  have L1 := Lib.hid l1w
  have L2 := Lib.hid l2w
  have J0 := Lib.hid j0w
  have J1 := Lib.hid j1w
  have J2 := Lib.hid j2w
  have R0 := Lib.hid r0w
  clear fRw k0w k1w k2w l0w l1w l2w j0w j1w j2w r0w fR k0 k1 k2 l0 l1 l2 j0 j1 j2 r0
  obtain ⟨A, K, C, gs, ⟨b0, fb⟩, hown, hK, hcc, hM, hsz, hKb, hRl⟩ := hrel
  have k0 := hM.cellAt K0.out
  have k1 := hM.cellAt K1.out
  have k2 := hM.cellAt K2.out
  have l0 := hM.cellAt L0.out
  have l1 := hM.cellAt L1.out
  have l2 := hM.cellAt L2.out
  have j0 := hM.cellAt J0.out
  have j1 := hM.cellAt J1.out
  have j2 := hM.cellAt J2.out
  have r0 := hM.cellAt R0.out
  have fR : ∀ q, wA0.frozen? ⟨w.heap.size + 1 + 1 + 1, q, none⟩ = false := fun q => (hM.frozen (b := w.heap.size + 1 + 1 + 1) (o := q) (by omega) (.inr (Nat.zero_le _))).trans (FRB.out q)
  have hMW := M0.trans hM
  have hlow := hM.size
  go_upto_if 15 with fail
  go_cut [] from 15 to 22 (fun wq => ∃ (A : Option Addr) (K C : Nat) (gs : List HPathPart), (wq.cell? ⟨w.heap.size + 1 + 1 + 1 + 1, 0, none⟩ = some (.slice A K C) ∧ ∀ q, wq.frozen? ⟨w.heap.size + 1 + 1 + 1 + 1, q, none⟩ = false) ∧ wq.ownsRow (w.heap.size + 1 + 1 + 1 + 1 + 1) 35 4 (.slice A K C) K (rowC 4 HPathPart.cell gs) ∧ Hid (Kids WPathPart wq (w.heap.size + 1 + 1 + 1 + 1 + 1) wq.heap.size (fun g => (Value.slice A K C).ownBlock = some g) K gs (addIf (decide (0 < n0)) ([] : List TPathPart) (mpEl x0 y0 z0 n0 1 0))) ∧ ((A = none → C = 0) ∧ (K ≤ C ∧ C ≤ 9223372036854775807)) ∧ Mk0 wb wq ∧ w.heap.size + 1 + 1 + 1 + 1 + 1 ≤ wq.heap.size ∧ K ≤ 1 ∧ (addIf (decide (0 < n0)) ([] : List TPathPart) (mpEl x0 y0 z0 n0 1 0)).length = K)
  case first =>
    by_cases cz0 : n0 = 0
    · have e0 : decide (0 < n0) = false := by simp; omega
      have e0' : decide ((0 : Int) < (n0 : Int)) = false := by simp; omega
      have HE := Lib.hid (show (addIf (decide (0 < n0)) ([] : List TPathPart) (mpEl x0 y0 z0 n0 1 0)) = ([] : List TPathPart) by rw [e0]; rfl)
      go_wp2_with fail
      go_meet
      case rel => exact ⟨A, K, C, gs, ⟨b0, fb⟩, hown, by rw [HE.out]; exact hK, hcc, hM, hsz, by omega, by rw [HE.out]; exact hRl⟩
    · have e0 : decide (0 < n0) = true := by simp; omega
      have e0' : decide ((0 : Int) < (n0 : Int)) = true := by simp; omega
      have HE := Lib.hid (show (addIf (decide (0 < n0)) ([] : List TPathPart) (mpEl x0 y0 z0 n0 1 0)) = ([] : List TPathPart) ++ [(mpEl x0 y0 z0 n0 1 0)] by rw [e0]; rfl)
      go_wp2_with fail
      refine wp_region_fh (fun (g : Bxs) w' => (Mk0 wA0 w' ∧ w'.cell? ⟨w.heap.size, 0, none⟩ = some (.int .i64 x0) ∧ w'.cell? ⟨w.heap.size, 1, none⟩ = some (.int .i64 y0) ∧ w'.cell? ⟨w.heap.size, 2, none⟩ = some (.slice a0 n0 c0) ∧ w'.cell? ⟨w.heap.size + 1, 0, none⟩ = some (.int .i64 x1) ∧ w'.cell? ⟨w.heap.size + 1, 1, none⟩ = some (.int .i64 y1) ∧ w'.cell? ⟨w.heap.size + 1, 2, none⟩ = some (.slice a1 n1 c1) ∧ w'.cell? ⟨w.heap.size + 1 + 1, 0, none⟩ = some (.int .i64 x3) ∧ w'.cell? ⟨w.heap.size + 1 + 1, 1, none⟩ = some (.int .i64 y3) ∧ w'.cell? ⟨w.heap.size + 1 + 1, 2, none⟩ = some (.slice a3 n3 c3) ∧ w'.cell? ⟨w.heap.size + 1 + 1 + 1, 0, none⟩ = some (.slice none 0 0) ∧ w'.cell? ⟨w.heap.size + 1 + 1 + 1 + 1, 0, none⟩ = some (.slice A K C)) ∧ BxS wA0.heap.size g w') (fhF [fun g x wv => (x 0) = .pointer (some ⟨w.heap.size + 1 + 1 + 1 + 1, 0, none⟩), fun g x wv => (x 1) = .slice A K C, fun g x wv => (x 2) = .agg #[.int .i64 x0, .int .i64 y0, .slice a0 n0 c0], fun g x wv => ∃ (g : HPathPart) (lo hi : Nat), (x 3) = .agg #[.int .i64 g.kind, .int .i64 g.ts, .int .i64 g.beta, .slice g.a g.n g.c] ∧ WPathPart.kid wv lo hi g (mpEl x0 y0 z0 n0 1 0) ∧ wA0.heap.size ≤ lo ∧ lo ≤ hi ∧ hi ≤ wv.heap.size, fun g x wv => ∃ (g : HPathPart) (lo hi NB : Nat), (x 4) = .slice (some ⟨NB, 0, none⟩) 1 1 ∧ HasR 4 HPathPart.cell wv wv.heap.size (some ⟨NB, 0, none⟩) 1 [g] ∧ WPathPart.kid wv lo hi g (mpEl x0 y0 z0 n0 1 0) ∧ wA0.heap.size ≤ lo ∧ lo ≤ hi ∧ hi ≤ wv.heap.size]) BxX (fun _ _ => False) (spL [[0], [1], [2], [3], [4]]) 8 5 (by kernel_rfl) (by kernel_rfl) (by kernel_rfl) (by decide) (by decide) (by kernel_rfl) (fun h => absurd h (by decide)) (fhM_mono ⟨fun g g' v w w' h x => h, fun g g' v w w' h x => h, fun g g' v w w' h x => h, fun g g' v w w' h x => (by obtain ⟨q, lo, hi, e, k, d1, d2, d3⟩ := h; exact ⟨q, lo, hi, e, WPathPart.kid_mk k x.far d3 (.inr (.inr (Nat.le_refl _))), d1, d2, Nat.le_trans d3 x.far.size⟩), fun g g' v w w' h x => (by obtain ⟨q, lo, hi, NB, e, hr, k, d1, d2, d3⟩ := h; exact ⟨q, lo, hi, NB, e, (hr.mk x.far (Nat.le_refl _) (.inr (Nat.le_refl _))).mono x.far.size, WPathPart.kid_mk k x.far d3 (.inr (.inr (Nat.le_refl _))), d1, d2, Nat.le_trans d3 x.far.size⟩), trivial⟩) ⟨⟨Mk.drew1 _, k0, k1, k2, l0, l1, l2, j0, j1, j2, r0, b0⟩, BxS.none_ _ _⟩ ?_
      change WkH _ _ _ _ _ _ _ 8 5 5 0 _
      refine WkH.value (m := 4) (k := 0) (by decide) rfl rfl (of_decide_eq_true (by rfl)) rfl (fun g wv hS hF => ?_) (fun v0 => ?_)
      · obtain ⟨⟨s0, s1, s2, s3, s4, s5, s6, s7, s8, s9, s10, s11⟩, hB2⟩ := hS
        exact ⟨.pointer (some ⟨w.heap.size + 1 + 1 + 1 + 1, 0, none⟩), wv, g, (by go_simp; try with_reducible rfl), ⟨⟨s0, s1, s2, s3, s4, s5, s6, s7, s8, s9, s10, s11⟩, hB2⟩, BxX.same (Mk.refl _ _ _), rfl⟩
      try simp only [Act.put, List.getElem_toArray, List.getElem_cons_zero, List.setIfInBounds_toArray, List.set_cons_zero, List.set_cons_succ]
      refine WkH.value (m := 3) (k := 1) (by decide) rfl rfl (of_decide_eq_true (by rfl)) rfl (fun g wv hS hF => ?_) (fun v1 => ?_)
      · obtain ⟨⟨s0, s1, s2, s3, s4, s5, s6, s7, s8, s9, s10, s11⟩, hB2⟩ := hS
        have f0 : v0 = .pointer (some ⟨w.heap.size + 1 + 1 + 1 + 1, 0, none⟩) := hF 0 (by rfl)
        obtain rfl := f0
        exact ⟨.slice A K C, wv, g, (by go_simp; try with_reducible rfl), ⟨⟨s0, s1, s2, s3, s4, s5, s6, s7, s8, s9, s10, s11⟩, hB2⟩, BxX.same (Mk.refl _ _ _), rfl⟩
      try simp only [Act.put, List.getElem_toArray, List.getElem_cons_succ, List.getElem_cons_zero, List.setIfInBounds_toArray, List.set_cons_zero, List.set_cons_succ]
      refine WkH.value (m := 2) (k := 2) (by decide) rfl rfl (of_decide_eq_true (by rfl)) rfl (fun g wv hS hF => ?_) (fun v2 => ?_)
      · obtain ⟨⟨s0, s1, s2, s3, s4, s5, s6, s7, s8, s9, s10, s11⟩, hB2⟩ := hS
        exact ⟨.agg #[.int .i64 x0, .int .i64 y0, .slice a0 n0 c0], wv, g, (by go_simp; try with_reducible rfl), ⟨⟨s0, s1, s2, s3, s4, s5, s6, s7, s8, s9, s10, s11⟩, hB2⟩, BxX.same (Mk.refl _ _ _), rfl⟩
      try simp only [Act.put, List.getElem_toArray, List.getElem_cons_succ, List.getElem_cons_zero, List.setIfInBounds_toArray, List.set_cons_zero, List.set_cons_succ]
      refine WkH.call (m := 1) (k := 3) (by decide) rfl rfl (of_decide_eq_true (by rfl)) rfl (fun g wv hS hF => ?_) (fun v3 => ?_)
      · obtain ⟨⟨s0, s1, s2, s3, s4, s5, s6, s7, s8, s9, s10, s11⟩, hB2⟩ := hS
        have f2 : v2 = .agg #[.int .i64 x0, .int .i64 y0, .slice a0 n0 c0] := hF 2 (by rfl)
        obtain rfl := f2
        refine ⟨_, _, (by go_simp; first | done | exact ⟨rfl, rfl⟩ | with_reducible rfl), ?_⟩
        refine ((specMkP x0 y0 a0 n0 c0 B0 z0 1 0 wv (h0.mk (hMW.trans s0) hB0 (.inr (Nat.le_refl _))) (Nat.le_trans hB0 ((hMW.trans s0)).size) hn0 hc0 hk0)).mono ?_
        rintro e w' ⟨A, N, C, rfl, hcc, ow, mm⟩
        exact ⟨_, g, rfl, ⟨⟨s0.trans mm, mm.cellAt s1, mm.cellAt s2, mm.cellAt s3, mm.cellAt s4, mm.cellAt s5, mm.cellAt s6, mm.cellAt s7, mm.cellAt s8, mm.cellAt s9, mm.cellAt s10, mm.cellAt s11⟩, hB2.mk0 mm⟩, BxX.same mm, ⟨⟨_, _, _, A, N, C⟩, wv.heap.size, w'.heap.size, rfl, ⟨rfl, rfl, rfl, ow, hcc.2.1, hcc.2.2, hcc.1⟩, s0.size, mm.size, Nat.le_refl _⟩⟩
      try simp only [Act.put, List.getElem_toArray, List.getElem_cons_succ, List.getElem_cons_zero, List.setIfInBounds_toArray, List.set_cons_zero, List.set_cons_succ]
      refine WkH.value (m := 0) (k := 4) (by decide) rfl rfl (of_decide_eq_true (by rfl)) rfl (fun g wv hS hF => ?_) (fun v4 => ?_)
      · obtain ⟨⟨s0, s1, s2, s3, s4, s5, s6, s7, s8, s9, s10, s11⟩, hB2⟩ := hS
        have f3 : ∃ (g : HPathPart) (lo hi : Nat), v3 = .agg #[.int .i64 g.kind, .int .i64 g.ts, .int .i64 g.beta, .slice g.a g.n g.c] ∧ WPathPart.kid wv lo hi g (mpEl x0 y0 z0 n0 1 0) ∧ wA0.heap.size ≤ lo ∧ lo ≤ hi ∧ hi ≤ wv.heap.size := hF 3 (by rfl)
        obtain ⟨q, lo, hi, rfl, k, d1, d2, d3⟩ := f3
        have mm := Mk.alloc wv (Obj.cells #[.int .i64 q.kind, .int .i64 q.ts, .int .i64 q.beta, .slice q.a q.n q.c] 35)
        exact ⟨.slice (some ⟨wv.heap.size, 0, none⟩) 1 1, (wv.alloc (Obj.cells #[.int .i64 q.kind, .int .i64 q.ts, .int .i64 q.beta, .slice q.a q.n q.c] 35)), g, (by go_simp; try with_reducible rfl), ⟨⟨s0.trans mm, mm.cellAt s1, mm.cellAt s2, mm.cellAt s3, mm.cellAt s4, mm.cellAt s5, mm.cellAt s6, mm.cellAt s7, mm.cellAt s8, mm.cellAt s9, mm.cellAt s10, mm.cellAt s11⟩, hB2.mk0 mm⟩, BxX.same mm, ⟨q, lo, hi, wv.heap.size, rfl, hasR_new (cell := HPathPart.cell) (nc := 4) (by decide) wv 35 q #[.int .i64 q.kind, .int .i64 q.ts, .int .i64 q.beta, .slice q.a q.n q.c] (fun j hj => by match j, hj with | 0, _ => rfl | 1, _ => rfl | 2, _ => rfl | 3, _ => rfl), WPathPart.kid_mk k mm d3 (.inr (.inr (Nat.le_refl _))), d1, d2, Nat.le_trans d3 mm.size⟩⟩
      try simp only [Act.put, List.getElem_toArray, List.getElem_cons_succ, List.getElem_cons_zero, List.setIfInBounds_toArray, List.set_cons_zero, List.set_cons_succ]
      refine WkH.done fun gE wE hE hF => ?_
      clear k0 k1 k2 l0 l1 l2 j0 j1 j2 r0 b0
      obtain ⟨⟨mE, k0, k1, k2, l0, l1, l2, j0, j1, j2, r0, b0⟩, hBE⟩ := hE
      change wpAny _ _ _ _ 3 _ _ _
      have f4 : ∃ (g : HPathPart) (lo hi NB : Nat), v4 = .slice (some ⟨NB, 0, none⟩) 1 1 ∧ HasR 4 HPathPart.cell wE wE.heap.size (some ⟨NB, 0, none⟩) 1 [g] ∧ WPathPart.kid wE lo hi g (mpEl x0 y0 z0 n0 1 0) ∧ wA0.heap.size ≤ lo ∧ lo ≤ hi ∧ hi ≤ wE.heap.size := hF 4 (by decide)
      obtain ⟨gx0, lox0, hix0, NB, rfl, hr, hxx0, d1x0, d2x0, d3x0⟩ := f4
      have f1 : v1 = .slice A K C := hF 1 (by decide)
      obtain rfl := f1
      clear hF hBE
      have hownx0 := own_keptR hown mE
      have hKx0 := hK.out.mk mE (Nat.le_refl _) (.inr (.inr (Nat.le_refl _)))
      have fbx0 : ∀ q, wE.frozen? ⟨w.heap.size + 1 + 1 + 1 + 1, q, none⟩ = false := fun q => (mE.frozen (b := w.heap.size + 1 + 1 + 1 + 1) (o := q) (by omega) (.inr (Nat.zero_le _))).trans (fb q)
      have fRx0 : ∀ q, wE.frozen? ⟨w.heap.size + 1 + 1 + 1, q, none⟩ = false := fun q => (mE.frozen (b := w.heap.size + 1 + 1 + 1) (o := q) (by omega) (.inr (Nat.zero_le _))).trans (fR q)
      have hlox0 : w.heap.size + 1 + 1 + 1 + 1 + 1 ≤ wE.heap.size := Nat.le_trans hsz mE.size
      have Mx0 := hM.trans mE
      have hK2x0 := hKx0.snoc (ownsRow_lenR (by decide) hownx0) (by first | rfl | decide | exact hRl) (by omega) d2x0 hxx0 (by omega) (fun q hq => .inl (by have := (hown.lt q hq).2; omega))
      clear hKx0 hxx0
      refine wpAny_ready (rs := [5]) (by kernel_rfl) (by simp) ?_
      refine (AllReady.cons rfl (fun KK hKK => ?_) AllReady.nil)
      refine step_appR (nc := 4) (cell := HPathPart.cell) (by decide) onePathPart (by rfl) (.tmp 17) (.tmp 20) 40 (by rfl) (w.heap.size + 1 + 1 + 1 + 1 + 1) 35 i0 _ Try.underlying40 hi0 hz0 rfl hz1 (by rw [hz2]; decide) _ gs K (by rfl) hownx0 (some ⟨NB, 0, none⟩) 1 1 [gx0] (by rfl) (fun h => by cases h) hr (by omega) hlox0 ?_
      intro vvx0 ux0 hown4x0 hgr hat
      refine hKK _ _ ?_
      clear hKK KK
      try simp only [Act.put, List.getElem_toArray, List.getElem_cons_succ, List.getElem_cons_zero, List.setIfInBounds_toArray, List.set_cons_zero, List.set_cons_succ]
      have hne : ∀ (B : Nat), B ≤ w.heap.size + 1 + 1 + 1 + 1 → ∀ q, (Value.slice A K C).ownBlock = some q → q ≠ B := fun B hB q e => (by have := (hownx0.lt q e).1; omega)
      have bk0 := World.block_lt_of_cell? _ _ k0
      have bk3 := World.block_lt_of_cell? _ _ l0
      have bk6 := World.block_lt_of_cell? _ _ j0
      have bk9 := World.block_lt_of_cell? _ _ r0
      have bk10 := World.block_lt_of_cell? _ _ b0
      replace k0 := grown_cell k0 hgr (hne _ (by omega))
      replace k1 := grown_cell k1 hgr (hne _ (by omega))
      replace k2 := grown_cell k2 hgr (hne _ (by omega))
      replace l0 := grown_cell l0 hgr (hne _ (by omega))
      replace l1 := grown_cell l1 hgr (hne _ (by omega))
      replace l2 := grown_cell l2 hgr (hne _ (by omega))
      replace j0 := grown_cell j0 hgr (hne _ (by omega))
      replace j1 := grown_cell j1 hgr (hne _ (by omega))
      replace j2 := grown_cell j2 hgr (hne _ (by omega))
      replace r0 := grown_cell r0 hgr (hne _ (by omega))
      replace b0 := grown_cell b0 hgr (hne _ (by omega))
      replace fbx0 := fun q => grown_frz (fbx0 q) (show w.heap.size + 1 + 1 + 1 + 1 < wE.heap.size by omega) hgr (hne _ (Nat.le_refl _))
      replace fRx0 := fun q => grown_frz (fRx0 q) (show w.heap.size + 1 + 1 + 1 < wE.heap.size by omega) hgr (hne _ (by omega))
      have hK4x0 := hK2x0.grow hgr d3x0 hat
      replace Mx0 := Mx0.appR hgr (fun q hq => by have := (hownx0.lt q hq).1; omega)
      have zgx0 := hgr.size
      obtain ⟨Ax0, Cx0, rfl, hcax0, hcbx0⟩ := ownsRow_sliceR2 hown4x0
      clear hK2x0 hat hownx0 hr hgr
      refine wpAny_ready (rs := [6]) (by kernel_rfl) (by simp) ?_
      refine (AllReady.cons rfl (fun K hK => ?_) AllReady.nil)
      go_simp
      refine hK _ _ ?_
      clear hK K
      try simp only [Act.put, List.getElem_toArray, List.getElem_cons_succ, List.getElem_cons_zero, List.setIfInBounds_toArray, List.set_cons_zero, List.set_cons_succ]
      refine wpAny_ready (rs := [7]) (by kernel_rfl) (by simp) ?_
      refine (AllReady.cons rfl (fun K hK => ?_) AllReady.nil)
      go_simp
      refine hK _ _ ?_
      clear hK K
      try simp only [Act.put, List.getElem_toArray, List.getElem_cons_succ, List.getElem_cons_zero, List.setIfInBounds_toArray, List.set_cons_zero, List.set_cons_succ]
      replace k0 := cell_set k0 ⟨w.heap.size + 1 + 1 + 1 + 1, 0, none⟩ (.slice Ax0 (K + 1) Cx0) (.inl (show w.heap.size + 1 + 1 + 1 + 1 ≠ w.heap.size by omega))
      replace k1 := cell_set k1 ⟨w.heap.size + 1 + 1 + 1 + 1, 0, none⟩ (.slice Ax0 (K + 1) Cx0) (.inl (show w.heap.size + 1 + 1 + 1 + 1 ≠ w.heap.size by omega))
      replace k2 := cell_set k2 ⟨w.heap.size + 1 + 1 + 1 + 1, 0, none⟩ (.slice Ax0 (K + 1) Cx0) (.inl (show w.heap.size + 1 + 1 + 1 + 1 ≠ w.heap.size by omega))
      replace l0 := cell_set l0 ⟨w.heap.size + 1 + 1 + 1 + 1, 0, none⟩ (.slice Ax0 (K + 1) Cx0) (.inl (show w.heap.size + 1 + 1 + 1 + 1 ≠ w.heap.size + 1 by omega))
      replace l1 := cell_set l1 ⟨w.heap.size + 1 + 1 + 1 + 1, 0, none⟩ (.slice Ax0 (K + 1) Cx0) (.inl (show w.heap.size + 1 + 1 + 1 + 1 ≠ w.heap.size + 1 by omega))
      replace l2 := cell_set l2 ⟨w.heap.size + 1 + 1 + 1 + 1, 0, none⟩ (.slice Ax0 (K + 1) Cx0) (.inl (show w.heap.size + 1 + 1 + 1 + 1 ≠ w.heap.size + 1 by omega))
      replace j0 := cell_set j0 ⟨w.heap.size + 1 + 1 + 1 + 1, 0, none⟩ (.slice Ax0 (K + 1) Cx0) (.inl (show w.heap.size + 1 + 1 + 1 + 1 ≠ w.heap.size + 1 + 1 by omega))
      replace j1 := cell_set j1 ⟨w.heap.size + 1 + 1 + 1 + 1, 0, none⟩ (.slice Ax0 (K + 1) Cx0) (.inl (show w.heap.size + 1 + 1 + 1 + 1 ≠ w.heap.size + 1 + 1 by omega))
      replace j2 := cell_set j2 ⟨w.heap.size + 1 + 1 + 1 + 1, 0, none⟩ (.slice Ax0 (K + 1) Cx0) (.inl (show w.heap.size + 1 + 1 + 1 + 1 ≠ w.heap.size + 1 + 1 by omega))
      replace r0 := cell_set r0 ⟨w.heap.size + 1 + 1 + 1 + 1, 0, none⟩ (.slice Ax0 (K + 1) Cx0) (.inl (show w.heap.size + 1 + 1 + 1 + 1 ≠ w.heap.size + 1 + 1 + 1 by omega))
      have bx0 := World.cell?_setCell_same _ _ (.slice Ax0 (K + 1) Cx0) b0
      replace fbx0 := fun q => frozen_set (fbx0 q) ⟨w.heap.size + 1 + 1 + 1 + 1, 0, none⟩ (.slice Ax0 (K + 1) Cx0)
      replace fRx0 := fun q => frozen_set (fRx0 q) ⟨w.heap.size + 1 + 1 + 1 + 1, 0, none⟩ (.slice Ax0 (K + 1) Cx0)
      replace hown4x0 := own_put hown4x0 ⟨w.heap.size + 1 + 1 + 1 + 1, 0, none⟩ (.slice Ax0 (K + 1) Cx0) (Nat.lt_succ_self _)
      have zSx0 : (ux0.setCell ⟨w.heap.size + 1 + 1 + 1 + 1, 0, none⟩ (.slice Ax0 (K + 1) Cx0)).heap.size = ux0.heap.size := by simp only [World.size_set]
      have hKFx0 := Lib.hid ((hK4x0.set ⟨w.heap.size + 1 + 1 + 1 + 1, 0, none⟩ (.slice Ax0 (K + 1) Cx0) (.inr (.inl (Nat.lt_succ_self _)))).wide (Nat.le_refl _) (show hix0 ≤ (ux0.setCell ⟨w.heap.size + 1 + 1 + 1 + 1, 0, none⟩ (.slice Ax0 (K + 1) Cx0)).heap.size by omega))
      clear hK4x0
      replace Mx0 := Mx0.put ⟨w.heap.size + 1 + 1 + 1 + 1, 0, none⟩ (.slice Ax0 (K + 1) Cx0) (show wb.heap.size ≤ w.heap.size + 1 + 1 + 1 + 1 by omega)
      have szx0 : w.heap.size + 1 + 1 + 1 + 1 + 1 ≤ (ux0.setCell ⟨w.heap.size + 1 + 1 + 1 + 1, 0, none⟩ (.slice Ax0 (K + 1) Cx0)).heap.size := by omega
      generalize (ux0.setCell ⟨w.heap.size + 1 + 1 + 1 + 1, 0, none⟩ (.slice Ax0 (K + 1) Cx0)) = wx0 at *
      refine wpAny_doneN (by kernel_rfl) ?_
      refine ‹∀ (a : Act) (w : World), _ → _› _ _ ?_
      go_wp2_with fail
      go_meet
      case rel => exact ⟨Ax0, K + 1, Cx0, gs ++ [gx0], ⟨bx0, fbx0⟩, hown4x0, by rw [HE.out]; exact hKFx0, ⟨hcax0, hcbx0⟩, Mx0, szx0, by omega, by rw [HE.out, List.length_append]; exact congrArg (· + 1) hRl⟩
  case rest =>
    clear b0 fb hown hK hcc hM hsz hKb hRl hMW hlow fR k0 k1 k2 l0 l1 l2 j0 j1 j2 r0
    have hrel := hcut
    clear hcut
    obtain ⟨A, K, C, gs, ⟨b0, fb⟩, hown, hK, hcc, hM, hsz, hKb, hRl⟩ := hrel
    have k0 := hM.cellAt K0.out
    have k1 := hM.cellAt K1.out
    have k2 := hM.cellAt K2.out
    have l0 := hM.cellAt L0.out
    have l1 := hM.cellAt L1.out
    have l2 := hM.cellAt L2.out
    have j0 := hM.cellAt J0.out
    have j1 := hM.cellAt J1.out
    have j2 := hM.cellAt J2.out
    have r0 := hM.cellAt R0.out
    have fR : ∀ q, wc.frozen? ⟨w.heap.size + 1 + 1 + 1, q, none⟩ = false := fun q => (hM.frozen (b := w.heap.size + 1 + 1 + 1) (o := q) (by omega) (.inr (Nat.zero_le _))).trans (FRB.out q)
    have hMW := M0.trans hM
    have hlow := hM.size
    go_upto_if 26 with fail
    go_cut [10] from 26 to 35 (fun sv wq => ∃ (A : Option Addr) (K C : Nat) (gs : List HPathPart), (wq.cell? ⟨w.heap.size + 1 + 1 + 1 + 1, 0, none⟩ = some (.slice A K C) ∧ ∀ q, wq.frozen? ⟨w.heap.size + 1 + 1 + 1 + 1, q, none⟩ = false) ∧ wq.ownsRow (w.heap.size + 1 + 1 + 1 + 1 + 1) 35 4 (.slice A K C) K (rowC 4 HPathPart.cell gs) ∧ Hid (Kids WPathPart wq (w.heap.size + 1 + 1 + 1 + 1 + 1) wq.heap.size (fun g => (Value.slice A K C).ownBlock = some g) K gs (addIf (decide (0 < n1)) (addIf (decide (0 < n0)) ([] : List TPathPart) (mpEl x0 y0 z0 n0 1 0)) (mpEl x1 y1 z1 n1 (j3k bb) 0))) ∧ ((A = none → C = 0) ∧ (K ≤ C ∧ C ≤ 9223372036854775807)) ∧ Mk0 wb wq ∧ w.heap.size + 1 + 1 + 1 + 1 + 1 ≤ wq.heap.size ∧ K ≤ 2 ∧ (addIf (decide (0 < n1)) (addIf (decide (0 < n0)) ([] : List TPathPart) (mpEl x0 y0 z0 n0 1 0)) (mpEl x1 y1 z1 n1 (j3k bb) 0)).length = K)
    case first =>
      by_cases cz1 : n1 = 0
      · have e1 : decide (0 < n1) = false := by simp; omega
        have e1' : decide ((0 : Int) < (n1 : Int)) = false := by simp; omega
        have HE := Lib.hid (show (addIf (decide (0 < n1)) (addIf (decide (0 < n0)) ([] : List TPathPart) (mpEl x0 y0 z0 n0 1 0)) (mpEl x1 y1 z1 n1 (j3k bb) 0)) = (addIf (decide (0 < n0)) ([] : List TPathPart) (mpEl x0 y0 z0 n0 1 0)) by rw [e1]; rfl)
        go_wp2_with fail
        go_meet
        case rel => exact ⟨A, K, C, gs, ⟨b0, fb⟩, hown, by rw [HE.out]; exact hK, hcc, hM, hsz, by omega, by rw [HE.out]; exact hRl⟩
      · have e1 : decide (0 < n1) = true := by simp; omega
        have e1' : decide ((0 : Int) < (n1 : Int)) = true := by simp; omega
        cases bb
        · have HE := Lib.hid (show (addIf (decide (0 < n1)) (addIf (decide (0 < n0)) ([] : List TPathPart) (mpEl x0 y0 z0 n0 1 0)) (mpEl x1 y1 z1 n1 (j3k false) 0)) = (addIf (decide (0 < n0)) ([] : List TPathPart) (mpEl x0 y0 z0 n0 1 0)) ++ [(mpEl x1 y1 z1 n1 2 0)] by rw [e1]; rfl)
          go_wp2_with fail
          refine wp_region_fh (fun (g : Bxs) w' => (Mk0 wc w' ∧ w'.cell? ⟨w.heap.size, 0, none⟩ = some (.int .i64 x0) ∧ w'.cell? ⟨w.heap.size, 1, none⟩ = some (.int .i64 y0) ∧ w'.cell? ⟨w.heap.size, 2, none⟩ = some (.slice a0 n0 c0) ∧ w'.cell? ⟨w.heap.size + 1, 0, none⟩ = some (.int .i64 x1) ∧ w'.cell? ⟨w.heap.size + 1, 1, none⟩ = some (.int .i64 y1) ∧ w'.cell? ⟨w.heap.size + 1, 2, none⟩ = some (.slice a1 n1 c1) ∧ w'.cell? ⟨w.heap.size + 1 + 1, 0, none⟩ = some (.int .i64 x3) ∧ w'.cell? ⟨w.heap.size + 1 + 1, 1, none⟩ = some (.int .i64 y3) ∧ w'.cell? ⟨w.heap.size + 1 + 1, 2, none⟩ = some (.slice a3 n3 c3) ∧ w'.cell? ⟨w.heap.size + 1 + 1 + 1, 0, none⟩ = some (.slice none 0 0) ∧ w'.cell? ⟨w.heap.size + 1 + 1 + 1 + 1, 0, none⟩ = some (.slice A K C)) ∧ BxS wc.heap.size g w') (fhF [fun g x wv => (x 0) = .pointer (some ⟨w.heap.size + 1 + 1 + 1 + 1, 0, none⟩), fun g x wv => (x 1) = .slice A K C, fun g x wv => (x 2) = .agg #[.int .i64 x1, .int .i64 y1, .slice a1 n1 c1], fun g x wv => (x 3) = .int .i64 2, fun g x wv => ∃ (g : HPathPart) (lo hi : Nat), (x 4) = .agg #[.int .i64 g.kind, .int .i64 g.ts, .int .i64 g.beta, .slice g.a g.n g.c] ∧ WPathPart.kid wv lo hi g (mpEl x1 y1 z1 n1 2 0) ∧ wc.heap.size ≤ lo ∧ lo ≤ hi ∧ hi ≤ wv.heap.size, fun g x wv => ∃ (g : HPathPart) (lo hi NB : Nat), (x 5) = .slice (some ⟨NB, 0, none⟩) 1 1 ∧ HasR 4 HPathPart.cell wv wv.heap.size (some ⟨NB, 0, none⟩) 1 [g] ∧ WPathPart.kid wv lo hi g (mpEl x1 y1 z1 n1 2 0) ∧ wc.heap.size ≤ lo ∧ lo ≤ hi ∧ hi ≤ wv.heap.size]) BxX (fun _ _ => False) (spL [[0], [1], [2], [3], [4], [5]]) 9 6 (by kernel_rfl) (by kernel_rfl) (by kernel_rfl) (by decide) (by decide) (by kernel_rfl) (fun h => absurd h (by decide)) (fhM_mono ⟨fun g g' v w w' h x => h, fun g g' v w w' h x => h, fun g g' v w w' h x => h, fun g g' v w w' h x => h, fun g g' v w w' h x => (by obtain ⟨q, lo, hi, e, k, d1, d2, d3⟩ := h; exact ⟨q, lo, hi, e, WPathPart.kid_mk k x.far d3 (.inr (.inr (Nat.le_refl _))), d1, d2, Nat.le_trans d3 x.far.size⟩), fun g g' v w w' h x => (by obtain ⟨q, lo, hi, NB, e, hr, k, d1, d2, d3⟩ := h; exact ⟨q, lo, hi, NB, e, (hr.mk x.far (Nat.le_refl _) (.inr (Nat.le_refl _))).mono x.far.size, WPathPart.kid_mk k x.far d3 (.inr (.inr (Nat.le_refl _))), d1, d2, Nat.le_trans d3 x.far.size⟩), trivial⟩) ⟨⟨Mk.drew1 _, k0, k1, k2, l0, l1, l2, j0, j1, j2, r0, b0⟩, BxS.none_ _ _⟩ ?_
          change WkH _ _ _ _ _ _ _ 9 6 6 0 _
          refine WkH.value (m := 5) (k := 0) (by decide) rfl rfl (of_decide_eq_true (by rfl)) rfl (fun g wv hS hF => ?_) (fun v0 => ?_)
          · obtain ⟨⟨s0, s1, s2, s3, s4, s5, s6, s7, s8, s9, s10, s11⟩, hB2⟩ := hS
            exact ⟨.pointer (some ⟨w.heap.size + 1 + 1 + 1 + 1, 0, none⟩), wv, g, (by go_simp; try with_reducible rfl), ⟨⟨s0, s1, s2, s3, s4, s5, s6, s7, s8, s9, s10, s11⟩, hB2⟩, BxX.same (Mk.refl _ _ _), rfl⟩
          try simp only [Act.put, List.getElem_toArray, List.getElem_cons_zero, List.setIfInBounds_toArray, List.set_cons_zero, List.set_cons_succ]
          refine WkH.value (m := 4) (k := 1) (by decide) rfl rfl (of_decide_eq_true (by rfl)) rfl (fun g wv hS hF => ?_) (fun v1 => ?_)
          · obtain ⟨⟨s0, s1, s2, s3, s4, s5, s6, s7, s8, s9, s10, s11⟩, hB2⟩ := hS
            have f0 : v0 = .pointer (some ⟨w.heap.size + 1 + 1 + 1 + 1, 0, none⟩) := hF 0 (by rfl)
            obtain rfl := f0
            exact ⟨.slice A K C, wv, g, (by go_simp; try with_reducible rfl), ⟨⟨s0, s1, s2, s3, s4, s5, s6, s7, s8, s9, s10, s11⟩, hB2⟩, BxX.same (Mk.refl _ _ _), rfl⟩
          try simp only [Act.put, List.getElem_toArray, List.getElem_cons_succ, List.getElem_cons_zero, List.setIfInBounds_toArray, List.set_cons_zero, List.set_cons_succ]
          refine WkH.value (m := 3) (k := 2) (by decide) rfl rfl (of_decide_eq_true (by rfl)) rfl (fun g wv hS hF => ?_) (fun v2 => ?_)
          · obtain ⟨⟨s0, s1, s2, s3, s4, s5, s6, s7, s8, s9, s10, s11⟩, hB2⟩ := hS
            exact ⟨.agg #[.int .i64 x1, .int .i64 y1, .slice a1 n1 c1], wv, g, (by go_simp; try with_reducible rfl), ⟨⟨s0, s1, s2, s3, s4, s5, s6, s7, s8, s9, s10, s11⟩, hB2⟩, BxX.same (Mk.refl _ _ _), rfl⟩
          try simp only [Act.put, List.getElem_toArray, List.getElem_cons_succ, List.getElem_cons_zero, List.setIfInBounds_toArray, List.set_cons_zero, List.set_cons_succ]
          refine WkH.value (m := 2) (k := 3) (by decide) rfl rfl (of_decide_eq_true (by rfl)) rfl (fun g wv hS hF => ?_) (fun v3 => ?_)
          · obtain ⟨⟨s0, s1, s2, s3, s4, s5, s6, s7, s8, s9, s10, s11⟩, hB2⟩ := hS
            exact ⟨.int .i64 2, wv, g, (by go_simp; try with_reducible rfl), ⟨⟨s0, s1, s2, s3, s4, s5, s6, s7, s8, s9, s10, s11⟩, hB2⟩, BxX.same (Mk.refl _ _ _), rfl⟩
          try simp only [Act.put, List.getElem_toArray, List.getElem_cons_succ, List.getElem_cons_zero, List.setIfInBounds_toArray, List.set_cons_zero, List.set_cons_succ]
          refine WkH.call (m := 1) (k := 4) (by decide) rfl rfl (of_decide_eq_true (by rfl)) rfl (fun g wv hS hF => ?_) (fun v4 => ?_)
          · obtain ⟨⟨s0, s1, s2, s3, s4, s5, s6, s7, s8, s9, s10, s11⟩, hB2⟩ := hS
            have f2 : v2 = .agg #[.int .i64 x1, .int .i64 y1, .slice a1 n1 c1] := hF 2 (by rfl)
            obtain rfl := f2
            have f3 : v3 = .int .i64 2 := hF 3 (by rfl)
            obtain rfl := f3
            refine ⟨_, _, (by go_simp; first | done | exact ⟨rfl, rfl⟩ | with_reducible rfl), ?_⟩
            refine ((specMkP x1 y1 a1 n1 c1 B1 z1 2 0 wv (h1.mk (hMW.trans s0) hB1 (.inr (Nat.le_refl _))) (Nat.le_trans hB1 ((hMW.trans s0)).size) hn1 hc1 hk1)).mono ?_
            rintro e w' ⟨A, N, C, rfl, hcc, ow, mm⟩
            exact ⟨_, g, rfl, ⟨⟨s0.trans mm, mm.cellAt s1, mm.cellAt s2, mm.cellAt s3, mm.cellAt s4, mm.cellAt s5, mm.cellAt s6, mm.cellAt s7, mm.cellAt s8, mm.cellAt s9, mm.cellAt s10, mm.cellAt s11⟩, hB2.mk0 mm⟩, BxX.same mm, ⟨⟨_, _, _, A, N, C⟩, wv.heap.size, w'.heap.size, rfl, ⟨rfl, rfl, rfl, ow, hcc.2.1, hcc.2.2, hcc.1⟩, s0.size, mm.size, Nat.le_refl _⟩⟩
          try simp only [Act.put, List.getElem_toArray, List.getElem_cons_succ, List.getElem_cons_zero, List.setIfInBounds_toArray, List.set_cons_zero, List.set_cons_succ]
          refine WkH.value (m := 0) (k := 5) (by decide) rfl rfl (of_decide_eq_true (by rfl)) rfl (fun g wv hS hF => ?_) (fun v5 => ?_)
          · obtain ⟨⟨s0, s1, s2, s3, s4, s5, s6, s7, s8, s9, s10, s11⟩, hB2⟩ := hS
            have f4 : ∃ (g : HPathPart) (lo hi : Nat), v4 = .agg #[.int .i64 g.kind, .int .i64 g.ts, .int .i64 g.beta, .slice g.a g.n g.c] ∧ WPathPart.kid wv lo hi g (mpEl x1 y1 z1 n1 2 0) ∧ wc.heap.size ≤ lo ∧ lo ≤ hi ∧ hi ≤ wv.heap.size := hF 4 (by rfl)
            obtain ⟨q, lo, hi, rfl, k, d1, d2, d3⟩ := f4
            have mm := Mk.alloc wv (Obj.cells #[.int .i64 q.kind, .int .i64 q.ts, .int .i64 q.beta, .slice q.a q.n q.c] 35)
            exact ⟨.slice (some ⟨wv.heap.size, 0, none⟩) 1 1, (wv.alloc (Obj.cells #[.int .i64 q.kind, .int .i64 q.ts, .int .i64 q.beta, .slice q.a q.n q.c] 35)), g, (by go_simp; try with_reducible rfl), ⟨⟨s0.trans mm, mm.cellAt s1, mm.cellAt s2, mm.cellAt s3, mm.cellAt s4, mm.cellAt s5, mm.cellAt s6, mm.cellAt s7, mm.cellAt s8, mm.cellAt s9, mm.cellAt s10, mm.cellAt s11⟩, hB2.mk0 mm⟩, BxX.same mm, ⟨q, lo, hi, wv.heap.size, rfl, hasR_new (cell := HPathPart.cell) (nc := 4) (by decide) wv 35 q #[.int .i64 q.kind, .int .i64 q.ts, .int .i64 q.beta, .slice q.a q.n q.c] (fun j hj => by match j, hj with | 0, _ => rfl | 1, _ => rfl | 2, _ => rfl | 3, _ => rfl), WPathPart.kid_mk k mm d3 (.inr (.inr (Nat.le_refl _))), d1, d2, Nat.le_trans d3 mm.size⟩⟩
          try simp only [Act.put, List.getElem_toArray, List.getElem_cons_succ, List.getElem_cons_zero, List.setIfInBounds_toArray, List.set_cons_zero, List.set_cons_succ]
          refine WkH.done fun gE wE hE hF => ?_
          clear k0 k1 k2 l0 l1 l2 j0 j1 j2 r0 b0
          obtain ⟨⟨mE, k0, k1, k2, l0, l1, l2, j0, j1, j2, r0, b0⟩, hBE⟩ := hE
          change wpAny _ _ _ _ 3 _ _ _
          have f5 : ∃ (g : HPathPart) (lo hi NB : Nat), v5 = .slice (some ⟨NB, 0, none⟩) 1 1 ∧ HasR 4 HPathPart.cell wE wE.heap.size (some ⟨NB, 0, none⟩) 1 [g] ∧ WPathPart.kid wE lo hi g (mpEl x1 y1 z1 n1 2 0) ∧ wc.heap.size ≤ lo ∧ lo ≤ hi ∧ hi ≤ wE.heap.size := hF 5 (by decide)
          obtain ⟨gx1, lox1, hix1, NB, rfl, hr, hxx1, d1x1, d2x1, d3x1⟩ := f5
          have f1 : v1 = .slice A K C := hF 1 (by decide)
          obtain rfl := f1
          clear hF hBE
          have hownx1 := own_keptR hown mE
          have hKx1 := hK.out.mk mE (Nat.le_refl _) (.inr (.inr (Nat.le_refl _)))
          have fbx1 : ∀ q, wE.frozen? ⟨w.heap.size + 1 + 1 + 1 + 1, q, none⟩ = false := fun q => (mE.frozen (b := w.heap.size + 1 + 1 + 1 + 1) (o := q) (by omega) (.inr (Nat.zero_le _))).trans (fb q)
          have fRx1 : ∀ q, wE.frozen? ⟨w.heap.size + 1 + 1 + 1, q, none⟩ = false := fun q => (mE.frozen (b := w.heap.size + 1 + 1 + 1) (o := q) (by omega) (.inr (Nat.zero_le _))).trans (fR q)
          have hlox1 : w.heap.size + 1 + 1 + 1 + 1 + 1 ≤ wE.heap.size := Nat.le_trans hsz mE.size
          have Mx1 := hM.trans mE
          have hK2x1 := hKx1.snoc (ownsRow_lenR (by decide) hownx1) (by first | rfl | decide | exact hRl) (by omega) d2x1 hxx1 (by omega) (fun q hq => .inl (by have := (hown.lt q hq).2; omega))
          clear hKx1 hxx1
          refine wpAny_ready (rs := [6]) (by kernel_rfl) (by simp) ?_
          refine (AllReady.cons rfl (fun KK hKK => ?_) AllReady.nil)
          refine step_appR (nc := 4) (cell := HPathPart.cell) (by decide) onePathPart (by rfl) (.tmp 29) (.tmp 33) 40 (by rfl) (w.heap.size + 1 + 1 + 1 + 1 + 1) 35 i0 _ Try.underlying40 hi0 hz0 rfl hz1 (by rw [hz2]; decide) _ gs K (by rfl) hownx1 (some ⟨NB, 0, none⟩) 1 1 [gx1] (by rfl) (fun h => by cases h) hr (by omega) hlox1 ?_
          intro vvx1 ux1 hown4x1 hgr hat
          refine hKK _ _ ?_
          clear hKK KK
          try simp only [Act.put, List.getElem_toArray, List.getElem_cons_succ, List.getElem_cons_zero, List.setIfInBounds_toArray, List.set_cons_zero, List.set_cons_succ]
          have hne : ∀ (B : Nat), B ≤ w.heap.size + 1 + 1 + 1 + 1 → ∀ q, (Value.slice A K C).ownBlock = some q → q ≠ B := fun B hB q e => (by have := (hownx1.lt q e).1; omega)
          have bk0 := World.block_lt_of_cell? _ _ k0
          have bk3 := World.block_lt_of_cell? _ _ l0
          have bk6 := World.block_lt_of_cell? _ _ j0
          have bk9 := World.block_lt_of_cell? _ _ r0
          have bk10 := World.block_lt_of_cell? _ _ b0
          replace k0 := grown_cell k0 hgr (hne _ (by omega))
          replace k1 := grown_cell k1 hgr (hne _ (by omega))
          replace k2 := grown_cell k2 hgr (hne _ (by omega))
          replace l0 := grown_cell l0 hgr (hne _ (by omega))
          replace l1 := grown_cell l1 hgr (hne _ (by omega))
          replace l2 := grown_cell l2 hgr (hne _ (by omega))
          replace j0 := grown_cell j0 hgr (hne _ (by omega))
          replace j1 := grown_cell j1 hgr (hne _ (by omega))
          replace j2 := grown_cell j2 hgr (hne _ (by omega))
          replace r0 := grown_cell r0 hgr (hne _ (by omega))
          replace b0 := grown_cell b0 hgr (hne _ (by omega))
          replace fbx1 := fun q => grown_frz (fbx1 q) (show w.heap.size + 1 + 1 + 1 + 1 < wE.heap.size by omega) hgr (hne _ (Nat.le_refl _))
          replace fRx1 := fun q => grown_frz (fRx1 q) (show w.heap.size + 1 + 1 + 1 < wE.heap.size by omega) hgr (hne _ (by omega))
          have hK4x1 := hK2x1.grow hgr d3x1 hat
          replace Mx1 := Mx1.appR hgr (fun q hq => by have := (hownx1.lt q hq).1; omega)
          have zgx1 := hgr.size
          obtain ⟨Ax1, Cx1, rfl, hcax1, hcbx1⟩ := ownsRow_sliceR2 hown4x1
          clear hK2x1 hat hownx1 hr hgr
          refine wpAny_ready (rs := [7]) (by kernel_rfl) (by simp) ?_
          refine (AllReady.cons rfl (fun K hK => ?_) AllReady.nil)
          go_simp
          refine hK _ _ ?_
          clear hK K
          try simp only [Act.put, List.getElem_toArray, List.getElem_cons_succ, List.getElem_cons_zero, List.setIfInBounds_toArray, List.set_cons_zero, List.set_cons_succ]
          refine wpAny_ready (rs := [8]) (by kernel_rfl) (by simp) ?_
          refine (AllReady.cons rfl (fun K hK => ?_) AllReady.nil)
          go_simp
          refine hK _ _ ?_
          clear hK K
          try simp only [Act.put, List.getElem_toArray, List.getElem_cons_succ, List.getElem_cons_zero, List.setIfInBounds_toArray, List.set_cons_zero, List.set_cons_succ]
          replace k0 := cell_set k0 ⟨w.heap.size + 1 + 1 + 1 + 1, 0, none⟩ (.slice Ax1 (K + 1) Cx1) (.inl (show w.heap.size + 1 + 1 + 1 + 1 ≠ w.heap.size by omega))
          replace k1 := cell_set k1 ⟨w.heap.size + 1 + 1 + 1 + 1, 0, none⟩ (.slice Ax1 (K + 1) Cx1) (.inl (show w.heap.size + 1 + 1 + 1 + 1 ≠ w.heap.size by omega))
          replace k2 := cell_set k2 ⟨w.heap.size + 1 + 1 + 1 + 1, 0, none⟩ (.slice Ax1 (K + 1) Cx1) (.inl (show w.heap.size + 1 + 1 + 1 + 1 ≠ w.heap.size by omega))
          replace l0 := cell_set l0 ⟨w.heap.size + 1 + 1 + 1 + 1, 0, none⟩ (.slice Ax1 (K + 1) Cx1) (.inl (show w.heap.size + 1 + 1 + 1 + 1 ≠ w.heap.size + 1 by omega))
          replace l1 := cell_set l1 ⟨w.heap.size + 1 + 1 + 1 + 1, 0, none⟩ (.slice Ax1 (K + 1) Cx1) (.inl (show w.heap.size + 1 + 1 + 1 + 1 ≠ w.heap.size + 1 by omega))
          replace l2 := cell_set l2 ⟨w.heap.size + 1 + 1 + 1 + 1, 0, none⟩ (.slice Ax1 (K + 1) Cx1) (.inl (show w.heap.size + 1 + 1 + 1 + 1 ≠ w.heap.size + 1 by omega))
          replace j0 := cell_set j0 ⟨w.heap.size + 1 + 1 + 1 + 1, 0, none⟩ (.slice Ax1 (K + 1) Cx1) (.inl (show w.heap.size + 1 + 1 + 1 + 1 ≠ w.heap.size + 1 + 1 by omega))
          replace j1 := cell_set j1 ⟨w.heap.size + 1 + 1 + 1 + 1, 0, none⟩ (.slice Ax1 (K + 1) Cx1) (.inl (show w.heap.size + 1 + 1 + 1 + 1 ≠ w.heap.size + 1 + 1 by omega))
          replace j2 := cell_set j2 ⟨w.heap.size + 1 + 1 + 1 + 1, 0, none⟩ (.slice Ax1 (K + 1) Cx1) (.inl (show w.heap.size + 1 + 1 + 1 + 1 ≠ w.heap.size + 1 + 1 by omega))
          replace r0 := cell_set r0 ⟨w.heap.size + 1 + 1 + 1 + 1, 0, none⟩ (.slice Ax1 (K + 1) Cx1) (.inl (show w.heap.size + 1 + 1 + 1 + 1 ≠ w.heap.size + 1 + 1 + 1 by omega))
          have bx1 := World.cell?_setCell_same _ _ (.slice Ax1 (K + 1) Cx1) b0
          replace fbx1 := fun q => frozen_set (fbx1 q) ⟨w.heap.size + 1 + 1 + 1 + 1, 0, none⟩ (.slice Ax1 (K + 1) Cx1)
          replace fRx1 := fun q => frozen_set (fRx1 q) ⟨w.heap.size + 1 + 1 + 1 + 1, 0, none⟩ (.slice Ax1 (K + 1) Cx1)
          replace hown4x1 := own_put hown4x1 ⟨w.heap.size + 1 + 1 + 1 + 1, 0, none⟩ (.slice Ax1 (K + 1) Cx1) (Nat.lt_succ_self _)
          have zSx1 : (ux1.setCell ⟨w.heap.size + 1 + 1 + 1 + 1, 0, none⟩ (.slice Ax1 (K + 1) Cx1)).heap.size = ux1.heap.size := by simp only [World.size_set]
          have hKFx1 := Lib.hid ((hK4x1.set ⟨w.heap.size + 1 + 1 + 1 + 1, 0, none⟩ (.slice Ax1 (K + 1) Cx1) (.inr (.inl (Nat.lt_succ_self _)))).wide (Nat.le_refl _) (show hix1 ≤ (ux1.setCell ⟨w.heap.size + 1 + 1 + 1 + 1, 0, none⟩ (.slice Ax1 (K + 1) Cx1)).heap.size by omega))
          clear hK4x1
          replace Mx1 := Mx1.put ⟨w.heap.size + 1 + 1 + 1 + 1, 0, none⟩ (.slice Ax1 (K + 1) Cx1) (show wb.heap.size ≤ w.heap.size + 1 + 1 + 1 + 1 by omega)
          have szx1 : w.heap.size + 1 + 1 + 1 + 1 + 1 ≤ (ux1.setCell ⟨w.heap.size + 1 + 1 + 1 + 1, 0, none⟩ (.slice Ax1 (K + 1) Cx1)).heap.size := by omega
          generalize (ux1.setCell ⟨w.heap.size + 1 + 1 + 1 + 1, 0, none⟩ (.slice Ax1 (K + 1) Cx1)) = wx1 at *
          refine wpAny_doneN (by kernel_rfl) ?_
          refine ‹∀ (a : Act) (w : World), _ → _› _ _ ?_
          go_wp2_with fail
          go_meet
          case rel => exact ⟨Ax1, K + 1, Cx1, gs ++ [gx1], ⟨bx1, fbx1⟩, hown4x1, by rw [HE.out]; exact hKFx1, ⟨hcax1, hcbx1⟩, Mx1, szx1, by omega, by rw [HE.out, List.length_append]; exact congrArg (· + 1) hRl⟩
        · have HE := Lib.hid (show (addIf (decide (0 < n1)) (addIf (decide (0 < n0)) ([] : List TPathPart) (mpEl x0 y0 z0 n0 1 0)) (mpEl x1 y1 z1 n1 (j3k true) 0)) = (addIf (decide (0 < n0)) ([] : List TPathPart) (mpEl x0 y0 z0 n0 1 0)) ++ [(mpEl x1 y1 z1 n1 3 0)] by rw [e1]; rfl)
          go_wp2_with fail
          refine wp_region_fh (fun (g : Bxs) w' => (Mk0 wc w' ∧ w'.cell? ⟨w.heap.size, 0, none⟩ = some (.int .i64 x0) ∧ w'.cell? ⟨w.heap.size, 1, none⟩ = some (.int .i64 y0) ∧ w'.cell? ⟨w.heap.size, 2, none⟩ = some (.slice a0 n0 c0) ∧ w'.cell? ⟨w.heap.size + 1, 0, none⟩ = some (.int .i64 x1) ∧ w'.cell? ⟨w.heap.size + 1, 1, none⟩ = some (.int .i64 y1) ∧ w'.cell? ⟨w.heap.size + 1, 2, none⟩ = some (.slice a1 n1 c1) ∧ w'.cell? ⟨w.heap.size + 1 + 1, 0, none⟩ = some (.int .i64 x3) ∧ w'.cell? ⟨w.heap.size + 1 + 1, 1, none⟩ = some (.int .i64 y3) ∧ w'.cell? ⟨w.heap.size + 1 + 1, 2, none⟩ = some (.slice a3 n3 c3) ∧ w'.cell? ⟨w.heap.size + 1 + 1 + 1, 0, none⟩ = some (.slice none 0 0) ∧ w'.cell? ⟨w.heap.size + 1 + 1 + 1 + 1, 0, none⟩ = some (.slice A K C)) ∧ BxS wc.heap.size g w') (fhF [fun g x wv => (x 0) = .pointer (some ⟨w.heap.size + 1 + 1 + 1 + 1, 0, none⟩), fun g x wv => (x 1) = .slice A K C, fun g x wv => (x 2) = .agg #[.int .i64 x1, .int .i64 y1, .slice a1 n1 c1], fun g x wv => (x 3) = .int .i64 3, fun g x wv => ∃ (g : HPathPart) (lo hi : Nat), (x 4) = .agg #[.int .i64 g.kind, .int .i64 g.ts, .int .i64 g.beta, .slice g.a g.n g.c] ∧ WPathPart.kid wv lo hi g (mpEl x1 y1 z1 n1 3 0) ∧ wc.heap.size ≤ lo ∧ lo ≤ hi ∧ hi ≤ wv.heap.size, fun g x wv => ∃ (g : HPathPart) (lo hi NB : Nat), (x 5) = .slice (some ⟨NB, 0, none⟩) 1 1 ∧ HasR 4 HPathPart.cell wv wv.heap.size (some ⟨NB, 0, none⟩) 1 [g] ∧ WPathPart.kid wv lo hi g (mpEl x1 y1 z1 n1 3 0) ∧ wc.heap.size ≤ lo ∧ lo ≤ hi ∧ hi ≤ wv.heap.size]) BxX (fun _ _ => False) (spL [[0], [1], [2], [3], [4], [5]]) 9 6 (by kernel_rfl) (by kernel_rfl) (by kernel_rfl) (by decide) (by decide) (by kernel_rfl) (fun h => absurd h (by decide)) (fhM_mono ⟨fun g g' v w w' h x => h, fun g g' v w w' h x => h, fun g g' v w w' h x => h, fun g g' v w w' h x => h, fun g g' v w w' h x => (by obtain ⟨q, lo, hi, e, k, d1, d2, d3⟩ := h; exact ⟨q, lo, hi, e, WPathPart.kid_mk k x.far d3 (.inr (.inr (Nat.le_refl _))), d1, d2, Nat.le_trans d3 x.far.size⟩), fun g g' v w w' h x => (by obtain ⟨q, lo, hi, NB, e, hr, k, d1, d2, d3⟩ := h; exact ⟨q, lo, hi, NB, e, (hr.mk x.far (Nat.le_refl _) (.inr (Nat.le_refl _))).mono x.far.size, WPathPart.kid_mk k x.far d3 (.inr (.inr (Nat.le_refl _))), d1, d2, Nat.le_trans d3 x.far.size⟩), trivial⟩) ⟨⟨Mk.drew1 _, k0, k1, k2, l0, l1, l2, j0, j1, j2, r0, b0⟩, BxS.none_ _ _⟩ ?_
          change WkH _ _ _ _ _ _ _ 9 6 6 0 _
          refine WkH.value (m := 5) (k := 0) (by decide) rfl rfl (of_decide_eq_true (by rfl)) rfl (fun g wv hS hF => ?_) (fun v0 => ?_)
          · obtain ⟨⟨s0, s1, s2, s3, s4, s5, s6, s7, s8, s9, s10, s11⟩, hB2⟩ := hS
            exact ⟨.pointer (some ⟨w.heap.size + 1 + 1 + 1 + 1, 0, none⟩), wv, g, (by go_simp; try with_reducible rfl), ⟨⟨s0, s1, s2, s3, s4, s5, s6, s7, s8, s9, s10, s11⟩, hB2⟩, BxX.same (Mk.refl _ _ _), rfl⟩
          try simp only [Act.put, List.getElem_toArray, List.getElem_cons_zero, List.setIfInBounds_toArray, List.set_cons_zero, List.set_cons_succ]
          refine WkH.value (m := 4) (k := 1) (by decide) rfl rfl (of_decide_eq_true (by rfl)) rfl (fun g wv hS hF => ?_) (fun v1 => ?_)
          · obtain ⟨⟨s0, s1, s2, s3, s4, s5, s6, s7, s8, s9, s10, s11⟩, hB2⟩ := hS
            have f0 : v0 = .pointer (some ⟨w.heap.size + 1 + 1 + 1 + 1, 0, none⟩) := hF 0 (by rfl)
            obtain rfl := f0
            exact ⟨.slice A K C, wv, g, (by go_simp; try with_reducible rfl), ⟨⟨s0, s1, s2, s3, s4, s5, s6, s7, s8, s9, s10, s11⟩, hB2⟩, BxX.same (Mk.refl _ _ _), rfl⟩
          try simp only [Act.put, List.getElem_toArray, List.getElem_cons_succ, List.getElem_cons_zero, List.setIfInBounds_toArray, List.set_cons_zero, List.set_cons_succ]
          refine WkH.value (m := 3) (k := 2) (by decide) rfl rfl (of_decide_eq_true (by rfl)) rfl (fun g wv hS hF => ?_) (fun v2 => ?_)
          · obtain ⟨⟨s0, s1, s2, s3, s4, s5, s6, s7, s8, s9, s10, s11⟩, hB2⟩ := hS
            exact ⟨.agg #[.int .i64 x1, .int .i64 y1, .slice a1 n1 c1], wv, g, (by go_simp; try with_reducible rfl), ⟨⟨s0, s1, s2, s3, s4, s5, s6, s7, s8, s9, s10, s11⟩, hB2⟩, BxX.same (Mk.refl _ _ _), rfl⟩
          try simp only [Act.put, List.getElem_toArray, List.getElem_cons_succ, List.getElem_cons_zero, List.setIfInBounds_toArray, List.set_cons_zero, List.set_cons_succ]
          refine WkH.value (m := 2) (k := 3) (by decide) rfl rfl (of_decide_eq_true (by rfl)) rfl (fun g wv hS hF => ?_) (fun v3 => ?_)
          · obtain ⟨⟨s0, s1, s2, s3, s4, s5, s6, s7, s8, s9, s10, s11⟩, hB2⟩ := hS
            exact ⟨.int .i64 3, wv, g, (by go_simp; try with_reducible rfl), ⟨⟨s0, s1, s2, s3, s4, s5, s6, s7, s8, s9, s10, s11⟩, hB2⟩, BxX.same (Mk.refl _ _ _), rfl⟩
          try simp only [Act.put, List.getElem_toArray, List.getElem_cons_succ, List.getElem_cons_zero, List.setIfInBounds_toArray, List.set_cons_zero, List.set_cons_succ]
          refine WkH.call (m := 1) (k := 4) (by decide) rfl rfl (of_decide_eq_true (by rfl)) rfl (fun g wv hS hF => ?_) (fun v4 => ?_)
          · obtain ⟨⟨s0, s1, s2, s3, s4, s5, s6, s7, s8, s9, s10, s11⟩, hB2⟩ := hS
            have f2 : v2 = .agg #[.int .i64 x1, .int .i64 y1, .slice a1 n1 c1] := hF 2 (by rfl)
            obtain rfl := f2
            have f3 : v3 = .int .i64 3 := hF 3 (by rfl)
            obtain rfl := f3
            refine ⟨_, _, (by go_simp; first | done | exact ⟨rfl, rfl⟩ | with_reducible rfl), ?_⟩
            refine ((specMkP x1 y1 a1 n1 c1 B1 z1 3 0 wv (h1.mk (hMW.trans s0) hB1 (.inr (Nat.le_refl _))) (Nat.le_trans hB1 ((hMW.trans s0)).size) hn1 hc1 hk1)).mono ?_
            rintro e w' ⟨A, N, C, rfl, hcc, ow, mm⟩
            exact ⟨_, g, rfl, ⟨⟨s0.trans mm, mm.cellAt s1, mm.cellAt s2, mm.cellAt s3, mm.cellAt s4, mm.cellAt s5, mm.cellAt s6, mm.cellAt s7, mm.cellAt s8, mm.cellAt s9, mm.cellAt s10, mm.cellAt s11⟩, hB2.mk0 mm⟩, BxX.same mm, ⟨⟨_, _, _, A, N, C⟩, wv.heap.size, w'.heap.size, rfl, ⟨rfl, rfl, rfl, ow, hcc.2.1, hcc.2.2, hcc.1⟩, s0.size, mm.size, Nat.le_refl _⟩⟩
          try simp only [Act.put, List.getElem_toArray, List.getElem_cons_succ, List.getElem_cons_zero, List.setIfInBounds_toArray, List.set_cons_zero, List.set_cons_succ]
          refine WkH.value (m := 0) (k := 5) (by decide) rfl rfl (of_decide_eq_true (by rfl)) rfl (fun g wv hS hF => ?_) (fun v5 => ?_)
          · obtain ⟨⟨s0, s1, s2, s3, s4, s5, s6, s7, s8, s9, s10, s11⟩, hB2⟩ := hS
            have f4 : ∃ (g : HPathPart) (lo hi : Nat), v4 = .agg #[.int .i64 g.kind, .int .i64 g.ts, .int .i64 g.beta, .slice g.a g.n g.c] ∧ WPathPart.kid wv lo hi g (mpEl x1 y1 z1 n1 3 0) ∧ wc.heap.size ≤ lo ∧ lo ≤ hi ∧ hi ≤ wv.heap.size := hF 4 (by rfl)
            obtain ⟨q, lo, hi, rfl, k, d1, d2, d3⟩ := f4
            have mm := Mk.alloc wv (Obj.cells #[.int .i64 q.kind, .int .i64 q.ts, .int .i64 q.beta, .slice q.a q.n q.c] 35)
            exact ⟨.slice (some ⟨wv.heap.size, 0, none⟩) 1 1, (wv.alloc (Obj.cells #[.int .i64 q.kind, .int .i64 q.ts, .int .i64 q.beta, .slice q.a q.n q.c] 35)), g, (by go_simp; try with_reducible rfl), ⟨⟨s0.trans mm, mm.cellAt s1, mm.cellAt s2, mm.cellAt s3, mm.cellAt s4, mm.cellAt s5, mm.cellAt s6, mm.cellAt s7, mm.cellAt s8, mm.cellAt s9, mm.cellAt s10, mm.cellAt s11⟩, hB2.mk0 mm⟩, BxX.same mm, ⟨q, lo, hi, wv.heap.size, rfl, hasR_new (cell := HPathPart.cell) (nc := 4) (by decide) wv 35 q #[.int .i64 q.kind, .int .i64 q.ts, .int .i64 q.beta, .slice q.a q.n q.c] (fun j hj => by match j, hj with | 0, _ => rfl | 1, _ => rfl | 2, _ => rfl | 3, _ => rfl), WPathPart.kid_mk k mm d3 (.inr (.inr (Nat.le_refl _))), d1, d2, Nat.le_trans d3 mm.size⟩⟩
          try simp only [Act.put, List.getElem_toArray, List.getElem_cons_succ, List.getElem_cons_zero, List.setIfInBounds_toArray, List.set_cons_zero, List.set_cons_succ]
          refine WkH.done fun gE wE hE hF => ?_
          clear k0 k1 k2 l0 l1 l2 j0 j1 j2 r0 b0
          obtain ⟨⟨mE, k0, k1, k2, l0, l1, l2, j0, j1, j2, r0, b0⟩, hBE⟩ := hE
          change wpAny _ _ _ _ 3 _ _ _
          have f5 : ∃ (g : HPathPart) (lo hi NB : Nat), v5 = .slice (some ⟨NB, 0, none⟩) 1 1 ∧ HasR 4 HPathPart.cell wE wE.heap.size (some ⟨NB, 0, none⟩) 1 [g] ∧ WPathPart.kid wE lo hi g (mpEl x1 y1 z1 n1 3 0) ∧ wc.heap.size ≤ lo ∧ lo ≤ hi ∧ hi ≤ wE.heap.size := hF 5 (by decide)
          obtain ⟨gx1, lox1, hix1, NB, rfl, hr, hxx1, d1x1, d2x1, d3x1⟩ := f5
          have f1 : v1 = .slice A K C := hF 1 (by decide)
          obtain rfl := f1
          clear hF hBE
          have hownx1 := own_keptR hown mE
          have hKx1 := hK.out.mk mE (Nat.le_refl _) (.inr (.inr (Nat.le_refl _)))
          have fbx1 : ∀ q, wE.frozen? ⟨w.heap.size + 1 + 1 + 1 + 1, q, none⟩ = false := fun q => (mE.frozen (b := w.heap.size + 1 + 1 + 1 + 1) (o := q) (by omega) (.inr (Nat.zero_le _))).trans (fb q)
          have fRx1 : ∀ q, wE.frozen? ⟨w.heap.size + 1 + 1 + 1, q, none⟩ = false := fun q => (mE.frozen (b := w.heap.size + 1 + 1 + 1) (o := q) (by omega) (.inr (Nat.zero_le _))).trans (fR q)
          have hlox1 : w.heap.size + 1 + 1 + 1 + 1 + 1 ≤ wE.heap.size := Nat.le_trans hsz mE.size
          have Mx1 := hM.trans mE
          have hK2x1 := hKx1.snoc (ownsRow_lenR (by decide) hownx1) (by first | rfl | decide | exact hRl) (by omega) d2x1 hxx1 (by omega) (fun q hq => .inl (by have := (hown.lt q hq).2; omega))
          clear hKx1 hxx1
          refine wpAny_ready (rs := [6]) (by kernel_rfl) (by simp) ?_
          refine (AllReady.cons rfl (fun KK hKK => ?_) AllReady.nil)
          refine step_appR (nc := 4) (cell := HPathPart.cell) (by decide) onePathPart (by rfl) (.tmp 29) (.tmp 33) 40 (by rfl) (w.heap.size + 1 + 1 + 1 + 1 + 1) 35 i0 _ Try.underlying40 hi0 hz0 rfl hz1 (by rw [hz2]; decide) _ gs K (by rfl) hownx1 (some ⟨NB, 0, none⟩) 1 1 [gx1] (by rfl) (fun h => by cases h) hr (by omega) hlox1 ?_
          intro vvx1 ux1 hown4x1 hgr hat
          refine hKK _ _ ?_
          clear hKK KK
          try simp only [Act.put, List.getElem_toArray, List.getElem_cons_succ, List.getElem_cons_zero, List.setIfInBounds_toArray, List.set_cons_zero, List.set_cons_succ]
          have hne : ∀ (B : Nat), B ≤ w.heap.size + 1 + 1 + 1 + 1 → ∀ q, (Value.slice A K C).ownBlock = some q → q ≠ B := fun B hB q e => (by have := (hownx1.lt q e).1; omega)
          have bk0 := World.block_lt_of_cell? _ _ k0
          have bk3 := World.block_lt_of_cell? _ _ l0
          have bk6 := World.block_lt_of_cell? _ _ j0
          have bk9 := World.block_lt_of_cell? _ _ r0
          have bk10 := World.block_lt_of_cell? _ _ b0
          replace k0 := grown_cell k0 hgr (hne _ (by omega))
          replace k1 := grown_cell k1 hgr (hne _ (by omega))
          replace k2 := grown_cell k2 hgr (hne _ (by omega))
          replace l0 := grown_cell l0 hgr (hne _ (by omega))
          replace l1 := grown_cell l1 hgr (hne _ (by omega))
          replace l2 := grown_cell l2 hgr (hne _ (by omega))
          replace j0 := grown_cell j0 hgr (hne _ (by omega))
          replace j1 := grown_cell j1 hgr (hne _ (by omega))
          replace j2 := grown_cell j2 hgr (hne _ (by omega))
          replace r0 := grown_cell r0 hgr (hne _ (by omega))
          replace b0 := grown_cell b0 hgr (hne _ (by omega))
          replace fbx1 := fun q => grown_frz (fbx1 q) (show w.heap.size + 1 + 1 + 1 + 1 < wE.heap.size by omega) hgr (hne _ (Nat.le_refl _))
          replace fRx1 := fun q => grown_frz (fRx1 q) (show w.heap.size + 1 + 1 + 1 < wE.heap.size by omega) hgr (hne _ (by omega))
          have hK4x1 := hK2x1.grow hgr d3x1 hat
          replace Mx1 := Mx1.appR hgr (fun q hq => by have := (hownx1.lt q hq).1; omega)
          have zgx1 := hgr.size
          obtain ⟨Ax1, Cx1, rfl, hcax1, hcbx1⟩ := ownsRow_sliceR2 hown4x1
          clear hK2x1 hat hownx1 hr hgr
          refine wpAny_ready (rs := [7]) (by kernel_rfl) (by simp) ?_
          refine (AllReady.cons rfl (fun K hK => ?_) AllReady.nil)
          go_simp
          refine hK _ _ ?_
          clear hK K
          try simp only [Act.put, List.getElem_toArray, List.getElem_cons_succ, List.getElem_cons_zero, List.setIfInBounds_toArray, List.set_cons_zero, List.set_cons_succ]
          refine wpAny_ready (rs := [8]) (by kernel_rfl) (by simp) ?_
          refine (AllReady.cons rfl (fun K hK => ?_) AllReady.nil)
          go_simp
          refine hK _ _ ?_
          clear hK K
          try simp only [Act.put, List.getElem_toArray, List.getElem_cons_succ, List.getElem_cons_zero, List.setIfInBounds_toArray, List.set_cons_zero, List.set_cons_succ]
          replace k0 := cell_set k0 ⟨w.heap.size + 1 + 1 + 1 + 1, 0, none⟩ (.slice Ax1 (K + 1) Cx1) (.inl (show w.heap.size + 1 + 1 + 1 + 1 ≠ w.heap.size by omega))
          replace k1 := cell_set k1 ⟨w.heap.size + 1 + 1 + 1 + 1, 0, none⟩ (.slice Ax1 (K + 1) Cx1) (.inl (show w.heap.size + 1 + 1 + 1 + 1 ≠ w.heap.size by omega))
          replace k2 := cell_set k2 ⟨w.heap.size + 1 + 1 + 1 + 1, 0, none⟩ (.slice Ax1 (K + 1) Cx1) (.inl (show w.heap.size + 1 + 1 + 1 + 1 ≠ w.heap.size by omega))
          replace l0 := cell_set l0 ⟨w.heap.size + 1 + 1 + 1 + 1, 0, none⟩ (.slice Ax1 (K + 1) Cx1) (.inl (show w.heap.size + 1 + 1 + 1 + 1 ≠ w.heap.size + 1 by omega))
          replace l1 := cell_set l1 ⟨w.heap.size + 1 + 1 + 1 + 1, 0, none⟩ (.slice Ax1 (K + 1) Cx1) (.inl (show w.heap.size + 1 + 1 + 1 + 1 ≠ w.heap.size + 1 by omega))
          replace l2 := cell_set l2 ⟨w.heap.size + 1 + 1 + 1 + 1, 0, none⟩ (.slice Ax1 (K + 1) Cx1) (.inl (show w.heap.size + 1 + 1 + 1 + 1 ≠ w.heap.size + 1 by omega))
          replace j0 := cell_set j0 ⟨w.heap.size + 1 + 1 + 1 + 1, 0, none⟩ (.slice Ax1 (K + 1) Cx1) (.inl (show w.heap.size + 1 + 1 + 1 + 1 ≠ w.heap.size + 1 + 1 by omega))
          replace j1 := cell_set j1 ⟨w.heap.size + 1 + 1 + 1 + 1, 0, none⟩ (.slice Ax1 (K + 1) Cx1) (.inl (show w.heap.size + 1 + 1 + 1 + 1 ≠ w.heap.size + 1 + 1 by omega))
          replace j2 := cell_set j2 ⟨w.heap.size + 1 + 1 + 1 + 1, 0, none⟩ (.slice Ax1 (K + 1) Cx1) (.inl (show w.heap.size + 1 + 1 + 1 + 1 ≠ w.heap.size + 1 + 1 by omega))
          replace r0 := cell_set r0 ⟨w.heap.size + 1 + 1 + 1 + 1, 0, none⟩ (.slice Ax1 (K + 1) Cx1) (.inl (show w.heap.size + 1 + 1 + 1 + 1 ≠ w.heap.size + 1 + 1 + 1 by omega))
          have bx1 := World.cell?_setCell_same _ _ (.slice Ax1 (K + 1) Cx1) b0
          replace fbx1 := fun q => frozen_set (fbx1 q) ⟨w.heap.size + 1 + 1 + 1 + 1, 0, none⟩ (.slice Ax1 (K + 1) Cx1)
          replace fRx1 := fun q => frozen_set (fRx1 q) ⟨w.heap.size + 1 + 1 + 1 + 1, 0, none⟩ (.slice Ax1 (K + 1) Cx1)
          replace hown4x1 := own_put hown4x1 ⟨w.heap.size + 1 + 1 + 1 + 1, 0, none⟩ (.slice Ax1 (K + 1) Cx1) (Nat.lt_succ_self _)
          have zSx1 : (ux1.setCell ⟨w.heap.size + 1 + 1 + 1 + 1, 0, none⟩ (.slice Ax1 (K + 1) Cx1)).heap.size = ux1.heap.size := by simp only [World.size_set]
          have hKFx1 := Lib.hid ((hK4x1.set ⟨w.heap.size + 1 + 1 + 1 + 1, 0, none⟩ (.slice Ax1 (K + 1) Cx1) (.inr (.inl (Nat.lt_succ_self _)))).wide (Nat.le_refl _) (show hix1 ≤ (ux1.setCell ⟨w.heap.size + 1 + 1 + 1 + 1, 0, none⟩ (.slice Ax1 (K + 1) Cx1)).heap.size by omega))
          clear hK4x1
          replace Mx1 := Mx1.put ⟨w.heap.size + 1 + 1 + 1 + 1, 0, none⟩ (.slice Ax1 (K + 1) Cx1) (show wb.heap.size ≤ w.heap.size + 1 + 1 + 1 + 1 by omega)
          have szx1 : w.heap.size + 1 + 1 + 1 + 1 + 1 ≤ (ux1.setCell ⟨w.heap.size + 1 + 1 + 1 + 1, 0, none⟩ (.slice Ax1 (K + 1) Cx1)).heap.size := by omega
          generalize (ux1.setCell ⟨w.heap.size + 1 + 1 + 1 + 1, 0, none⟩ (.slice Ax1 (K + 1) Cx1)) = wx1 at *
          refine wpAny_doneN (by kernel_rfl) ?_
          refine ‹∀ (a : Act) (w : World), _ → _› _ _ ?_
          go_wp2_with fail
          go_meet
          case rel => exact ⟨Ax1, K + 1, Cx1, gs ++ [gx1], ⟨bx1, fbx1⟩, hown4x1, by rw [HE.out]; exact hKFx1, ⟨hcax1, hcbx1⟩, Mx1, szx1, by omega, by rw [HE.out, List.length_append]; exact congrArg (· + 1) hRl⟩
    case rest =>
      clear b0 fb hown hK hcc hM hsz hKb hRl hMW hlow fR k0 k1 k2 l0 l1 l2 j0 j1 j2 r0
      have hrel := hcut
      clear hcut
      obtain ⟨A, K, C, gs, ⟨b0, fb⟩, hown, hK, hcc, hM, hsz, hKb, hRl⟩ := hrel
      have k0 := hM.cellAt K0.out
      have k1 := hM.cellAt K1.out
      have k2 := hM.cellAt K2.out
      have l0 := hM.cellAt L0.out
      have l1 := hM.cellAt L1.out
      have l2 := hM.cellAt L2.out
      have j0 := hM.cellAt J0.out
      have j1 := hM.cellAt J1.out
      have j2 := hM.cellAt J2.out
      have r0 := hM.cellAt R0.out
      have fR : ∀ q, wc.frozen? ⟨w.heap.size + 1 + 1 + 1, q, none⟩ = false := fun q => (hM.frozen (b := w.heap.size + 1 + 1 + 1) (o := q) (by omega) (.inr (Nat.zero_le _))).trans (FRB.out q)
      have hMW := M0.trans hM
      have hlow := hM.size
      go_upto_if 39 with fail
      go_cut [] from 39 to 46 (fun wq => ∃ (A : Option Addr) (K C : Nat) (gs : List HPathPart), (wq.cell? ⟨w.heap.size + 1 + 1 + 1 + 1, 0, none⟩ = some (.slice A K C) ∧ ∀ q, wq.frozen? ⟨w.heap.size + 1 + 1 + 1 + 1, q, none⟩ = false) ∧ wq.ownsRow (w.heap.size + 1 + 1 + 1 + 1 + 1) 35 4 (.slice A K C) K (rowC 4 HPathPart.cell gs) ∧ Hid (Kids WPathPart wq (w.heap.size + 1 + 1 + 1 + 1 + 1) wq.heap.size (fun g => (Value.slice A K C).ownBlock = some g) K gs (addIf (decide (0 < n3)) (addIf (decide (0 < n1)) (addIf (decide (0 < n0)) ([] : List TPathPart) (mpEl x0 y0 z0 n0 1 0)) (mpEl x1 y1 z1 n1 (j3k bb) 0)) (mpEl x3 y3 z3 n3 4 0))) ∧ ((A = none → C = 0) ∧ (K ≤ C ∧ C ≤ 9223372036854775807)) ∧ Mk0 wb wq ∧ w.heap.size + 1 + 1 + 1 + 1 + 1 ≤ wq.heap.size ∧ K ≤ 3 ∧ (addIf (decide (0 < n3)) (addIf (decide (0 < n1)) (addIf (decide (0 < n0)) ([] : List TPathPart) (mpEl x0 y0 z0 n0 1 0)) (mpEl x1 y1 z1 n1 (j3k bb) 0)) (mpEl x3 y3 z3 n3 4 0)).length = K)
      case first =>
        by_cases cz3 : n3 = 0
        · have e3 : decide (0 < n3) = false := by simp; omega
          have e3' : decide ((0 : Int) < (n3 : Int)) = false := by simp; omega
          have HE := Lib.hid (show (addIf (decide (0 < n3)) (addIf (decide (0 < n1)) (addIf (decide (0 < n0)) ([] : List TPathPart) (mpEl x0 y0 z0 n0 1 0)) (mpEl x1 y1 z1 n1 (j3k bb) 0)) (mpEl x3 y3 z3 n3 4 0)) = (addIf (decide (0 < n1)) (addIf (decide (0 < n0)) ([] : List TPathPart) (mpEl x0 y0 z0 n0 1 0)) (mpEl x1 y1 z1 n1 (j3k bb) 0)) by rw [e3]; rfl)
          go_wp2_with fail
          go_meet
          case rel => exact ⟨A, K, C, gs, ⟨b0, fb⟩, hown, by rw [HE.out]; exact hK, hcc, hM, hsz, by omega, by rw [HE.out]; exact hRl⟩
        · have e3 : decide (0 < n3) = true := by simp; omega
          have e3' : decide ((0 : Int) < (n3 : Int)) = true := by simp; omega
          have HE := Lib.hid (show (addIf (decide (0 < n3)) (addIf (decide (0 < n1)) (addIf (decide (0 < n0)) ([] : List TPathPart) (mpEl x0 y0 z0 n0 1 0)) (mpEl x1 y1 z1 n1 (j3k bb) 0)) (mpEl x3 y3 z3 n3 4 0)) = (addIf (decide (0 < n1)) (addIf (decide (0 < n0)) ([] : List TPathPart) (mpEl x0 y0 z0 n0 1 0)) (mpEl x1 y1 z1 n1 (j3k bb) 0)) ++ [(mpEl x3 y3 z3 n3 4 0)] by rw [e3]; rfl)
          go_wp2_with fail
          refine wp_region_fh (fun (g : Bxs) w' => (Mk0 wc w' ∧ w'.cell? ⟨w.heap.size, 0, none⟩ = some (.int .i64 x0) ∧ w'.cell? ⟨w.heap.size, 1, none⟩ = some (.int .i64 y0) ∧ w'.cell? ⟨w.heap.size, 2, none⟩ = some (.slice a0 n0 c0) ∧ w'.cell? ⟨w.heap.size + 1, 0, none⟩ = some (.int .i64 x1) ∧ w'.cell? ⟨w.heap.size + 1, 1, none⟩ = some (.int .i64 y1) ∧ w'.cell? ⟨w.heap.size + 1, 2, none⟩ = some (.slice a1 n1 c1) ∧ w'.cell? ⟨w.heap.size + 1 + 1, 0, none⟩ = some (.int .i64 x3) ∧ w'.cell? ⟨w.heap.size + 1 + 1, 1, none⟩ = some (.int .i64 y3) ∧ w'.cell? ⟨w.heap.size + 1 + 1, 2, none⟩ = some (.slice a3 n3 c3) ∧ w'.cell? ⟨w.heap.size + 1 + 1 + 1, 0, none⟩ = some (.slice none 0 0) ∧ w'.cell? ⟨w.heap.size + 1 + 1 + 1 + 1, 0, none⟩ = some (.slice A K C)) ∧ BxS wc.heap.size g w') (fhF [fun g x wv => (x 0) = .pointer (some ⟨w.heap.size + 1 + 1 + 1 + 1, 0, none⟩), fun g x wv => (x 1) = .slice A K C, fun g x wv => (x 2) = .agg #[.int .i64 x3, .int .i64 y3, .slice a3 n3 c3], fun g x wv => ∃ (g : HPathPart) (lo hi : Nat), (x 3) = .agg #[.int .i64 g.kind, .int .i64 g.ts, .int .i64 g.beta, .slice g.a g.n g.c] ∧ WPathPart.kid wv lo hi g (mpEl x3 y3 z3 n3 4 0) ∧ wc.heap.size ≤ lo ∧ lo ≤ hi ∧ hi ≤ wv.heap.size, fun g x wv => ∃ (g : HPathPart) (lo hi NB : Nat), (x 4) = .slice (some ⟨NB, 0, none⟩) 1 1 ∧ HasR 4 HPathPart.cell wv wv.heap.size (some ⟨NB, 0, none⟩) 1 [g] ∧ WPathPart.kid wv lo hi g (mpEl x3 y3 z3 n3 4 0) ∧ wc.heap.size ≤ lo ∧ lo ≤ hi ∧ hi ≤ wv.heap.size]) BxX (fun _ _ => False) (spL [[0], [1], [2], [3], [4]]) 8 5 (by kernel_rfl) (by kernel_rfl) (by kernel_rfl) (by decide) (by decide) (by kernel_rfl) (fun h => absurd h (by decide)) (fhM_mono ⟨fun g g' v w w' h x => h, fun g g' v w w' h x => h, fun g g' v w w' h x => h, fun g g' v w w' h x => (by obtain ⟨q, lo, hi, e, k, d1, d2, d3⟩ := h; exact ⟨q, lo, hi, e, WPathPart.kid_mk k x.far d3 (.inr (.inr (Nat.le_refl _))), d1, d2, Nat.le_trans d3 x.far.size⟩), fun g g' v w w' h x => (by obtain ⟨q, lo, hi, NB, e, hr, k, d1, d2, d3⟩ := h; exact ⟨q, lo, hi, NB, e, (hr.mk x.far (Nat.le_refl _) (.inr (Nat.le_refl _))).mono x.far.size, WPathPart.kid_mk k x.far d3 (.inr (.inr (Nat.le_refl _))), d1, d2, Nat.le_trans d3 x.far.size⟩), trivial⟩) ⟨⟨Mk.drew1 _, k0, k1, k2, l0, l1, l2, j0, j1, j2, r0, b0⟩, BxS.none_ _ _⟩ ?_
          change WkH _ _ _ _ _ _ _ 8 5 5 0 _
          refine WkH.value (m := 4) (k := 0) (by decide) rfl rfl (of_decide_eq_true (by rfl)) rfl (fun g wv hS hF => ?_) (fun v0 => ?_)
          · obtain ⟨⟨s0, s1, s2, s3, s4, s5, s6, s7, s8, s9, s10, s11⟩, hB2⟩ := hS
            exact ⟨.pointer (some ⟨w.heap.size + 1 + 1 + 1 + 1, 0, none⟩), wv, g, (by go_simp; try with_reducible rfl), ⟨⟨s0, s1, s2, s3, s4, s5, s6, s7, s8, s9, s10, s11⟩, hB2⟩, BxX.same (Mk.refl _ _ _), rfl⟩
          try simp only [Act.put, List.getElem_toArray, List.getElem_cons_zero, List.setIfInBounds_toArray, List.set_cons_zero, List.set_cons_succ]
          refine WkH.value (m := 3) (k := 1) (by decide) rfl rfl (of_decide_eq_true (by rfl)) rfl (fun g wv hS hF => ?_) (fun v1 => ?_)
          · obtain ⟨⟨s0, s1, s2, s3, s4, s5, s6, s7, s8, s9, s10, s11⟩, hB2⟩ := hS
            have f0 : v0 = .pointer (some ⟨w.heap.size + 1 + 1 + 1 + 1, 0, none⟩) := hF 0 (by rfl)
            obtain rfl := f0
            exact ⟨.slice A K C, wv, g, (by go_simp; try with_reducible rfl), ⟨⟨s0, s1, s2, s3, s4, s5, s6, s7, s8, s9, s10, s11⟩, hB2⟩, BxX.same (Mk.refl _ _ _), rfl⟩
          try simp only [Act.put, List.getElem_toArray, List.getElem_cons_succ, List.getElem_cons_zero, List.setIfInBounds_toArray, List.set_cons_zero, List.set_cons_succ]
          refine WkH.value (m := 2) (k := 2) (by decide) rfl rfl (of_decide_eq_true (by rfl)) rfl (fun g wv hS hF => ?_) (fun v2 => ?_)
          · obtain ⟨⟨s0, s1, s2, s3, s4, s5, s6, s7, s8, s9, s10, s11⟩, hB2⟩ := hS
            exact ⟨.agg #[.int .i64 x3, .int .i64 y3, .slice a3 n3 c3], wv, g, (by go_simp; try with_reducible rfl), ⟨⟨s0, s1, s2, s3, s4, s5, s6, s7, s8, s9, s10, s11⟩, hB2⟩, BxX.same (Mk.refl _ _ _), rfl⟩
          try simp only [Act.put, List.getElem_toArray, List.getElem_cons_succ, List.getElem_cons_zero, List.setIfInBounds_toArray, List.set_cons_zero, List.set_cons_succ]
          refine WkH.call (m := 1) (k := 3) (by decide) rfl rfl (of_decide_eq_true (by rfl)) rfl (fun g wv hS hF => ?_) (fun v3 => ?_)
          · obtain ⟨⟨s0, s1, s2, s3, s4, s5, s6, s7, s8, s9, s10, s11⟩, hB2⟩ := hS
            have f2 : v2 = .agg #[.int .i64 x3, .int .i64 y3, .slice a3 n3 c3] := hF 2 (by rfl)
            obtain rfl := f2
            refine ⟨_, _, (by go_simp; first | done | exact ⟨rfl, rfl⟩ | with_reducible rfl), ?_⟩
            refine ((specMkP x3 y3 a3 n3 c3 B3 z3 4 0 wv (h3.mk (hMW.trans s0) hB3 (.inr (Nat.le_refl _))) (Nat.le_trans hB3 ((hMW.trans s0)).size) hn3 hc3 hk3)).mono ?_
            rintro e w' ⟨A, N, C, rfl, hcc, ow, mm⟩
            exact ⟨_, g, rfl, ⟨⟨s0.trans mm, mm.cellAt s1, mm.cellAt s2, mm.cellAt s3, mm.cellAt s4, mm.cellAt s5, mm.cellAt s6, mm.cellAt s7, mm.cellAt s8, mm.cellAt s9, mm.cellAt s10, mm.cellAt s11⟩, hB2.mk0 mm⟩, BxX.same mm, ⟨⟨_, _, _, A, N, C⟩, wv.heap.size, w'.heap.size, rfl, ⟨rfl, rfl, rfl, ow, hcc.2.1, hcc.2.2, hcc.1⟩, s0.size, mm.size, Nat.le_refl _⟩⟩
          try simp only [Act.put, List.getElem_toArray, List.getElem_cons_succ, List.getElem_cons_zero, List.setIfInBounds_toArray, List.set_cons_zero, List.set_cons_succ]
          refine WkH.value (m := 0) (k := 4) (by decide) rfl rfl (of_decide_eq_true (by rfl)) rfl (fun g wv hS hF => ?_) (fun v4 => ?_)
          · obtain ⟨⟨s0, s1, s2, s3, s4, s5, s6, s7, s8, s9, s10, s11⟩, hB2⟩ := hS
            have f3 : ∃ (g : HPathPart) (lo hi : Nat), v3 = .agg #[.int .i64 g.kind, .int .i64 g.ts, .int .i64 g.beta, .slice g.a g.n g.c] ∧ WPathPart.kid wv lo hi g (mpEl x3 y3 z3 n3 4 0) ∧ wc.heap.size ≤ lo ∧ lo ≤ hi ∧ hi ≤ wv.heap.size := hF 3 (by rfl)
            obtain ⟨q, lo, hi, rfl, k, d1, d2, d3⟩ := f3
            have mm := Mk.alloc wv (Obj.cells #[.int .i64 q.kind, .int .i64 q.ts, .int .i64 q.beta, .slice q.a q.n q.c] 35)
            exact ⟨.slice (some ⟨wv.heap.size, 0, none⟩) 1 1, (wv.alloc (Obj.cells #[.int .i64 q.kind, .int .i64 q.ts, .int .i64 q.beta, .slice q.a q.n q.c] 35)), g, (by go_simp; try with_reducible rfl), ⟨⟨s0.trans mm, mm.cellAt s1, mm.cellAt s2, mm.cellAt s3, mm.cellAt s4, mm.cellAt s5, mm.cellAt s6, mm.cellAt s7, mm.cellAt s8, mm.cellAt s9, mm.cellAt s10, mm.cellAt s11⟩, hB2.mk0 mm⟩, BxX.same mm, ⟨q, lo, hi, wv.heap.size, rfl, hasR_new (cell := HPathPart.cell) (nc := 4) (by decide) wv 35 q #[.int .i64 q.kind, .int .i64 q.ts, .int .i64 q.beta, .slice q.a q.n q.c] (fun j hj => by match j, hj with | 0, _ => rfl | 1, _ => rfl | 2, _ => rfl | 3, _ => rfl), WPathPart.kid_mk k mm d3 (.inr (.inr (Nat.le_refl _))), d1, d2, Nat.le_trans d3 mm.size⟩⟩
          try simp only [Act.put, List.getElem_toArray, List.getElem_cons_succ, List.getElem_cons_zero, List.setIfInBounds_toArray, List.set_cons_zero, List.set_cons_succ]
          refine WkH.done fun gE wE hE hF => ?_
          clear k0 k1 k2 l0 l1 l2 j0 j1 j2 r0 b0
          obtain ⟨⟨mE, k0, k1, k2, l0, l1, l2, j0, j1, j2, r0, b0⟩, hBE⟩ := hE
          change wpAny _ _ _ _ 3 _ _ _
          have f4 : ∃ (g : HPathPart) (lo hi NB : Nat), v4 = .slice (some ⟨NB, 0, none⟩) 1 1 ∧ HasR 4 HPathPart.cell wE wE.heap.size (some ⟨NB, 0, none⟩) 1 [g] ∧ WPathPart.kid wE lo hi g (mpEl x3 y3 z3 n3 4 0) ∧ wc.heap.size ≤ lo ∧ lo ≤ hi ∧ hi ≤ wE.heap.size := hF 4 (by decide)
          obtain ⟨gx3, lox3, hix3, NB, rfl, hr, hxx3, d1x3, d2x3, d3x3⟩ := f4
          have f1 : v1 = .slice A K C := hF 1 (by decide)
          obtain rfl := f1
          clear hF hBE
          have hownx3 := own_keptR hown mE
          have hKx3 := hK.out.mk mE (Nat.le_refl _) (.inr (.inr (Nat.le_refl _)))
          have fbx3 : ∀ q, wE.frozen? ⟨w.heap.size + 1 + 1 + 1 + 1, q, none⟩ = false := fun q => (mE.frozen (b := w.heap.size + 1 + 1 + 1 + 1) (o := q) (by omega) (.inr (Nat.zero_le _))).trans (fb q)
          have fRx3 : ∀ q, wE.frozen? ⟨w.heap.size + 1 + 1 + 1, q, none⟩ = false := fun q => (mE.frozen (b := w.heap.size + 1 + 1 + 1) (o := q) (by omega) (.inr (Nat.zero_le _))).trans (fR q)
          have hlox3 : w.heap.size + 1 + 1 + 1 + 1 + 1 ≤ wE.heap.size := Nat.le_trans hsz mE.size
          have Mx3 := hM.trans mE
          have hK2x3 := hKx3.snoc (ownsRow_lenR (by decide) hownx3) (by first | rfl | decide | exact hRl) (by omega) d2x3 hxx3 (by omega) (fun q hq => .inl (by have := (hown.lt q hq).2; omega))
          clear hKx3 hxx3
          refine wpAny_ready (rs := [5]) (by kernel_rfl) (by simp) ?_
          refine (AllReady.cons rfl (fun KK hKK => ?_) AllReady.nil)
          refine step_appR (nc := 4) (cell := HPathPart.cell) (by decide) onePathPart (by rfl) (.tmp 41) (.tmp 44) 40 (by rfl) (w.heap.size + 1 + 1 + 1 + 1 + 1) 35 i0 _ Try.underlying40 hi0 hz0 rfl hz1 (by rw [hz2]; decide) _ gs K (by rfl) hownx3 (some ⟨NB, 0, none⟩) 1 1 [gx3] (by rfl) (fun h => by cases h) hr (by omega) hlox3 ?_
          intro vvx3 ux3 hown4x3 hgr hat
          refine hKK _ _ ?_
          clear hKK KK
          try simp only [Act.put, List.getElem_toArray, List.getElem_cons_succ, List.getElem_cons_zero, List.setIfInBounds_toArray, List.set_cons_zero, List.set_cons_succ]
          have hne : ∀ (B : Nat), B ≤ w.heap.size + 1 + 1 + 1 + 1 → ∀ q, (Value.slice A K C).ownBlock = some q → q ≠ B := fun B hB q e => (by have := (hownx3.lt q e).1; omega)
          have bk0 := World.block_lt_of_cell? _ _ k0
          have bk3 := World.block_lt_of_cell? _ _ l0
          have bk6 := World.block_lt_of_cell? _ _ j0
          have bk9 := World.block_lt_of_cell? _ _ r0
          have bk10 := World.block_lt_of_cell? _ _ b0
          replace k0 := grown_cell k0 hgr (hne _ (by omega))
          replace k1 := grown_cell k1 hgr (hne _ (by omega))
          replace k2 := grown_cell k2 hgr (hne _ (by omega))
          replace l0 := grown_cell l0 hgr (hne _ (by omega))
          replace l1 := grown_cell l1 hgr (hne _ (by omega))
          replace l2 := grown_cell l2 hgr (hne _ (by omega))
          replace j0 := grown_cell j0 hgr (hne _ (by omega))
          replace j1 := grown_cell j1 hgr (hne _ (by omega))
          replace j2 := grown_cell j2 hgr (hne _ (by omega))
          replace r0 := grown_cell r0 hgr (hne _ (by omega))
          replace b0 := grown_cell b0 hgr (hne _ (by omega))
          replace fbx3 := fun q => grown_frz (fbx3 q) (show w.heap.size + 1 + 1 + 1 + 1 < wE.heap.size by omega) hgr (hne _ (Nat.le_refl _))
          replace fRx3 := fun q => grown_frz (fRx3 q) (show w.heap.size + 1 + 1 + 1 < wE.heap.size by omega) hgr (hne _ (by omega))
          have hK4x3 := hK2x3.grow hgr d3x3 hat
          replace Mx3 := Mx3.appR hgr (fun q hq => by have := (hownx3.lt q hq).1; omega)
          have zgx3 := hgr.size
          obtain ⟨Ax3, Cx3, rfl, hcax3, hcbx3⟩ := ownsRow_sliceR2 hown4x3
          clear hK2x3 hat hownx3 hr hgr
          refine wpAny_ready (rs := [6]) (by kernel_rfl) (by simp) ?_
          refine (AllReady.cons rfl (fun K hK => ?_) AllReady.nil)
          go_simp
          refine hK _ _ ?_
          clear hK K
          try simp only [Act.put, List.getElem_toArray, List.getElem_cons_succ, List.getElem_cons_zero, List.setIfInBounds_toArray, List.set_cons_zero, List.set_cons_succ]
          refine wpAny_ready (rs := [7]) (by kernel_rfl) (by simp) ?_
          refine (AllReady.cons rfl (fun K hK => ?_) AllReady.nil)
          go_simp
          refine hK _ _ ?_
          clear hK K
          try simp only [Act.put, List.getElem_toArray, List.getElem_cons_succ, List.getElem_cons_zero, List.setIfInBounds_toArray, List.set_cons_zero, List.set_cons_succ]
          replace k0 := cell_set k0 ⟨w.heap.size + 1 + 1 + 1 + 1, 0, none⟩ (.slice Ax3 (K + 1) Cx3) (.inl (show w.heap.size + 1 + 1 + 1 + 1 ≠ w.heap.size by omega))
          replace k1 := cell_set k1 ⟨w.heap.size + 1 + 1 + 1 + 1, 0, none⟩ (.slice Ax3 (K + 1) Cx3) (.inl (show w.heap.size + 1 + 1 + 1 + 1 ≠ w.heap.size by omega))
          replace k2 := cell_set k2 ⟨w.heap.size + 1 + 1 + 1 + 1, 0, none⟩ (.slice Ax3 (K + 1) Cx3) (.inl (show w.heap.size + 1 + 1 + 1 + 1 ≠ w.heap.size by omega))
          replace l0 := cell_set l0 ⟨w.heap.size + 1 + 1 + 1 + 1, 0, none⟩ (.slice Ax3 (K + 1) Cx3) (.inl (show w.heap.size + 1 + 1 + 1 + 1 ≠ w.heap.size + 1 by omega))
          replace l1 := cell_set l1 ⟨w.heap.size + 1 + 1 + 1 + 1, 0, none⟩ (.slice Ax3 (K + 1) Cx3) (.inl (show w.heap.size + 1 + 1 + 1 + 1 ≠ w.heap.size + 1 by omega))
          replace l2 := cell_set l2 ⟨w.heap.size + 1 + 1 + 1 + 1, 0, none⟩ (.slice Ax3 (K + 1) Cx3) (.inl (show w.heap.size + 1 + 1 + 1 + 1 ≠ w.heap.size + 1 by omega))
          replace j0 := cell_set j0 ⟨w.heap.size + 1 + 1 + 1 + 1, 0, none⟩ (.slice Ax3 (K + 1) Cx3) (.inl (show w.heap.size + 1 + 1 + 1 + 1 ≠ w.heap.size + 1 + 1 by omega))
          replace j1 := cell_set j1 ⟨w.heap.size + 1 + 1 + 1 + 1, 0, none⟩ (.slice Ax3 (K + 1) Cx3) (.inl (show w.heap.size + 1 + 1 + 1 + 1 ≠ w.heap.size + 1 + 1 by omega))
          replace j2 := cell_set j2 ⟨w.heap.size + 1 + 1 + 1 + 1, 0, none⟩ (.slice Ax3 (K + 1) Cx3) (.inl (show w.heap.size + 1 + 1 + 1 + 1 ≠ w.heap.size + 1 + 1 by omega))
          replace r0 := cell_set r0 ⟨w.heap.size + 1 + 1 + 1 + 1, 0, none⟩ (.slice Ax3 (K + 1) Cx3) (.inl (show w.heap.size + 1 + 1 + 1 + 1 ≠ w.heap.size + 1 + 1 + 1 by omega))
          have bx3 := World.cell?_setCell_same _ _ (.slice Ax3 (K + 1) Cx3) b0
          replace fbx3 := fun q => frozen_set (fbx3 q) ⟨w.heap.size + 1 + 1 + 1 + 1, 0, none⟩ (.slice Ax3 (K + 1) Cx3)
          replace fRx3 := fun q => frozen_set (fRx3 q) ⟨w.heap.size + 1 + 1 + 1 + 1, 0, none⟩ (.slice Ax3 (K + 1) Cx3)
          replace hown4x3 := own_put hown4x3 ⟨w.heap.size + 1 + 1 + 1 + 1, 0, none⟩ (.slice Ax3 (K + 1) Cx3) (Nat.lt_succ_self _)
          have zSx3 : (ux3.setCell ⟨w.heap.size + 1 + 1 + 1 + 1, 0, none⟩ (.slice Ax3 (K + 1) Cx3)).heap.size = ux3.heap.size := by simp only [World.size_set]
          have hKFx3 := Lib.hid ((hK4x3.set ⟨w.heap.size + 1 + 1 + 1 + 1, 0, none⟩ (.slice Ax3 (K + 1) Cx3) (.inr (.inl (Nat.lt_succ_self _)))).wide (Nat.le_refl _) (show hix3 ≤ (ux3.setCell ⟨w.heap.size + 1 + 1 + 1 + 1, 0, none⟩ (.slice Ax3 (K + 1) Cx3)).heap.size by omega))
          clear hK4x3
          replace Mx3 := Mx3.put ⟨w.heap.size + 1 + 1 + 1 + 1, 0, none⟩ (.slice Ax3 (K + 1) Cx3) (show wb.heap.size ≤ w.heap.size + 1 + 1 + 1 + 1 by omega)
          have szx3 : w.heap.size + 1 + 1 + 1 + 1 + 1 ≤ (ux3.setCell ⟨w.heap.size + 1 + 1 + 1 + 1, 0, none⟩ (.slice Ax3 (K + 1) Cx3)).heap.size := by omega
          generalize (ux3.setCell ⟨w.heap.size + 1 + 1 + 1 + 1, 0, none⟩ (.slice Ax3 (K + 1) Cx3)) = wx3 at *
          refine wpAny_doneN (by kernel_rfl) ?_
          refine ‹∀ (a : Act) (w : World), _ → _› _ _ ?_
          go_wp2_with fail
          go_meet
          case rel => exact ⟨Ax3, K + 1, Cx3, gs ++ [gx3], ⟨bx3, fbx3⟩, hown4x3, by rw [HE.out]; exact hKFx3, ⟨hcax3, hcbx3⟩, Mx3, szx3, by omega, by rw [HE.out, List.length_append]; exact congrArg (· + 1) hRl⟩
      case rest =>
        clear b0 fb hown hK hcc hM hsz hKb hRl hMW hlow fR k0 k1 k2 l0 l1 l2 j0 j1 j2 r0
        have hrel := hcut
        clear hcut
        obtain ⟨A, K, C, gs, ⟨b0, fb⟩, hown, hK, hcc, hM, hsz, hKb, hRl⟩ := hrel
        have k0 := hM.cellAt K0.out
        have k1 := hM.cellAt K1.out
        have k2 := hM.cellAt K2.out
        have l0 := hM.cellAt L0.out
        have l1 := hM.cellAt L1.out
        have l2 := hM.cellAt L2.out
        have j0 := hM.cellAt J0.out
        have j1 := hM.cellAt J1.out
        have j2 := hM.cellAt J2.out
        have r0 := hM.cellAt R0.out
        have fR : ∀ q, wc.frozen? ⟨w.heap.size + 1 + 1 + 1, q, none⟩ = false := fun q => (hM.frozen (b := w.heap.size + 1 + 1 + 1) (o := q) (by omega) (.inr (Nat.zero_le _))).trans (FRB.out q)
        have hMW := M0.trans hM
        have hlow := hM.size
        have HO := OwnN.of_row hown hK.out hRl (Nat.le_refl _)
        clear hown hK
        go_wp2_with fail
        have r9 := World.cell?_setCell_same _ _ (.slice A K C) r0
        refine bodyPost_ret (v := .agg #[.slice A K C]) (by simp [results, Try.results26, go_sem, r9]) rfl ⟨A, K, C, rfl, hcc, ?_, hMW.put _ _ (show w.heap.size ≤ w.heap.size + 1 + 1 + 1 by omega)⟩
        exact (HO.set ⟨w.heap.size + 1 + 1 + 1, 0, none⟩ (.slice A K C) (.inl (show w.heap.size + 1 + 1 + 1 < w.heap.size + 1 + 1 + 1 + 1 + 1 by omega))).wide (by omega) (by simp only [World.size_set]; exact Nat.le_refl _)

end Go.Proofs.Ytbkbkpnpllemfaa
