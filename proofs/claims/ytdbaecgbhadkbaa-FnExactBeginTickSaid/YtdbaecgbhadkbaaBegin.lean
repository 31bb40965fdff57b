
/- BeginTick of both sides; marks by content of a scheduler without usages. -/
import Derived.Test.YtdbaecgbhadkbaaFiltReservation
import Derived.Test.YtdbaecgbhadkbaaCScheduler
import Derived.Test.YtdbaecgbhadkbaaKScheduler
import Derived.Test.YtdbaecgbhadkbaaHReservation
import Derived.Test.YtdbaecgbhadkbaaNewScheduler
import Derived.Deep.RegionWith
import Derived.RegionTactic
namespace Go.Proofs.Ytdbaecgbhadkbaa
open Go.ChangeShapes Go.WideShapes Go.ChangeAt Go.RowKit
set_option linter.unusedVariables false
/-- A scheduler of the call's own, without usages. -/
def OutG (x0 : Int) (L : List TReservation) (w : World) (e : Ending) (w' : World) : Prop :=
  ∃ A N C, e = .returned (.agg #[.int .i64 x0, .slice A N C, .slice none 0 0]) ∧ OwnReservation w' w.heap.size w'.heap.size A N L ∧ Mk0 w w'
theorem hasNone (w : World) (B : Nat) : HasUsage w B none 0 [] := ⟨rfl, fun h => absurd h (by omega)⟩

set_option maxRecDepth 100000 in
set_option maxHeartbeats 3200000 in
theorem specBegin (x0 t : Int) (a1 : Option Addr) (n1 c1 : Nat) (z1 : List TReservation) (a2 : Option Addr) (n2 c2 : Nat) (B : Nat) (w : World) (h1 : HasReservation w B a1 n1 z1) (hB : B ≤ w.heap.size) (hn1 : n1 ≤ 1048576) :
    Calls Try.prog 60 #[.agg #[.int .i64 x0, .slice a1 n1 c1, .slice a2 n2 c2], .int .i64 t] w (OutG x0 (filtUp (pActR t) z1 n1) w) := by
  have M0 : Mk0 w ((w.alloc (Obj.cells #[Value.int .i64 x0, Value.slice a1 n1 c1, Value.slice a2 n2 c2] 73)).alloc (Obj.cells #[Value.int .i64 0, Value.slice none 0 0, Value.slice none 0 0] 73)) := (Mk.alloc w _).trans (Mk.alloc _ _)
  have hB2 : B ≤ ((w.alloc (Obj.cells #[Value.int .i64 x0, Value.slice a1 n1 c1, Value.slice a2 n2 c2] 73)).alloc (Obj.cells #[Value.int .i64 0, Value.slice none 0 0, Value.slice none 0 0] 73)).heap.size := Nat.le_trans hB M0.size
  have h2 := h1.mk M0 hB (.inr (Nat.le_refl _))
  have r0 : ((w.alloc (Obj.cells #[Value.int .i64 x0, Value.slice a1 n1 c1, Value.slice a2 n2 c2] 73)).alloc (Obj.cells #[Value.int .i64 0, Value.slice none 0 0, Value.slice none 0 0] 73)).cell? ⟨w.heap.size + 1, 0, none⟩ = some (.int .i64 0) := by simp [go_sem]
  have r1 : ((w.alloc (Obj.cells #[Value.int .i64 x0, Value.slice a1 n1 c1, Value.slice a2 n2 c2] 73)).alloc (Obj.cells #[Value.int .i64 0, Value.slice none 0 0, Value.slice none 0 0] 73)).cell? ⟨w.heap.size + 1, 1, none⟩ = some (.slice none 0 0) := by simp [go_sem]
  have r2 : ((w.alloc (Obj.cells #[Value.int .i64 x0, Value.slice a1 n1 c1, Value.slice a2 n2 c2] 73)).alloc (Obj.cells #[Value.int .i64 0, Value.slice none 0 0, Value.slice none 0 0] 73)).cell? ⟨w.heap.size + 1, 2, none⟩ = some (.slice none 0 0) := by simp [go_sem]
  have k0 : ((w.alloc (Obj.cells #[Value.int .i64 x0, Value.slice a1 n1 c1, Value.slice a2 n2 c2] 73)).alloc (Obj.cells #[Value.int .i64 0, Value.slice none 0 0, Value.slice none 0 0] 73)).cell? ⟨w.heap.size, 0, none⟩ = some (.int .i64 x0) := by simp [go_sem]
  have k1 : ((w.alloc (Obj.cells #[Value.int .i64 x0, Value.slice a1 n1 c1, Value.slice a2 n2 c2] 73)).alloc (Obj.cells #[Value.int .i64 0, Value.slice none 0 0, Value.slice none 0 0] 73)).cell? ⟨w.heap.size, 1, none⟩ = some (.slice a1 n1 c1) := by simp [go_sem]
  have f0 : ((w.alloc (Obj.cells #[Value.int .i64 x0, Value.slice a1 n1 c1, Value.slice a2 n2 c2] 73)).alloc (Obj.cells #[Value.int .i64 0, Value.slice none 0 0, Value.slice none 0 0] 73)).frozen? ⟨w.heap.size + 1, 0, none⟩ = false := by simp [go_sem]
  have f1 : ((w.alloc (Obj.cells #[Value.int .i64 x0, Value.slice a1 n1 c1, Value.slice a2 n2 c2] 73)).alloc (Obj.cells #[Value.int .i64 0, Value.slice none 0 0, Value.slice none 0 0] 73)).frozen? ⟨w.heap.size + 1, 1, none⟩ = false := by simp [go_sem]
  have f2 : ((w.alloc (Obj.cells #[Value.int .i64 x0, Value.slice a1 n1 c1, Value.slice a2 n2 c2] 73)).alloc (Obj.cells #[Value.int .i64 0, Value.slice none 0 0, Value.slice none 0 0] 73)).frozen? ⟨w.heap.size + 1, 2, none⟩ = false := by simp [go_sem]
  have zA : ((w.alloc (Obj.cells #[Value.int .i64 x0, Value.slice a1 n1 c1, Value.slice a2 n2 c2] 73)).alloc (Obj.cells #[Value.int .i64 0, Value.slice none 0 0, Value.slice none 0 0] 73)).heap.size = w.heap.size + 2 := by simp
  go_enter Try.func60, Try.ntmps60
  go_wp2_with fail
  go_region_with (go_at_call 47; refine (specActR t a1 n1 c1 B z1 _ (h2.mk (Mk.drew1 _) hB2 (.inr (Nat.le_refl _))) hB2 hn1).mono ?_; rintro e w3 ⟨A, N, C, rfl, hc, o3, m3⟩; have m4 := (Mk.drew1 _).trans m3; have q0 := m4.cellAt r0; have q1 := m4.cellAt r1; have q2 := m4.cellAt r2; have p0 := m4.cellAt k0; have g0 := m4.frozenAt r0 f0; have g1 := m4.frozenAt r1 f1; have g2 := m4.frozenAt r2 f2)
  all_goals (
    have M4 := M0.trans m4
    clear k0 k1 r0 r1 r2 f0 f1 f2 M0
    refine ‹∀ (a : Act) (w : World), _ → _› _ _ ?_
    go_wp2_with fail
    have e0 : (((w3.setCell ⟨w.heap.size + 1, 0, none⟩ (.int .i64 x0)).setCell ⟨w.heap.size + 1, 1, none⟩ (.slice A N C)).setCell ⟨w.heap.size + 1, 2, none⟩ (.slice none 0 0)).cell? ⟨w.heap.size + 1, 0, none⟩ = some (.int .i64 x0) := cell_set (cell_set (World.cell?_setCell_same _ _ (.int .i64 x0) q0) _ _ (.inr (by simp))) _ _ (.inr (by simp))
    have e1 : (((w3.setCell ⟨w.heap.size + 1, 0, none⟩ (.int .i64 x0)).setCell ⟨w.heap.size + 1, 1, none⟩ (.slice A N C)).setCell ⟨w.heap.size + 1, 2, none⟩ (.slice none 0 0)).cell? ⟨w.heap.size + 1, 1, none⟩ = some (.slice A N C) := cell_set (World.cell?_setCell_same _ _ (.slice A N C) (cell_set q1 _ _ (.inr (by simp)))) _ _ (.inr (by simp))
    have e2 : (((w3.setCell ⟨w.heap.size + 1, 0, none⟩ (.int .i64 x0)).setCell ⟨w.heap.size + 1, 1, none⟩ (.slice A N C)).setCell ⟨w.heap.size + 1, 2, none⟩ (.slice none 0 0)).cell? ⟨w.heap.size + 1, 2, none⟩ = some (.slice none 0 0) := World.cell?_setCell_same _ _ (.slice none 0 0) (cell_set (cell_set q2 _ _ (.inr (by simp))) _ _ (.inr (by simp)))
    have N0 := M4.put ⟨w.heap.size + 1, 0, none⟩ (.int .i64 x0) (by simp)
    have N1 := N0.put ⟨w.heap.size + 1, 1, none⟩ (.slice A N C) (by simp)
    have N2 := N1.put ⟨w.heap.size + 1, 2, none⟩ (.slice none 0 0) (by simp)
    have o4 := o3.set ⟨w.heap.size + 1, 0, none⟩ (.int .i64 x0) (.inl (by simp))
    have o5 := o4.set ⟨w.heap.size + 1, 1, none⟩ (.slice A N C) (.inl (by simp))
    have o6 := o5.set ⟨w.heap.size + 1, 2, none⟩ (.slice none 0 0) (.inl (by simp))
    have zw : (((w3.setCell ⟨w.heap.size + 1, 0, none⟩ (.int .i64 x0)).setCell ⟨w.heap.size + 1, 1, none⟩ (.slice A N C)).setCell ⟨w.heap.size + 1, 2, none⟩ (.slice none 0 0)).heap.size = w3.heap.size := by simp [World.setCell]
    generalize (((w3.setCell ⟨w.heap.size + 1, 0, none⟩ (.int .i64 x0)).setCell ⟨w.heap.size + 1, 1, none⟩ (.slice A N C)).setCell ⟨w.heap.size + 1, 2, none⟩ (.slice none 0 0)) = WF at *
    refine bodyPost_ret (v := (.agg #[.int .i64 x0, .slice A N C, .slice none 0 0])) (by simp [results, Try.results60, go_sem, e0, e1, e2]) rfl ⟨A, N, C, rfl, ?_, N2⟩
    exact o6.wide (by simp; omega) (Nat.le_of_eq zw.symm))

set_option maxRecDepth 100000 in
set_option maxHeartbeats 3200000 in
theorem implBegin (x0 t : Int) (a1 : Option Addr) (n1 c1 : Nat) (z1 : List TReservation) (a2 : Option Addr) (n2 c2 : Nat) (B : Nat) (w : World) (h1 : HasReservation w B a1 n1 z1) (hB : B ≤ w.heap.size) (hn1 : n1 ≤ 1048576) :
    Calls Try.prog 62 #[.agg #[.int .i64 x0, .slice a1 n1 c1, .slice a2 n2 c2], .int .i64 t] w (OutG x0 (filtUp (pActR t) z1 n1) w) := by
  have M0 : Mk0 w ((w.alloc (Obj.cells #[Value.int .i64 x0, Value.slice a1 n1 c1, Value.slice a2 n2 c2] 73)).alloc (Obj.cells #[Value.int .i64 0, Value.slice none 0 0, Value.slice none 0 0] 73)) := (Mk.alloc w _).trans (Mk.alloc _ _)
  have hB2 : B ≤ ((w.alloc (Obj.cells #[Value.int .i64 x0, Value.slice a1 n1 c1, Value.slice a2 n2 c2] 73)).alloc (Obj.cells #[Value.int .i64 0, Value.slice none 0 0, Value.slice none 0 0] 73)).heap.size := Nat.le_trans hB M0.size
  have h2 := h1.mk M0 hB (.inr (Nat.le_refl _))
  have r0 : ((w.alloc (Obj.cells #[Value.int .i64 x0, Value.slice a1 n1 c1, Value.slice a2 n2 c2] 73)).alloc (Obj.cells #[Value.int .i64 0, Value.slice none 0 0, Value.slice none 0 0] 73)).cell? ⟨w.heap.size + 1, 0, none⟩ = some (.int .i64 0) := by simp [go_sem]
  have r1 : ((w.alloc (Obj.cells #[Value.int .i64 x0, Value.slice a1 n1 c1, Value.slice a2 n2 c2] 73)).alloc (Obj.cells #[Value.int .i64 0, Value.slice none 0 0, Value.slice none 0 0] 73)).cell? ⟨w.heap.size + 1, 1, none⟩ = some (.slice none 0 0) := by simp [go_sem]
  have r2 : ((w.alloc (Obj.cells #[Value.int .i64 x0, Value.slice a1 n1 c1, Value.slice a2 n2 c2] 73)).alloc (Obj.cells #[Value.int .i64 0, Value.slice none 0 0, Value.slice none 0 0] 73)).cell? ⟨w.heap.size + 1, 2, none⟩ = some (.slice none 0 0) := by simp [go_sem]
  have k0 : ((w.alloc (Obj.cells #[Value.int .i64 x0, Value.slice a1 n1 c1, Value.slice a2 n2 c2] 73)).alloc (Obj.cells #[Value.int .i64 0, Value.slice none 0 0, Value.slice none 0 0] 73)).cell? ⟨w.heap.size, 0, none⟩ = some (.int .i64 x0) := by simp [go_sem]
  have k1 : ((w.alloc (Obj.cells #[Value.int .i64 x0, Value.slice a1 n1 c1, Value.slice a2 n2 c2] 73)).alloc (Obj.cells #[Value.int .i64 0, Value.slice none 0 0, Value.slice none 0 0] 73)).cell? ⟨w.heap.size, 1, none⟩ = some (.slice a1 n1 c1) := by simp [go_sem]
  have f0 : ((w.alloc (Obj.cells #[Value.int .i64 x0, Value.slice a1 n1 c1, Value.slice a2 n2 c2] 73)).alloc (Obj.cells #[Value.int .i64 0, Value.slice none 0 0, Value.slice none 0 0] 73)).frozen? ⟨w.heap.size + 1, 0, none⟩ = false := by simp [go_sem]
  have f1 : ((w.alloc (Obj.cells #[Value.int .i64 x0, Value.slice a1 n1 c1, Value.slice a2 n2 c2] 73)).alloc (Obj.cells #[Value.int .i64 0, Value.slice none 0 0, Value.slice none 0 0] 73)).frozen? ⟨w.heap.size + 1, 1, none⟩ = false := by simp [go_sem]
  have f2 : ((w.alloc (Obj.cells #[Value.int .i64 x0, Value.slice a1 n1 c1, Value.slice a2 n2 c2] 73)).alloc (Obj.cells #[Value.int .i64 0, Value.slice none 0 0, Value.slice none 0 0] 73)).frozen? ⟨w.heap.size + 1, 2, none⟩ = false := by simp [go_sem]
  have zA : ((w.alloc (Obj.cells #[Value.int .i64 x0, Value.slice a1 n1 c1, Value.slice a2 n2 c2] 73)).alloc (Obj.cells #[Value.int .i64 0, Value.slice none 0 0, Value.slice none 0 0] 73)).heap.size = w.heap.size + 2 := by simp
  go_enter Try.func62, Try.ntmps62
  go_wp2_with fail
  go_region_with (go_at_call 48; refine (implActR t a1 n1 c1 B z1 _ (h2.mk (Mk.drew1 _) hB2 (.inr (Nat.le_refl _))) hB2 hn1).mono ?_; rintro e w3 ⟨A, N, C, rfl, hc, o3, m3⟩; have m4 := (Mk.drew1 _).trans m3; have q0 := m4.cellAt r0; have q1 := m4.cellAt r1; have q2 := m4.cellAt r2; have p0 := m4.cellAt k0; have g0 := m4.frozenAt r0 f0; have g1 := m4.frozenAt r1 f1; have g2 := m4.frozenAt r2 f2)
  all_goals (
    have M4 := M0.trans m4
    clear k0 k1 r0 r1 r2 f0 f1 f2 M0
    refine ‹∀ (a : Act) (w : World), _ → _› _ _ ?_
    go_wp2_with fail
    have e0 : (((w3.setCell ⟨w.heap.size + 1, 0, none⟩ (.int .i64 x0)).setCell ⟨w.heap.size + 1, 1, none⟩ (.slice A N C)).setCell ⟨w.heap.size + 1, 2, none⟩ (.slice none 0 0)).cell? ⟨w.heap.size + 1, 0, none⟩ = some (.int .i64 x0) := cell_set (cell_set (World.cell?_setCell_same _ _ (.int .i64 x0) q0) _ _ (.inr (by simp))) _ _ (.inr (by simp))
    have e1 : (((w3.setCell ⟨w.heap.size + 1, 0, none⟩ (.int .i64 x0)).setCell ⟨w.heap.size + 1, 1, none⟩ (.slice A N C)).setCell ⟨w.heap.size + 1, 2, none⟩ (.slice none 0 0)).cell? ⟨w.heap.size + 1, 1, none⟩ = some (.slice A N C) := cell_set (World.cell?_setCell_same _ _ (.slice A N C) (cell_set q1 _ _ (.inr (by simp)))) _ _ (.inr (by simp))
    have e2 : (((w3.setCell ⟨w.heap.size + 1, 0, none⟩ (.int .i64 x0)).setCell ⟨w.heap.size + 1, 1, none⟩ (.slice A N C)).setCell ⟨w.heap.size + 1, 2, none⟩ (.slice none 0 0)).cell? ⟨w.heap.size + 1, 2, none⟩ = some (.slice none 0 0) := World.cell?_setCell_same _ _ (.slice none 0 0) (cell_set (cell_set q2 _ _ (.inr (by simp))) _ _ (.inr (by simp)))
    have N0 := M4.put ⟨w.heap.size + 1, 0, none⟩ (.int .i64 x0) (by simp)
    have N1 := N0.put ⟨w.heap.size + 1, 1, none⟩ (.slice A N C) (by simp)
    have N2 := N1.put ⟨w.heap.size + 1, 2, none⟩ (.slice none 0 0) (by simp)
    have o4 := o3.set ⟨w.heap.size + 1, 0, none⟩ (.int .i64 x0) (.inl (by simp))
    have o5 := o4.set ⟨w.heap.size + 1, 1, none⟩ (.slice A N C) (.inl (by simp))
    have o6 := o5.set ⟨w.heap.size + 1, 2, none⟩ (.slice none 0 0) (.inl (by simp))
    have zw : (((w3.setCell ⟨w.heap.size + 1, 0, none⟩ (.int .i64 x0)).setCell ⟨w.heap.size + 1, 1, none⟩ (.slice A N C)).setCell ⟨w.heap.size + 1, 2, none⟩ (.slice none 0 0)).heap.size = w3.heap.size := by simp [World.setCell]
    generalize (((w3.setCell ⟨w.heap.size + 1, 0, none⟩ (.int .i64 x0)).setCell ⟨w.heap.size + 1, 1, none⟩ (.slice A N C)).setCell ⟨w.heap.size + 1, 2, none⟩ (.slice none 0 0)) = WF at *
    refine bodyPost_ret (v := (.agg #[.int .i64 x0, .slice A N C, .slice none 0 0])) (by simp [results, Try.results62, go_sem, e0, e1, e2]) rfl ⟨A, N, C, rfl, ?_, N2⟩
    exact o6.wide (by simp; omega) (Nat.le_of_eq zw.symm))

set_option maxRecDepth 100000 in
set_option maxHeartbeats 3200000 in
theorem markNilUK (k : Int) (w : World) : Calls Try.prog 108 #[.slice none 0 0, .int .i64 k] w fun en w' => en = .returned (.int .i64 k) ∧ Mk0 w w' := by
  go_enter Try.func108, Try.ntmps108
  go_wp2
  go_loopw [1, 5] (fun r i wr => r = .int .i64 k ∧ i = .int .i64 0 ∧ Mk0 w wr) (fun _ _ _ => 0)
  case atStart => exact ⟨rfl, rfl, Mk.refl _ _ _⟩
  case round =>
    obtain ⟨rfl, rfl, m1⟩ := hrel
    go_wp2
    go_ret
    exact ⟨rfl, m1⟩

set_option maxRecDepth 100000 in
set_option maxHeartbeats 3200000 in
theorem heldNilUK (k : Int) (w : World) : Calls Try.prog 109 #[.slice none 0 0, .int .i64 k] w fun en w' => en = .returned (.int .i64 k) ∧ Mk0 w w' := by
  go_enter Try.func109, Try.ntmps109
  go_wp2
  go_loopw [1, 4, 5] (fun q r i wr => q = .int .i64 k ∧ r = .int .i64 0 ∧ i = .int .i64 0 ∧ Mk0 w wr) (fun _ _ _ _ => 0)
  case atStart => exact ⟨rfl, rfl, rfl, Mk.refl _ _ _⟩
  case round =>
    obtain ⟨rfl, rfl, rfl, m1⟩ := hrel
    go_wp2
    go_ret
    exact ⟨rfl, m1⟩

set_option maxRecDepth 100000 in
set_option maxHeartbeats 3200000 in
theorem markG (x0 : Int) (a : Option Addr) (n c lo hi : Nat) (k0 : Int) (zs : List TReservation) (w : World) (h : OwnReservation w lo hi a n zs) (hB : hi ≤ w.heap.size) (hn : n ≤ 2097152) (h0 : 0 ≤ k0) (h1 : k0 ≤ 1073741824) :
    Calls Try.prog 57 #[.agg #[.int .i64 x0, .slice a n c, .slice none 0 0], .int .i64 k0] w fun e w' => e = .returned (.int .i64 (k0 + 5 * n)) ∧ OwnReservation w' lo hi a n (mklReservation k0 n) ∧ Mk lo hi w w' := by
  have kk0 : (w.alloc (Obj.cells #[Value.int .i64 x0, Value.slice a n c, Value.slice none 0 0] 73)).cell? ⟨w.heap.size, 0, none⟩ = some (.int .i64 x0) := by simp [go_sem]
  have kk1 : (w.alloc (Obj.cells #[Value.int .i64 x0, Value.slice a n c, Value.slice none 0 0] 73)).cell? ⟨w.heap.size, 1, none⟩ = some (.slice a n c) := by simp [go_sem]
  have kk2 : (w.alloc (Obj.cells #[Value.int .i64 x0, Value.slice a n c, Value.slice none 0 0] 73)).cell? ⟨w.heap.size, 2, none⟩ = some (.slice none 0 0) := by simp [go_sem]
  have M0 : Mk0 w (w.alloc (Obj.cells #[Value.int .i64 x0, Value.slice a n c, Value.slice none 0 0] 73)) := Mk.alloc w _
  have y0 := M0.size
  have h2 := h.mk M0 hB (.inr (.inr (Nat.le_refl _)))
  have hq : 0 ≤ k0 + 5 * (n : Int) := by omega
  go_enter Try.func57, Try.ntmps57
  go_wp2_with fail
  refine (markReservationM _ _ _ lo hi _ zs _ h2 hn h0 (by omega)).mono ?_
  rintro e w1 ⟨rfl, o1, m1⟩
  have y1 := m1.size
  replace kk0 := m1.cellAtR kk0 (.inr (by omega))
  replace kk1 := m1.cellAtR kk1 (.inr (by omega))
  replace kk2 := m1.cellAtR kk2 (.inr (by omega))
  go_wp2_with fail
  refine (markNilUK _ _).mono ?_
  rintro e w2 ⟨rfl, m2⟩
  go_wp2_with fail
  go_ret
  exact ⟨rfl, o1.mk m2 (by omega) (.inr (.inr (Nat.le_refl _))), (M0.wide (.inl (Nat.le_refl _))).trans (m1.trans (m2.wide (.inl (Nat.le_refl _))))⟩

set_option maxRecDepth 100000 in
set_option maxHeartbeats 3200000 in
theorem heldG (x0 : Int) (a : Option Addr) (n c B : Nat) (k0 : Int) (w : World) (h : HasReservation w B a n (mklReservation k0 n)) (hB : B ≤ w.heap.size) (hn : n ≤ 2097152) (h0 : 0 ≤ k0) (h1 : k0 ≤ 1073741824) :
    Calls Try.prog 58 #[.agg #[.int .i64 x0, .slice a n c, .slice none 0 0], .int .i64 k0] w fun e w' => e = .returned (.int .i64 (k0 + 5 * n)) ∧ Mk0 w w' := by
  have kk0 : (w.alloc (Obj.cells #[Value.int .i64 x0, Value.slice a n c, Value.slice none 0 0] 73)).cell? ⟨w.heap.size, 0, none⟩ = some (.int .i64 x0) := by simp [go_sem]
  have kk1 : (w.alloc (Obj.cells #[Value.int .i64 x0, Value.slice a n c, Value.slice none 0 0] 73)).cell? ⟨w.heap.size, 1, none⟩ = some (.slice a n c) := by simp [go_sem]
  have kk2 : (w.alloc (Obj.cells #[Value.int .i64 x0, Value.slice a n c, Value.slice none 0 0] 73)).cell? ⟨w.heap.size, 2, none⟩ = some (.slice none 0 0) := by simp [go_sem]
  have M0 : Mk0 w (w.alloc (Obj.cells #[Value.int .i64 x0, Value.slice a n c, Value.slice none 0 0] 73)) := Mk.alloc w _
  have y0 := M0.size
  have h2 := h.mk M0 hB (.inr (Nat.le_refl _))
  have hq : 0 ≤ k0 + 5 * (n : Int) := by omega
  go_enter Try.func58, Try.ntmps58
  go_wp2_with fail
  refine (heldReservationM _ _ _ _ _ _ h2 hn h0 (by omega)).mono ?_
  rintro e w' ⟨rfl, rfl⟩
  go_wp2_with fail
  refine (heldNilUK _ _).mono ?_
  rintro e w2 ⟨rfl, m2⟩
  go_wp2_with fail
  go_ret
  exact ⟨rfl, M0.trans m2⟩

end Go.Proofs.Ytdbaecgbhadkbaa
