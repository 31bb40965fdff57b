
/- Rates that are reserved, of both sides. -/
import Derived.Test.YtldnfjpdhmjhoaaSReservation
import Derived.Test.YtldnfjpdhmjhoaaRow
import Derived.Test.YtldnfjpdhmjhoaaPol
import Derived.Laws.StructEq
import Derived.Laws.EntriesVeiled
namespace Go.Proofs.Ytldnfjpdhmjhoaa
open Go.ChangeShapes Go.WideShapes Go.ChangeAt Go.RowKit
set_option linter.unusedVariables false
def rateAt (x : TReservation) (p q t : Int) : Bool := (x.nd == p) && ((x.ifc == q) && decide (t ≤ x.til))
def rateUp (zs : List TReservation) (p q t : Int) : Nat → Int
  | 0 => 0
  | k + 1 => if rateAt (zs.getD k default) p q t = true then wrap64 (rateUp zs p q t k + (zs.getD k default).rate) else rateUp zs p q t k
set_option maxRecDepth 100000 in
set_option maxHeartbeats 4000000 in
theorem specRAt (x : TReservation) (p q t : Int) (w : World) : Calls Try.prog 50 #[.agg #[.int .i64 x.id, .int .i64 x.nd, .int .i64 x.ifc, .int .i64 x.rate, .int .i64 x.til], .int .i64 p, .int .i64 q, .int .i64 t] w fun e w' => e = .returned (.bool (rateAt x p q t)) ∧ Mk0 w w' := by
  cases e0 : (x.nd == p)
  · have HR := Lib.hid (show rateAt x p q t = false by unfold rateAt; rw [e0]; rfl)
    go_enter Try.func50, Try.ntmps50
    go_wp2_with fail
    go_ret
    exact ⟨retB HR.out.symm, Mk.of_below (by go_grown)⟩
  · cases e1 : (x.ifc == q)
    · have HR := Lib.hid (show rateAt x p q t = false by unfold rateAt; rw [e0, e1]; rfl)
      go_enter Try.func50, Try.ntmps50
      go_wp2_with fail
      go_ret
      exact ⟨retB HR.out.symm, Mk.of_below (by go_grown)⟩
    · cases e2 : decide (t ≤ x.til)
      · have HR := Lib.hid (show rateAt x p q t = false by unfold rateAt; rw [e0, e1, e2]; rfl)
        go_enter Try.func50, Try.ntmps50
        go_wp2_with fail
        go_ret
        exact ⟨retB HR.out.symm, Mk.of_below (by go_grown)⟩
      · have e3 : t ≤ x.til := of_decide_eq_true e2
        have HR := Lib.hid (show rateAt x p q t = true by unfold rateAt; rw [e0, e1, e2]; rfl)
        go_enter Try.func50, Try.ntmps50
        go_wp2_with fail
        go_ret
        exact ⟨retB HR.out.symm, Mk.of_below (by go_grown)⟩

set_option maxRecDepth 100000 in
set_option maxHeartbeats 4000000 in
theorem implActive (x : TReservation) (t : Int) (w : World) : Calls Try.prog 65 #[.agg #[.int .i64 x.id, .int .i64 x.nd, .int .i64 x.ifc, .int .i64 x.rate, .int .i64 x.til], .int .i64 t] w fun e w' => e = .returned (.bool (decide (t ≤ x.til))) ∧ Mk0 w w' := by
  go_enter Try.func65, Try.ntmps65
  go_wp2_with fail
  go_ret
  exact ⟨rfl, Mk.of_below (by go_grown)⟩

set_option maxRecDepth 100000 in
set_option maxHeartbeats 4000000 in
theorem implShare (x : TReservation) (w : World) : Calls Try.prog 66 #[.agg #[.int .i64 x.id, .int .i64 x.nd, .int .i64 x.ifc, .int .i64 x.rate, .int .i64 x.til]] w fun e w' => e = .returned (.agg #[.int .i64 x.id, .int .i64 x.nd, .int .i64 x.ifc]) ∧ Mk0 w w' := by
  go_enter Try.func66, Try.ntmps66
  go_wp2_with fail
  refine bodyPost_ret (v := .agg #[.int .i64 x.id, .int .i64 x.nd, .int .i64 x.ifc]) (by simp [results, Try.results66, go_sem]) rfl ⟨rfl, Mk.of_below ?_⟩
  go_grown

set_option maxRecDepth 100000 in
set_option maxHeartbeats 4000000 in
theorem implRAdd (x : TReservation) (b : Nat) (v : Int) (w : World) (hb : b < w.heap.size) (hc : w.cell? ⟨b, 0, none⟩ = some (.int .i64 v)) (hf : w.frozen? ⟨b, 0, none⟩ = false) :
    Calls Try.prog 68 #[.agg #[.int .i64 x.id, .int .i64 x.nd, .int .i64 x.ifc, .int .i64 x.rate, .int .i64 x.til], .pointer (some ⟨b, 0, none⟩)] w fun e w' => (∃ v, e = .returned v) ∧ w'.cell? ⟨b, 0, none⟩ = some (.int .i64 (wrap64 (v + x.rate))) ∧ w'.frozen? ⟨b, 0, none⟩ = false ∧ (∀ w0, Mk0 w0 w → w0.heap.size ≤ b → Mk0 w0 w') := by
  have k0 := (Mk.alloc w (Obj.cells #[Value.int .i64 x.id, Value.int .i64 x.nd, Value.int .i64 x.ifc, Value.int .i64 x.rate, Value.int .i64 x.til] 60)).cellAt hc
  have g0 := (Mk.alloc w (Obj.cells #[Value.int .i64 x.id, Value.int .i64 x.nd, Value.int .i64 x.ifc, Value.int .i64 x.rate, Value.int .i64 x.til] 60)).frozenAt hc hf
  go_enter Try.func68, Try.ntmps68
  go_wp2_with fail
  refine bodyPost_end (results_none rfl _ _ _) rfl ?_
  refine ⟨⟨_, rfl⟩, (Mk.alloc _ _).cellAt (World.cell?_setCell_same _ _ _ hc), (Mk.alloc _ _).frozenAt (World.cell?_setCell_same _ _ _ hc) (frozen_set hf _ _), fun w0 h0 hb0 => (h0.put _ _ hb0).new _⟩

set_option maxRecDepth 100000 in
set_option maxHeartbeats 4000000 in
theorem specRated (p q t : Int) (a : Option Addr) (n c B : Nat) (zs : List TReservation) (w : World) (h : HasReservation w B a n zs) (hB : B ≤ w.heap.size) (hn : n ≤ 1048576) :
    Calls Try.prog 55 #[.slice a n c, .int .i64 p, .int .i64 q, .int .i64 t] w fun e w' => e = .returned (.int .i64 (rateUp zs p q t n)) ∧ Mk0 w w' := by
  go_enter Try.func55, Try.ntmps55
  go_wp2_with fail
  go_loopw [9, 10] (fun v i wr => ∃ k : Nat, k ≤ n ∧ i = .int .i64 k ∧ v = .int .i64 (rateUp zs p q t k) ∧ Mk0 w wr) (fun _ i _ => n - (intOf i).toNat)
  case atStart => exact ⟨0, Nat.zero_le _, rfl, rfl, Mk.refl _ _ _⟩
  case round =>
    obtain ⟨k, hk, rfl, rfl, hM⟩ := hrel
    by_cases hlt : k < n
    · obtain ⟨b, off, x, rfl, hb, hx, c0, c1, c2, c3, c4⟩ := HasReservation.at _ _ _ _ _ _ (h.mk hM hB (.inr (Nat.le_refl _))) hlt
      cases hr : rateAt x p q t
      · have HE := Lib.hid (show rateUp zs p q t (k + 1) = rateUp zs p q t k by rw [rateUp, ← hx.out, hr]; rfl)
        have HO := Lib.hid hr
        clear hr
        go_wp2_with fail
        refine (specRAt x p q t _).mono ?_
        rintro e w2 ⟨he, m2⟩
        rw [HO.out] at he
        subst he
        go_wp2_with fail
        go_roundw
        case rel => exact ⟨k + 1, by omega, by go_num, by rw [HE.out], hM.trans m2⟩
        case measure => simp [intOf]; omega
      · have HE := Lib.hid (show rateUp zs p q t (k + 1) = wrap64 (rateUp zs p q t k + x.rate) by rw [rateUp, ← hx.out, hr]; rfl)
        have HO := Lib.hid hr
        clear hr
        go_wp2_with fail
        refine (specRAt x p q t _).mono ?_
        rintro e w2 ⟨he, m2⟩
        rw [HO.out] at he
        subst he
        replace c3 := m2.cellAt c3
        go_wp2_with fail
        go_roundw
        case rel => exact ⟨k + 1, by omega, by go_num, by rw [HE.out], hM.trans m2⟩
        case measure => simp [intOf]; omega
    · obtain rfl : k = n := by omega
      go_wp2_with fail
      go_ret
      exact ⟨rfl, hM⟩

set_option maxRecDepth 100000 in
set_option maxHeartbeats 4000000 in
theorem implRated (p q t : Int) (a : Option Addr) (n c B : Nat) (zs : List TReservation) (w : World) (h : HasReservation w B a n zs) (hB : B ≤ w.heap.size) (hn : n ≤ 1048576) :
    Calls Try.prog 57 #[.slice a n c, .int .i64 p, .int .i64 q, .int .i64 t] w fun e w' => e = .returned (.int .i64 (rateUp zs p q t n)) ∧ Mk0 w w' := by
  go_enter Try.func57, Try.ntmps57
  go_wp2_with fail
  go_loopw [16] (fun i wr => ∃ k : Nat, k ≤ n ∧ i = .int .i64 k ∧ wr.cell? ⟨w.heap.size, 0, none⟩ = some (.int .i64 (rateUp zs p q t k)) ∧ wr.frozen? ⟨w.heap.size, 0, none⟩ = false ∧ Mk0 w wr) (fun i _ => n - (intOf i).toNat)
  case atStart => exact ⟨0, Nat.zero_le _, rfl, by simp [go_sem, rateUp], by simp [go_sem], Mk.of_below (by go_grown)⟩
  case round =>
    obtain ⟨k, hk, rfl, hS, hF, hM⟩ := hrel
    by_cases hlt : k < n
    · obtain ⟨b, off, x, rfl, hb, hx, c0, c1, c2, c3, c4⟩ := HasReservation.at _ _ _ _ _ _ (h.mk hM hB (.inr (Nat.le_refl _))) hlt
      have hbr := World.block_lt_of_cell? _ _ c0
      simp only at hbr
      have hbs := World.block_lt_of_cell? _ _ hS
      simp only at hbs
      have MX := Mk.alloc wr (Obj.cells #[Value.int .i64 x.id, Value.int .i64 x.nd, Value.int .i64 x.ifc, Value.int .i64 x.rate, Value.int .i64 x.til] 60)
      cases e2 : decide (t ≤ x.til)
      · have HE := Lib.hid (show rateUp zs p q t (k + 1) = rateUp zs p q t k by rw [rateUp, ← hx.out, show rateAt x p q t = false by unfold rateAt; rw [e2]; simp]; rfl)
        have HT := Lib.hid e2
        clear e2
        have d0 : (wr.alloc (Obj.cells #[Value.int .i64 x.id, Value.int .i64 x.nd, Value.int .i64 x.ifc, Value.int .i64 x.rate, Value.int .i64 x.til] 60)).cell? ⟨wr.heap.size, 0, none⟩ = some (.int .i64 x.id) := by simp [go_sem]
        have d1 : (wr.alloc (Obj.cells #[Value.int .i64 x.id, Value.int .i64 x.nd, Value.int .i64 x.ifc, Value.int .i64 x.rate, Value.int .i64 x.til] 60)).cell? ⟨wr.heap.size, 1, none⟩ = some (.int .i64 x.nd) := by simp [go_sem]
        have d2 : (wr.alloc (Obj.cells #[Value.int .i64 x.id, Value.int .i64 x.nd, Value.int .i64 x.ifc, Value.int .i64 x.rate, Value.int .i64 x.til] 60)).cell? ⟨wr.heap.size, 2, none⟩ = some (.int .i64 x.ifc) := by simp [go_sem]
        have d3 : (wr.alloc (Obj.cells #[Value.int .i64 x.id, Value.int .i64 x.nd, Value.int .i64 x.ifc, Value.int .i64 x.rate, Value.int .i64 x.til] 60)).cell? ⟨wr.heap.size, 3, none⟩ = some (.int .i64 x.rate) := by simp [go_sem]
        have d4 : (wr.alloc (Obj.cells #[Value.int .i64 x.id, Value.int .i64 x.nd, Value.int .i64 x.ifc, Value.int .i64 x.rate, Value.int .i64 x.til] 60)).cell? ⟨wr.heap.size, 4, none⟩ = some (.int .i64 x.til) := by simp [go_sem]
        have hS1 := MX.cellAt hS
        have hF1 := MX.frozenAt hS hF
        go_wp2_with fail
        refine (implActive x t _).mono ?_
        rintro e w2 ⟨he, m2⟩
        rw [HT.out] at he
        subst he
        have M2 := (hM.trans MX).trans m2
        replace d0 := m2.cellAt d0
        replace d1 := m2.cellAt d1
        replace d2 := m2.cellAt d2
        replace d3 := m2.cellAt d3
        replace d4 := m2.cellAt d4
        replace hF1 := m2.frozenAt hS1 hF1
        replace hS1 := m2.cellAt hS1
        go_wp2_with fail
        go_roundw
        case rel => exact ⟨k + 1, by omega, by go_num, by rw [HE.out]; exact hS1, hF1, M2⟩
        case measure => simp [intOf]; omega
      · have HT := Lib.hid e2
        cases e0 : (x.nd == p)
        · have HE := Lib.hid (show rateUp zs p q t (k + 1) = rateUp zs p q t k by rw [rateUp, ← hx.out, show rateAt x p q t = false by unfold rateAt; rw [e2, e0]; simp]; rfl)
          clear e2
          have hfld : ∀ w', (Instr.field 100 (Value.agg #[.int .i64 x.id, .int .i64 x.nd, .int .i64 x.ifc]) 1).run Try.prog w' = .ok (.agg #[.int .i64 x.nd, .int .i64 x.ifc]) w' := fun _ => by kernel_rfl
          have d0 : (wr.alloc (Obj.cells #[Value.int .i64 x.id, Value.int .i64 x.nd, Value.int .i64 x.ifc, Value.int .i64 x.rate, Value.int .i64 x.til] 60)).cell? ⟨wr.heap.size, 0, none⟩ = some (.int .i64 x.id) := by simp [go_sem]
          have d1 : (wr.alloc (Obj.cells #[Value.int .i64 x.id, Value.int .i64 x.nd, Value.int .i64 x.ifc, Value.int .i64 x.rate, Value.int .i64 x.til] 60)).cell? ⟨wr.heap.size, 1, none⟩ = some (.int .i64 x.nd) := by simp [go_sem]
          have d2 : (wr.alloc (Obj.cells #[Value.int .i64 x.id, Value.int .i64 x.nd, Value.int .i64 x.ifc, Value.int .i64 x.rate, Value.int .i64 x.til] 60)).cell? ⟨wr.heap.size, 2, none⟩ = some (.int .i64 x.ifc) := by simp [go_sem]
          have d3 : (wr.alloc (Obj.cells #[Value.int .i64 x.id, Value.int .i64 x.nd, Value.int .i64 x.ifc, Value.int .i64 x.rate, Value.int .i64 x.til] 60)).cell? ⟨wr.heap.size, 3, none⟩ = some (.int .i64 x.rate) := by simp [go_sem]
          have d4 : (wr.alloc (Obj.cells #[Value.int .i64 x.id, Value.int .i64 x.nd, Value.int .i64 x.ifc, Value.int .i64 x.rate, Value.int .i64 x.til] 60)).cell? ⟨wr.heap.size, 4, none⟩ = some (.int .i64 x.til) := by simp [go_sem]
          have hS1 := MX.cellAt hS
          have hF1 := MX.frozenAt hS hF
          go_wp2_with fail
          refine (implActive x t _).mono ?_
          rintro e w2 ⟨he, m2⟩
          rw [HT.out] at he
          subst he
          have M2 := (hM.trans MX).trans m2
          replace d0 := m2.cellAt d0
          replace d1 := m2.cellAt d1
          replace d2 := m2.cellAt d2
          replace d3 := m2.cellAt d3
          replace d4 := m2.cellAt d4
          replace hF1 := m2.frozenAt hS1 hF1
          replace hS1 := m2.cellAt hS1
          go_wp2_with fail
          refine (implShare x _).mono ?_
          rintro e w3 ⟨rfl, m3⟩
          have M3 := M2.trans m3
          replace d0 := m3.cellAt d0
          replace d1 := m3.cellAt d1
          replace d2 := m3.cellAt d2
          replace d3 := m3.cellAt d3
          replace d4 := m3.cellAt d4
          replace hF1 := m3.frozenAt hS1 hF1
          replace hS1 := m3.cellAt hS1
          have hbs3 := World.block_lt_of_cell? _ _ hS1
          simp only at hbs3
          go_wp2_with fail
          go_roundw
          case rel => exact ⟨k + 1, by omega, by go_num, by rw [HE.out]; exact hS1, hF1, M3⟩
          case measure => simp [intOf]; omega
        · cases e1 : (x.ifc == q)
          · have HE := Lib.hid (show rateUp zs p q t (k + 1) = rateUp zs p q t k by rw [rateUp, ← hx.out, show rateAt x p q t = false by unfold rateAt; rw [e2, e0, e1]; simp]; rfl)
            clear e2
            have hfld : ∀ w', (Instr.field 100 (Value.agg #[.int .i64 x.id, .int .i64 x.nd, .int .i64 x.ifc]) 1).run Try.prog w' = .ok (.agg #[.int .i64 x.nd, .int .i64 x.ifc]) w' := fun _ => by kernel_rfl
            have d0 : (wr.alloc (Obj.cells #[Value.int .i64 x.id, Value.int .i64 x.nd, Value.int .i64 x.ifc, Value.int .i64 x.rate, Value.int .i64 x.til] 60)).cell? ⟨wr.heap.size, 0, none⟩ = some (.int .i64 x.id) := by simp [go_sem]
            have d1 : (wr.alloc (Obj.cells #[Value.int .i64 x.id, Value.int .i64 x.nd, Value.int .i64 x.ifc, Value.int .i64 x.rate, Value.int .i64 x.til] 60)).cell? ⟨wr.heap.size, 1, none⟩ = some (.int .i64 x.nd) := by simp [go_sem]
            have d2 : (wr.alloc (Obj.cells #[Value.int .i64 x.id, Value.int .i64 x.nd, Value.int .i64 x.ifc, Value.int .i64 x.rate, Value.int .i64 x.til] 60)).cell? ⟨wr.heap.size, 2, none⟩ = some (.int .i64 x.ifc) := by simp [go_sem]
            have d3 : (wr.alloc (Obj.cells #[Value.int .i64 x.id, Value.int .i64 x.nd, Value.int .i64 x.ifc, Value.int .i64 x.rate, Value.int .i64 x.til] 60)).cell? ⟨wr.heap.size, 3, none⟩ = some (.int .i64 x.rate) := by simp [go_sem]
            have d4 : (wr.alloc (Obj.cells #[Value.int .i64 x.id, Value.int .i64 x.nd, Value.int .i64 x.ifc, Value.int .i64 x.rate, Value.int .i64 x.til] 60)).cell? ⟨wr.heap.size, 4, none⟩ = some (.int .i64 x.til) := by simp [go_sem]
            have hS1 := MX.cellAt hS
            have hF1 := MX.frozenAt hS hF
            go_wp2_with fail
            refine (implActive x t _).mono ?_
            rintro e w2 ⟨he, m2⟩
            rw [HT.out] at he
            subst he
            have M2 := (hM.trans MX).trans m2
            replace d0 := m2.cellAt d0
            replace d1 := m2.cellAt d1
            replace d2 := m2.cellAt d2
            replace d3 := m2.cellAt d3
            replace d4 := m2.cellAt d4
            replace hF1 := m2.frozenAt hS1 hF1
            replace hS1 := m2.cellAt hS1
            go_wp2_with fail
            refine (implShare x _).mono ?_
            rintro e w3 ⟨rfl, m3⟩
            have M3 := M2.trans m3
            replace d0 := m3.cellAt d0
            replace d1 := m3.cellAt d1
            replace d2 := m3.cellAt d2
            replace d3 := m3.cellAt d3
            replace d4 := m3.cellAt d4
            replace hF1 := m3.frozenAt hS1 hF1
            replace hS1 := m3.cellAt hS1
            have hbs3 := World.block_lt_of_cell? _ _ hS1
            simp only at hbs3
            go_wp2_with fail
            go_roundw
            case rel => exact ⟨k + 1, by omega, by go_num, by rw [HE.out]; exact hS1, hF1, M3⟩
            case measure => simp [intOf]; omega
          · have HE := Lib.hid (show rateUp zs p q t (k + 1) = wrap64 (rateUp zs p q t k + x.rate) by rw [rateUp, ← hx.out, show rateAt x p q t = true by unfold rateAt; rw [e0, e1, e2]; rfl]; rfl)
            clear e2
            have hfld : ∀ w', (Instr.field 100 (Value.agg #[.int .i64 x.id, .int .i64 x.nd, .int .i64 x.ifc]) 1).run Try.prog w' = .ok (.agg #[.int .i64 x.nd, .int .i64 x.ifc]) w' := fun _ => by kernel_rfl
            have d0 : (wr.alloc (Obj.cells #[Value.int .i64 x.id, Value.int .i64 x.nd, Value.int .i64 x.ifc, Value.int .i64 x.rate, Value.int .i64 x.til] 60)).cell? ⟨wr.heap.size, 0, none⟩ = some (.int .i64 x.id) := by simp [go_sem]
            have d1 : (wr.alloc (Obj.cells #[Value.int .i64 x.id, Value.int .i64 x.nd, Value.int .i64 x.ifc, Value.int .i64 x.rate, Value.int .i64 x.til] 60)).cell? ⟨wr.heap.size, 1, none⟩ = some (.int .i64 x.nd) := by simp [go_sem]
            have d2 : (wr.alloc (Obj.cells #[Value.int .i64 x.id, Value.int .i64 x.nd, Value.int .i64 x.ifc, Value.int .i64 x.rate, Value.int .i64 x.til] 60)).cell? ⟨wr.heap.size, 2, none⟩ = some (.int .i64 x.ifc) := by simp [go_sem]
            have d3 : (wr.alloc (Obj.cells #[Value.int .i64 x.id, Value.int .i64 x.nd, Value.int .i64 x.ifc, Value.int .i64 x.rate, Value.int .i64 x.til] 60)).cell? ⟨wr.heap.size, 3, none⟩ = some (.int .i64 x.rate) := by simp [go_sem]
            have d4 : (wr.alloc (Obj.cells #[Value.int .i64 x.id, Value.int .i64 x.nd, Value.int .i64 x.ifc, Value.int .i64 x.rate, Value.int .i64 x.til] 60)).cell? ⟨wr.heap.size, 4, none⟩ = some (.int .i64 x.til) := by simp [go_sem]
            have hS1 := MX.cellAt hS
            have hF1 := MX.frozenAt hS hF
            go_wp2_with fail
            refine (implActive x t _).mono ?_
            rintro e w2 ⟨he, m2⟩
            rw [HT.out] at he
            subst he
            have M2 := (hM.trans MX).trans m2
            replace d0 := m2.cellAt d0
            replace d1 := m2.cellAt d1
            replace d2 := m2.cellAt d2
            replace d3 := m2.cellAt d3
            replace d4 := m2.cellAt d4
            replace hF1 := m2.frozenAt hS1 hF1
            replace hS1 := m2.cellAt hS1
            go_wp2_with fail
            refine (implShare x _).mono ?_
            rintro e w3 ⟨rfl, m3⟩
            have M3 := M2.trans m3
            replace d0 := m3.cellAt d0
            replace d1 := m3.cellAt d1
            replace d2 := m3.cellAt d2
            replace d3 := m3.cellAt d3
            replace d4 := m3.cellAt d4
            replace hF1 := m3.frozenAt hS1 hF1
            replace hS1 := m3.cellAt hS1
            have hbs3 := World.block_lt_of_cell? _ _ hS1
            simp only at hbs3
            go_wp2_with fail
            refine (implRAdd x _ _ _ hbs3 hS1 hF1).mono ?_
            rintro e w4 ⟨⟨v, rfl⟩, hS2, hF2, hM2⟩
            go_wp2_with fail
            go_roundw
            case rel => exact ⟨k + 1, by omega, by go_num, by rw [HE.out]; exact hS2, hF2, hM2 w M3 (Nat.le_refl _)⟩
            case measure => simp [intOf]; omega
    · obtain rfl : k = n := by omega
      go_wp2_with fail
      go_ret
      exact ⟨rfl, hM⟩

def rrAt (x : TReservation) (d p q t : Int) : Bool := (x.id == d) && rateAt x p q t
/-- The rate of the first that is asked for among those from k on. -/
def rrFrom (zs : List TReservation) (d p q t : Int) (n : Nat) : Nat → Int
  | 0 => 0
  | m + 1 => if rrAt (zs.getD (n - (m + 1)) default) d p q t = true then (zs.getD (n - (m + 1)) default).rate else rrFrom zs d p q t n m
theorem rrFrom_hit {zs : List TReservation} {d p q t : Int} {n k : Nat} (hk : k < n) (h : rrAt (zs.getD k default) d p q t = true) : rrFrom zs d p q t n (n - k) = (zs.getD k default).rate := by
  obtain ⟨m, hm⟩ : ∃ m, n - k = m + 1 := ⟨n - k - 1, by omega⟩
  rw [hm, rrFrom, show n - (m + 1) = k by omega, if_pos h]
theorem rrFrom_miss {zs : List TReservation} {d p q t : Int} {n k : Nat} (hk : k < n) (h : rrAt (zs.getD k default) d p q t = false) : rrFrom zs d p q t n (n - k) = rrFrom zs d p q t n (n - (k + 1)) := by
  obtain ⟨m, hm⟩ : ∃ m, n - k = m + 1 := ⟨n - k - 1, by omega⟩
  rw [hm, rrFrom, show n - (m + 1) = k by omega, if_neg (by rw [h]; decide), show n - (k + 1) = m by omega]
set_option maxRecDepth 100000 in
set_option maxHeartbeats 4000000 in
theorem specRRate (d p q t : Int) (a : Option Addr) (n c B : Nat) (zs : List TReservation) (w : World) (h : HasReservation w B a n zs) (hB : B ≤ w.heap.size) (hn : n ≤ 1048576) :
    Calls Try.prog 33 #[.slice a n c, .int .i64 d, .int .i64 p, .int .i64 q, .int .i64 t] w fun e w' => e = .returned (.int .i64 (rrFrom zs d p q t n n)) ∧ Mk0 w w' := by
  go_enter Try.func33, Try.ntmps33
  go_wp2_with fail
  go_loopw [10, 11] (fun r i wr => r = .int .i64 0 ∧ ∃ k : Nat, k ≤ n ∧ i = .int .i64 k ∧ Hid (rrFrom zs d p q t n n = rrFrom zs d p q t n (n - k)) ∧ Mk0 w wr) (fun _ i _ => n - (intOf i).toNat)
  case atStart => exact ⟨rfl, 0, Nat.zero_le _, rfl, rfl, Mk.refl _ _ _⟩
  case round =>
    obtain ⟨rfl, k, hk, rfl, hS, hM⟩ := hrel
    by_cases hlt : k < n
    · obtain ⟨b, off, x, rfl, hb, hx, c0, c1, c2, c3, c4⟩ := HasReservation.at _ _ _ _ _ _ (h.mk hM hB (.inr (Nat.le_refl _))) hlt
      cases e0 : (x.id == d)
      · have HE := Lib.hid (show rrFrom zs d p q t n n = rrFrom zs d p q t n (n - (k + 1)) by rw [hS.out]; exact rrFrom_miss hlt (by rw [← hx.out]; unfold rrAt; rw [e0]; rfl))
        go_wp2_with fail
        go_roundw
        case rel => exact ⟨rfl, k + 1, by omega, by go_num, HE.out, hM⟩
        case measure => simp [intOf]; omega
      · cases hr : rateAt x p q t
        · have HE := Lib.hid (show rrFrom zs d p q t n n = rrFrom zs d p q t n (n - (k + 1)) by rw [hS.out]; exact rrFrom_miss hlt (by rw [← hx.out]; unfold rrAt; rw [e0, hr]; rfl))
          have HO := Lib.hid hr
          clear hr
          go_wp2_with fail
          refine (specRAt x p q t _).mono ?_
          rintro e w2 ⟨he, m2⟩
          rw [HO.out] at he
          subst he
          replace c3 := m2.cellAt c3
          go_wp2_with fail
          go_roundw
          case rel => exact ⟨rfl, k + 1, by omega, by go_num, HE.out, (hM.trans m2)⟩
          case measure => simp [intOf]; omega
        · have HE := Lib.hid (show rrFrom zs d p q t n n = x.rate by rw [hS.out, rrFrom_hit hlt (by rw [← hx.out]; unfold rrAt; rw [e0, hr]; rfl), ← hx.out])
          have HO := Lib.hid hr
          clear hr
          go_wp2_with fail
          refine (specRAt x p q t _).mono ?_
          rintro e w2 ⟨he, m2⟩
          rw [HO.out] at he
          subst he
          replace c3 := m2.cellAt c3
          go_wp2_with fail
          go_ret
          exact ⟨retI HE.out.symm, hM.trans m2⟩
    · obtain rfl : k = n := by omega
      go_wp2_with fail
      go_ret
      exact ⟨retI (by rw [hS.out, Nat.sub_self]; rfl), hM⟩

set_option maxRecDepth 100000 in
set_option maxHeartbeats 4000000 in
theorem implRRate (d p q t : Int) (a : Option Addr) (n c B : Nat) (zs : List TReservation) (w : World) (h : HasReservation w B a n zs) (hB : B ≤ w.heap.size) (hn : n ≤ 1048576) :
    Calls Try.prog 51 #[.slice a n c, .int .i64 d, .int .i64 p, .int .i64 q, .int .i64 t] w fun e w' => e = .returned (.int .i64 (rrFrom zs d p q t n n)) ∧ Mk0 w w' := by
  go_enter Try.func51, Try.ntmps51
  go_wp2_with fail
  go_loopw [10, 15] (fun r i wr => r = .int .i64 0 ∧ ∃ k : Nat, k ≤ n ∧ i = .int .i64 k ∧ Hid (rrFrom zs d p q t n n = rrFrom zs d p q t n (n - k)) ∧ Mk0 w wr) (fun _ i _ => n - (intOf i).toNat)
  case atStart => exact ⟨rfl, 0, Nat.zero_le _, rfl, rfl, Mk.refl _ _ _⟩
  case round =>
    obtain ⟨rfl, k, hk, rfl, hS, hM⟩ := hrel
    by_cases hlt : k < n
    · obtain ⟨b, off, x, rfl, hb, hx, c0, c1, c2, c3, c4⟩ := HasReservation.at _ _ _ _ _ _ (h.mk hM hB (.inr (Nat.le_refl _))) hlt
      have hbr := World.block_lt_of_cell? _ _ c0
      simp only at hbr
      have MX := Mk.alloc wr (Obj.cells #[Value.int .i64 x.id, Value.int .i64 x.nd, Value.int .i64 x.ifc, Value.int .i64 x.rate, Value.int .i64 x.til] 60)
      cases e2 : decide (t ≤ x.til)
      · have HE := Lib.hid (show rrFrom zs d p q t n n = rrFrom zs d p q t n (n - (k + 1)) by rw [hS.out]; exact rrFrom_miss hlt (by rw [← hx.out]; unfold rrAt; rw [show rateAt x p q t = false by unfold rateAt; rw [e2]; simp]; simp))
        have HT := Lib.hid e2
        clear e2
        have d0 : (wr.alloc (Obj.cells #[Value.int .i64 x.id, Value.int .i64 x.nd, Value.int .i64 x.ifc, Value.int .i64 x.rate, Value.int .i64 x.til] 60)).cell? ⟨wr.heap.size, 0, none⟩ = some (.int .i64 x.id) := by simp [go_sem]
        have d1 : (wr.alloc (Obj.cells #[Value.int .i64 x.id, Value.int .i64 x.nd, Value.int .i64 x.ifc, Value.int .i64 x.rate, Value.int .i64 x.til] 60)).cell? ⟨wr.heap.size, 1, none⟩ = some (.int .i64 x.nd) := by simp [go_sem]
        have d2 : (wr.alloc (Obj.cells #[Value.int .i64 x.id, Value.int .i64 x.nd, Value.int .i64 x.ifc, Value.int .i64 x.rate, Value.int .i64 x.til] 60)).cell? ⟨wr.heap.size, 2, none⟩ = some (.int .i64 x.ifc) := by simp [go_sem]
        have d3 : (wr.alloc (Obj.cells #[Value.int .i64 x.id, Value.int .i64 x.nd, Value.int .i64 x.ifc, Value.int .i64 x.rate, Value.int .i64 x.til] 60)).cell? ⟨wr.heap.size, 3, none⟩ = some (.int .i64 x.rate) := by simp [go_sem]
        have d4 : (wr.alloc (Obj.cells #[Value.int .i64 x.id, Value.int .i64 x.nd, Value.int .i64 x.ifc, Value.int .i64 x.rate, Value.int .i64 x.til] 60)).cell? ⟨wr.heap.size, 4, none⟩ = some (.int .i64 x.til) := by simp [go_sem]
        go_wp2_with fail
        refine (implActive x t _).mono ?_
        rintro e w2 ⟨he, m2⟩
        rw [HT.out] at he
        subst he
        have M2 := (hM.trans MX).trans m2
        replace d0 := m2.cellAt d0
        replace d1 := m2.cellAt d1
        replace d2 := m2.cellAt d2
        replace d3 := m2.cellAt d3
        replace d4 := m2.cellAt d4
        go_wp2_with fail
        go_roundw
        case rel => exact ⟨rfl, k + 1, by omega, by go_num, HE.out, M2⟩
        case measure => simp [intOf]; omega
      · have HT := Lib.hid e2
        cases e3 : (x.id == d)
        · have HE := Lib.hid (show rrFrom zs d p q t n n = rrFrom zs d p q t n (n - (k + 1)) by rw [hS.out]; exact rrFrom_miss hlt (by rw [← hx.out]; unfold rrAt; rw [e3]; rfl))
          clear e2
          have d0 : (wr.alloc (Obj.cells #[Value.int .i64 x.id, Value.int .i64 x.nd, Value.int .i64 x.ifc, Value.int .i64 x.rate, Value.int .i64 x.til] 60)).cell? ⟨wr.heap.size, 0, none⟩ = some (.int .i64 x.id) := by simp [go_sem]
          have d1 : (wr.alloc (Obj.cells #[Value.int .i64 x.id, Value.int .i64 x.nd, Value.int .i64 x.ifc, Value.int .i64 x.rate, Value.int .i64 x.til] 60)).cell? ⟨wr.heap.size, 1, none⟩ = some (.int .i64 x.nd) := by simp [go_sem]
          have d2 : (wr.alloc (Obj.cells #[Value.int .i64 x.id, Value.int .i64 x.nd, Value.int .i64 x.ifc, Value.int .i64 x.rate, Value.int .i64 x.til] 60)).cell? ⟨wr.heap.size, 2, none⟩ = some (.int .i64 x.ifc) := by simp [go_sem]
          have d3 : (wr.alloc (Obj.cells #[Value.int .i64 x.id, Value.int .i64 x.nd, Value.int .i64 x.ifc, Value.int .i64 x.rate, Value.int .i64 x.til] 60)).cell? ⟨wr.heap.size, 3, none⟩ = some (.int .i64 x.rate) := by simp [go_sem]
          have d4 : (wr.alloc (Obj.cells #[Value.int .i64 x.id, Value.int .i64 x.nd, Value.int .i64 x.ifc, Value.int .i64 x.rate, Value.int .i64 x.til] 60)).cell? ⟨wr.heap.size, 4, none⟩ = some (.int .i64 x.til) := by simp [go_sem]
          go_wp2_with fail
          refine (implActive x t _).mono ?_
          rintro e w2 ⟨he, m2⟩
          rw [HT.out] at he
          subst he
          have M2 := (hM.trans MX).trans m2
          replace d0 := m2.cellAt d0
          replace d1 := m2.cellAt d1
          replace d2 := m2.cellAt d2
          replace d3 := m2.cellAt d3
          replace d4 := m2.cellAt d4
          go_wp2_with fail
          refine (implShare x _).mono ?_
          rintro e w3 ⟨rfl, m3⟩
          have M3 := M2.trans m3
          replace d0 := m3.cellAt d0
          replace d1 := m3.cellAt d1
          replace d2 := m3.cellAt d2
          replace d3 := m3.cellAt d3
          replace d4 := m3.cellAt d4
          go_wp2_with fail
          go_roundw
          case rel => exact ⟨rfl, k + 1, by omega, by go_num, HE.out, M3⟩
          case measure => simp [intOf]; omega
        · cases e0 : (x.nd == p)
          · have HE := Lib.hid (show rrFrom zs d p q t n n = rrFrom zs d p q t n (n - (k + 1)) by rw [hS.out]; exact rrFrom_miss hlt (by rw [← hx.out]; unfold rrAt; rw [show rateAt x p q t = false by unfold rateAt; rw [e0]; simp]; simp))
            clear e2
            have d0 : (wr.alloc (Obj.cells #[Value.int .i64 x.id, Value.int .i64 x.nd, Value.int .i64 x.ifc, Value.int .i64 x.rate, Value.int .i64 x.til] 60)).cell? ⟨wr.heap.size, 0, none⟩ = some (.int .i64 x.id) := by simp [go_sem]
            have d1 : (wr.alloc (Obj.cells #[Value.int .i64 x.id, Value.int .i64 x.nd, Value.int .i64 x.ifc, Value.int .i64 x.rate, Value.int .i64 x.til] 60)).cell? ⟨wr.heap.size, 1, none⟩ = some (.int .i64 x.nd) := by simp [go_sem]
            have d2 : (wr.alloc (Obj.cells #[Value.int .i64 x.id, Value.int .i64 x.nd, Value.int .i64 x.ifc, Value.int .i64 x.rate, Value.int .i64 x.til] 60)).cell? ⟨wr.heap.size, 2, none⟩ = some (.int .i64 x.ifc) := by simp [go_sem]
            have d3 : (wr.alloc (Obj.cells #[Value.int .i64 x.id, Value.int .i64 x.nd, Value.int .i64 x.ifc, Value.int .i64 x.rate, Value.int .i64 x.til] 60)).cell? ⟨wr.heap.size, 3, none⟩ = some (.int .i64 x.rate) := by simp [go_sem]
            have d4 : (wr.alloc (Obj.cells #[Value.int .i64 x.id, Value.int .i64 x.nd, Value.int .i64 x.ifc, Value.int .i64 x.rate, Value.int .i64 x.til] 60)).cell? ⟨wr.heap.size, 4, none⟩ = some (.int .i64 x.til) := by simp [go_sem]
            go_wp2_with fail
            refine (implActive x t _).mono ?_
            rintro e w2 ⟨he, m2⟩
            rw [HT.out] at he
            subst he
            have M2 := (hM.trans MX).trans m2
            replace d0 := m2.cellAt d0
            replace d1 := m2.cellAt d1
            replace d2 := m2.cellAt d2
            replace d3 := m2.cellAt d3
            replace d4 := m2.cellAt d4
            go_wp2_with fail
            refine (implShare x _).mono ?_
            rintro e w3 ⟨rfl, m3⟩
            have M3 := M2.trans m3
            replace d0 := m3.cellAt d0
            replace d1 := m3.cellAt d1
            replace d2 := m3.cellAt d2
            replace d3 := m3.cellAt d3
            replace d4 := m3.cellAt d4
            go_wp2_with fail
            go_roundw
            case rel => exact ⟨rfl, k + 1, by omega, by go_num, HE.out, M3⟩
            case measure => simp [intOf]; omega
          · cases e1 : (x.ifc == q)
            · have HE := Lib.hid (show rrFrom zs d p q t n n = rrFrom zs d p q t n (n - (k + 1)) by rw [hS.out]; exact rrFrom_miss hlt (by rw [← hx.out]; unfold rrAt; rw [show rateAt x p q t = false by unfold rateAt; rw [e0, e1]; simp]; simp))
              clear e2
              have d0 : (wr.alloc (Obj.cells #[Value.int .i64 x.id, Value.int .i64 x.nd, Value.int .i64 x.ifc, Value.int .i64 x.rate, Value.int .i64 x.til] 60)).cell? ⟨wr.heap.size, 0, none⟩ = some (.int .i64 x.id) := by simp [go_sem]
              have d1 : (wr.alloc (Obj.cells #[Value.int .i64 x.id, Value.int .i64 x.nd, Value.int .i64 x.ifc, Value.int .i64 x.rate, Value.int .i64 x.til] 60)).cell? ⟨wr.heap.size, 1, none⟩ = some (.int .i64 x.nd) := by simp [go_sem]
              have d2 : (wr.alloc (Obj.cells #[Value.int .i64 x.id, Value.int .i64 x.nd, Value.int .i64 x.ifc, Value.int .i64 x.rate, Value.int .i64 x.til] 60)).cell? ⟨wr.heap.size, 2, none⟩ = some (.int .i64 x.ifc) := by simp [go_sem]
              have d3 : (wr.alloc (Obj.cells #[Value.int .i64 x.id, Value.int .i64 x.nd, Value.int .i64 x.ifc, Value.int .i64 x.rate, Value.int .i64 x.til] 60)).cell? ⟨wr.heap.size, 3, none⟩ = some (.int .i64 x.rate) := by simp [go_sem]
              have d4 : (wr.alloc (Obj.cells #[Value.int .i64 x.id, Value.int .i64 x.nd, Value.int .i64 x.ifc, Value.int .i64 x.rate, Value.int .i64 x.til] 60)).cell? ⟨wr.heap.size, 4, none⟩ = some (.int .i64 x.til) := by simp [go_sem]
              go_wp2_with fail
              refine (implActive x t _).mono ?_
              rintro e w2 ⟨he, m2⟩
              rw [HT.out] at he
              subst he
              have M2 := (hM.trans MX).trans m2
              replace d0 := m2.cellAt d0
              replace d1 := m2.cellAt d1
              replace d2 := m2.cellAt d2
              replace d3 := m2.cellAt d3
              replace d4 := m2.cellAt d4
              go_wp2_with fail
              refine (implShare x _).mono ?_
              rintro e w3 ⟨rfl, m3⟩
              have M3 := M2.trans m3
              replace d0 := m3.cellAt d0
              replace d1 := m3.cellAt d1
              replace d2 := m3.cellAt d2
              replace d3 := m3.cellAt d3
              replace d4 := m3.cellAt d4
              go_wp2_with fail
              go_roundw
              case rel => exact ⟨rfl, k + 1, by omega, by go_num, HE.out, M3⟩
              case measure => simp [intOf]; omega
            · have HE := Lib.hid (show rrFrom zs d p q t n n = x.rate by rw [hS.out, rrFrom_hit hlt (by rw [← hx.out]; unfold rrAt; rw [e3, show rateAt x p q t = true by unfold rateAt; rw [e0, e1, e2]; rfl]; rfl), ← hx.out])
              clear e2
              have d0 : (wr.alloc (Obj.cells #[Value.int .i64 x.id, Value.int .i64 x.nd, Value.int .i64 x.ifc, Value.int .i64 x.rate, Value.int .i64 x.til] 60)).cell? ⟨wr.heap.size, 0, none⟩ = some (.int .i64 x.id) := by simp [go_sem]
              have d1 : (wr.alloc (Obj.cells #[Value.int .i64 x.id, Value.int .i64 x.nd, Value.int .i64 x.ifc, Value.int .i64 x.rate, Value.int .i64 x.til] 60)).cell? ⟨wr.heap.size, 1, none⟩ = some (.int .i64 x.nd) := by simp [go_sem]
              have d2 : (wr.alloc (Obj.cells #[Value.int .i64 x.id, Value.int .i64 x.nd, Value.int .i64 x.ifc, Value.int .i64 x.rate, Value.int .i64 x.til] 60)).cell? ⟨wr.heap.size, 2, none⟩ = some (.int .i64 x.ifc) := by simp [go_sem]
              have d3 : (wr.alloc (Obj.cells #[Value.int .i64 x.id, Value.int .i64 x.nd, Value.int .i64 x.ifc, Value.int .i64 x.rate, Value.int .i64 x.til] 60)).cell? ⟨wr.heap.size, 3, none⟩ = some (.int .i64 x.rate) := by simp [go_sem]
              have d4 : (wr.alloc (Obj.cells #[Value.int .i64 x.id, Value.int .i64 x.nd, Value.int .i64 x.ifc, Value.int .i64 x.rate, Value.int .i64 x.til] 60)).cell? ⟨wr.heap.size, 4, none⟩ = some (.int .i64 x.til) := by simp [go_sem]
              go_wp2_with fail
              refine (implActive x t _).mono ?_
              rintro e w2 ⟨he, m2⟩
              rw [HT.out] at he
              subst he
              have M2 := (hM.trans MX).trans m2
              replace d0 := m2.cellAt d0
              replace d1 := m2.cellAt d1
              replace d2 := m2.cellAt d2
              replace d3 := m2.cellAt d3
              replace d4 := m2.cellAt d4
              go_wp2_with fail
              refine (implShare x _).mono ?_
              rintro e w3 ⟨rfl, m3⟩
              have M3 := M2.trans m3
              replace d0 := m3.cellAt d0
              replace d1 := m3.cellAt d1
              replace d2 := m3.cellAt d2
              replace d3 := m3.cellAt d3
              replace d4 := m3.cellAt d4
              go_wp2_with fail
              go_ret
              exact ⟨retI HE.out.symm, M3⟩
    · obtain rfl : k = n := by omega
      go_wp2_with fail
      go_ret
      exact ⟨retI (by rw [hS.out, Nat.sub_self]; rfl), hM⟩

def frV (y : Int) : Int := if 0 < y then y else 0
set_option maxRecDepth 100000 in
set_option maxHeartbeats 4000000 in
theorem specMax0 (y : Int) (w : World) : Calls Try.prog 54 #[.int .i64 0, .int .i64 y] w fun e w' => e = .returned (.int .i64 (frV y)) ∧ Mk0 w w' := by
  by_cases c : 0 < y
  · have hv : frV y = y := if_pos c
    have HV := Lib.hid hv
    clear hv
    go_enter Try.func54, Try.ntmps54
    go_wp2
    all_goals (go_ret; exact ⟨ret_i HV.out.symm, Mk.refl _ _ _⟩)
  · by_cases c2 : y < 0
    · have hv : frV y = 0 := if_neg c
      have HV := Lib.hid hv
      clear hv
      clear c
      go_enter Try.func54, Try.ntmps54
      go_wp2
      all_goals (go_ret; exact ⟨ret_i HV.out.symm, Mk.refl _ _ _⟩)
    · obtain rfl : y = 0 := by omega
      have hv : frV 0 = 0 := if_neg c
      have HV := Lib.hid hv
      clear hv
      clear c c2
      go_enter Try.func54, Try.ntmps54
      go_wp2
      all_goals (go_ret; exact ⟨ret_i HV.out.symm, Mk.refl _ _ _⟩)

set_option maxRecDepth 100000 in
set_option maxHeartbeats 4000000 in
theorem specFree (g p q t : Int) (a : Option Addr) (n c B : Nat) (zs : List TReservation) (w : World) (h : HasReservation w B a n zs) (hB : B ≤ w.heap.size) (hn : n ≤ 1048576) :
    Calls Try.prog 39 #[.slice a n c, .int .i64 g, .int .i64 p, .int .i64 q, .int .i64 t] w fun e w' => e = .returned (.int .i64 (frV (wrap64 (g - rateUp zs p q t n)))) ∧ Mk0 w w' := by
  go_enter Try.func39, Try.ntmps39
  go_wp2_with fail
  refine (specRated p q t a n c B zs _ h hB hn).mono ?_
  rintro e w2 ⟨rfl, m2⟩
  go_wp2_with fail
  refine (specMax0 _ _).mono ?_
  rintro e w3 ⟨rfl, m3⟩
  go_wp2_with fail
  go_ret
  exact ⟨rfl, m2.trans m3⟩

set_option maxRecDepth 100000 in
set_option maxHeartbeats 4000000 in
theorem implMax0 (y : Int) (w : World) : Calls Try.prog 56 #[.int .i64 y, .int .i64 0] w fun e w' => e = .returned (.int .i64 (frV y)) ∧ Mk0 w w' := by
  by_cases c : 0 < y
  · have hv : frV y = y := if_pos c
    have HV := Lib.hid hv
    clear hv
    go_enter Try.func56, Try.ntmps56
    go_wp2
    go_rounds 2
    all_goals (go_ret; exact ⟨ret_i HV.out.symm, Mk.of_below (by go_grown)⟩)
  · by_cases c2 : y < 0
    · have hv : frV y = 0 := if_neg c
      have HV := Lib.hid hv
      clear hv
      clear c
      go_enter Try.func56, Try.ntmps56
      go_wp2
      go_rounds 2
      all_goals (go_ret; exact ⟨ret_i HV.out.symm, Mk.of_below (by go_grown)⟩)
    · obtain rfl : y = 0 := by omega
      have hv : frV 0 = 0 := if_neg c
      have HV := Lib.hid hv
      clear hv
      clear c c2
      go_enter Try.func56, Try.ntmps56
      go_wp2
      go_rounds 2
      all_goals (go_ret; exact ⟨ret_i HV.out.symm, Mk.of_below (by go_grown)⟩)

set_option maxRecDepth 100000 in
set_option maxHeartbeats 4000000 in
theorem implFree (g p q t : Int) (a : Option Addr) (n c B : Nat) (zs : List TReservation) (w : World) (h : HasReservation w B a n zs) (hB : B ≤ w.heap.size) (hn : n ≤ 1048576) :
    Calls Try.prog 40 #[.slice a n c, .int .i64 g, .int .i64 p, .int .i64 q, .int .i64 t] w fun e w' => e = .returned (.int .i64 (frV (wrap64 (g - rateUp zs p q t n)))) ∧ Mk0 w w' := by
  go_enter Try.func40, Try.ntmps40
  go_wp2_with fail
  refine (implRated p q t a n c B zs _ h hB hn).mono ?_
  rintro e w2 ⟨rfl, m2⟩
  go_wp2_with fail
  refine (implMax0 _ _).mono ?_
  rintro e w3 ⟨rfl, m3⟩
  go_wp2_with fail
  go_ret
  exact ⟨rfl, m2.trans m3⟩

end Go.Proofs.Ytldnfjpdhmjhoaa
