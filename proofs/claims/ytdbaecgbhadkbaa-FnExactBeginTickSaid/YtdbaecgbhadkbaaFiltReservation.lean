
/- What a test lets pass of a row of Reservation, of both sides. -/
import Derived.Test.YtdbaecgbhadkbaaSReservation
import Derived.Test.YtdbaecgbhadkbaaAppR
import Derived.Test.YtdbaecgbhadkbaaRet
import Derived.Laws.EntriesVeiled
namespace Go.Proofs.Ytdbaecgbhadkbaa
open Go.ChangeShapes Go.WideShapes Go.ChangeAt Go.RowKit
set_option linter.unusedVariables false
theorem oneReservation : ∀ (x : TReservation) (j : Nat), (TReservation.cell x j).oneCell' = true := fun x j => by unfold TReservation.cell; split <;> rfl
def pActR (t : Int) (x : TReservation) : Bool := decide (t ≤ x.til)
def pRel (d : Int) (x : TReservation) : Bool := (x.id != d)
set_option maxRecDepth 100000 in
set_option maxHeartbeats 4000000 in
theorem specActR (t : Int) (a : Option Addr) (n c B : Nat) (zs : List TReservation) (w : World) (h : HasReservation w B a n zs) (hB : B ≤ w.heap.size) (hn : n ≤ 1048576) :
    Calls Try.prog 47 #[.slice a n c, .int .i64 t] w (OutRows 5 TReservation.cell w (filtUp (pActR t) zs n)) := by
  obtain ⟨i0, hi0, hz0, hz1, hz2⟩ := info_parts infoRReservation
  go_enter Try.func47, Try.ntmps47
  go_wp2_with fail
  have hl0 := own_emptyR w 59 5
  have ML := Mk.alloc w (.cells #[] 59)
  go_loopw [5, 6] (fun v i wr => ∃ k : Nat, k ≤ n ∧ i = .int .i64 k ∧ wr.ownsRow w.heap.size 59 5 v (filtUp (pActR t) zs k).length (rowC 5 TReservation.cell (filtUp (pActR t) zs k)) ∧ Mk0 w wr) (fun _ i _ => n - (intOf i).toNat)
  case atStart => exact ⟨0, Nat.zero_le _, rfl, hl0, ML⟩
  case round =>
    clear hl0 ML
    obtain ⟨k, hk, rfl, hown, hM⟩ := hrel
    by_cases hlt : k < n
    · obtain ⟨b, off, x, rfl, hb, hx, c0, c1, c2, c3, c4⟩ := HasReservation.at _ _ _ _ _ _ (h.mk hM hB (.inr (Nat.le_refl _))) hlt
      have hbr := World.block_lt_of_cell? _ _ c0
      simp only at hbr
      have hcl := filtUp_le (pActR t) zs k
      cases hp : pActR t x
      · have HE := Lib.hid (show filtUp (pActR t) zs (k + 1) = filtUp (pActR t) zs k by rw [filtUp, ← hx.out, hp]; rfl)
        have hq : x.til < t := by have := of_decide_eq_false hp; omega
        go_wp2_with fail
        go_roundw
        case rel => exact ⟨k + 1, by omega, by go_num, by rw [HE.out]; exact hown, hM⟩
        case measure => simp [intOf]; omega
      · have HE := Lib.hid (show filtUp (pActR t) zs (k + 1) = filtUp (pActR t) zs k ++ [x] by rw [filtUp, ← hx.out, hp]; rfl)
        have hq : t ≤ x.til := of_decide_eq_true hp
        have MX := Mk.alloc wr (Obj.cells #[Value.int .i64 x.id, Value.int .i64 x.nd, Value.int .i64 x.ifc, Value.int .i64 x.rate, Value.int .i64 x.til] 59)
        have ho3 := own_keptR hown MX
        have hh3 := hasR_new (cell := TReservation.cell) (nc := 5) (by decide) wr 59 x #[Value.int .i64 x.id, Value.int .i64 x.nd, Value.int .i64 x.ifc, Value.int .i64 x.rate, Value.int .i64 x.til] (fun j hj => by match j, hj with | 0, _ => rfl | 1, _ => rfl | 2, _ => rfl | 3, _ => rfl | 4, _ => rfl)
        have hlo := (hM.trans MX).size
        obtain ⟨L, hL⟩ : ∃ L, Hid (L = (filtUp (pActR t) zs k).length) := ⟨_, rfl⟩
        rw [← hL.out] at ho3 hcl
        go_wp2_with (at_builtin; refine wpList_appR (by decide) oneReservation rfl (.tmp 21) (.tmp 26) 55 rfl w.heap.size 59 i0 _ Try.underlying55 hi0 hz0 rfl hz1 (by rw [hz2]; decide) _ (filtUp (pActR t) zs k) L rfl ho3 _ 1 1 [x] rfl (fun h => by cases h) hh3 (by omega) hlo ?_; intro v2 w2 hown2 hgr2)
        have M2 := (hM.trans MX).appR hgr2 (fun g hg => (ho3.lt g hg).1)
        go_wp2_with fail
        go_roundw
        case rel => exact ⟨k + 1, by omega, by go_num, by rw [HE.out, List.length_append, ← hL.out]; exact hown2, M2⟩
        case measure => simp [intOf]; omega
    · obtain rfl : k = n := by omega
      go_wp2_with fail
      go_ret
      exact OutRows.of (by decide) hown hM

set_option maxRecDepth 100000 in
set_option maxHeartbeats 4000000 in
theorem implActiveF (x : TReservation) (t : Int) (w : World) : Calls Try.prog 97 #[.agg #[.int .i64 x.id, .int .i64 x.nd, .int .i64 x.ifc, .int .i64 x.rate, .int .i64 x.til], .int .i64 t] w fun e w' => e = .returned (.bool (decide (t ≤ x.til))) ∧ Mk0 w w' := by
  go_enter Try.func97, Try.ntmps97
  go_wp2_with fail
  go_ret
  exact ⟨rfl, Mk.of_below (by go_grown)⟩

set_option maxRecDepth 100000 in
set_option maxHeartbeats 4000000 in
theorem implActRP (t : Int) (bb : Nat) (x : TReservation) (w : World) (hc : w.cell? ⟨bb, 0, none⟩ = some (.int .i64 t)) :
    Calls Try.prog 102 #[.agg #[.int .i64 x.id, .int .i64 x.nd, .int .i64 x.ifc, .int .i64 x.rate, .int .i64 x.til], .pointer (some ⟨bb, 0, none⟩)] w fun e w' => e = .returned (.bool (pActR t x)) ∧ Mk0 w w' := by
  have hbb := World.block_lt_of_cell? _ _ hc
  simp only at hbb
  have hc1 := (Mk.alloc w (Obj.cells #[Value.int .i64 x.id, Value.int .i64 x.nd, Value.int .i64 x.ifc, Value.int .i64 x.rate, Value.int .i64 x.til] 59)).cellAt hc
  go_enter Try.func102, Try.ntmps102
  go_wp2_with fail
  refine (implActiveF x t _).mono ?_
  rintro e w2 ⟨rfl, m2⟩
  go_wp2_with fail
  go_ret
  exact ⟨rfl, (Mk.alloc _ _).trans m2⟩

set_option maxRecDepth 100000 in
set_option maxHeartbeats 4000000 in
theorem implActRF (t : Int) (bb : Nat) (a : Option Addr) (n c B : Nat) (zs : List TReservation) (w : World) (h : HasReservation w B a n zs) (hB : B ≤ w.heap.size) (hn : n ≤ 1048576) (hc : w.cell? ⟨bb, 0, none⟩ = some (.int .i64 t)) :
    Calls Try.prog 93 #[.slice a n c, .func (.func 102) #[] #[.pointer (some ⟨bb, 0, none⟩)]] w (OutRows 5 TReservation.cell w (filtUp (pActR t) zs n)) := by
  obtain ⟨i0, hi0, hz0, hz1, hz2⟩ := info_parts infoRReservation
  go_enter Try.func93, Try.ntmps93
  go_wp2_with fail
  have hl0 := own_emptyR w 59 5
  have ML := Mk.alloc w (.cells #[] 59)
  go_loopw [5, 11] (fun v i wr => ∃ k : Nat, k ≤ n ∧ i = .int .i64 k ∧ wr.ownsRow w.heap.size 59 5 v (filtUp (pActR t) zs k).length (rowC 5 TReservation.cell (filtUp (pActR t) zs k)) ∧ Mk0 w wr) (fun _ i _ => n - (intOf i).toNat)
  case atStart => exact ⟨0, Nat.zero_le _, rfl, hl0, ML⟩
  case round =>
    clear hl0 ML
    obtain ⟨k, hk, rfl, hown, hM⟩ := hrel
    by_cases hlt : k < n
    · obtain ⟨b, off, x, rfl, hb, hx, c0, c1, c2, c3, c4⟩ := HasReservation.at _ _ _ _ _ _ (h.mk hM hB (.inr (Nat.le_refl _))) hlt
      have hbr := World.block_lt_of_cell? _ _ c0
      simp only at hbr
      have hcl := filtUp_le (pActR t) zs k
      cases hp : pActR t x
      · have HE := Lib.hid (show filtUp (pActR t) zs (k + 1) = filtUp (pActR t) zs k by rw [filtUp, ← hx.out, hp]; rfl)
        have d0 : (wr.alloc (Obj.cells #[Value.int .i64 x.id, Value.int .i64 x.nd, Value.int .i64 x.ifc, Value.int .i64 x.rate, Value.int .i64 x.til] 59)).cell? ⟨wr.heap.size, 0, none⟩ = some (.int .i64 x.id) := by simp [go_sem]
        have d1 : (wr.alloc (Obj.cells #[Value.int .i64 x.id, Value.int .i64 x.nd, Value.int .i64 x.ifc, Value.int .i64 x.rate, Value.int .i64 x.til] 59)).cell? ⟨wr.heap.size, 1, none⟩ = some (.int .i64 x.nd) := by simp [go_sem]
        have d2 : (wr.alloc (Obj.cells #[Value.int .i64 x.id, Value.int .i64 x.nd, Value.int .i64 x.ifc, Value.int .i64 x.rate, Value.int .i64 x.til] 59)).cell? ⟨wr.heap.size, 2, none⟩ = some (.int .i64 x.ifc) := by simp [go_sem]
        have d3 : (wr.alloc (Obj.cells #[Value.int .i64 x.id, Value.int .i64 x.nd, Value.int .i64 x.ifc, Value.int .i64 x.rate, Value.int .i64 x.til] 59)).cell? ⟨wr.heap.size, 3, none⟩ = some (.int .i64 x.rate) := by simp [go_sem]
        have d4 : (wr.alloc (Obj.cells #[Value.int .i64 x.id, Value.int .i64 x.nd, Value.int .i64 x.ifc, Value.int .i64 x.rate, Value.int .i64 x.til] 59)).cell? ⟨wr.heap.size, 4, none⟩ = some (.int .i64 x.til) := by simp [go_sem]
        have MX0 := Mk.alloc wr (Obj.cells #[Value.int .i64 x.id, Value.int .i64 x.nd, Value.int .i64 x.ifc, Value.int .i64 x.rate, Value.int .i64 x.til] 59)
        have hc1 := MX0.cellAt (hM.cellAt hc)
        go_wp2_with fail
        refine (implActRP t bb x _ hc1).mono ?_
        rintro e w2 ⟨he, m2⟩
        rw [hp] at he
        subst he
        have M1 := (hM.trans MX0).trans m2
        replace d0 := m2.cellAt d0
        replace d1 := m2.cellAt d1
        replace d2 := m2.cellAt d2
        replace d3 := m2.cellAt d3
        replace d4 := m2.cellAt d4
        have ho2 := own_keptR (own_keptR hown MX0) m2
        go_wp2_with fail
        go_roundw
        case rel => exact ⟨k + 1, by omega, by go_num, by rw [HE.out]; exact ho2, M1⟩
        case measure => simp [intOf]; omega
      · have HE := Lib.hid (show filtUp (pActR t) zs (k + 1) = filtUp (pActR t) zs k ++ [x] by rw [filtUp, ← hx.out, hp]; rfl)
        have d0 : (wr.alloc (Obj.cells #[Value.int .i64 x.id, Value.int .i64 x.nd, Value.int .i64 x.ifc, Value.int .i64 x.rate, Value.int .i64 x.til] 59)).cell? ⟨wr.heap.size, 0, none⟩ = some (.int .i64 x.id) := by simp [go_sem]
        have d1 : (wr.alloc (Obj.cells #[Value.int .i64 x.id, Value.int .i64 x.nd, Value.int .i64 x.ifc, Value.int .i64 x.rate, Value.int .i64 x.til] 59)).cell? ⟨wr.heap.size, 1, none⟩ = some (.int .i64 x.nd) := by simp [go_sem]
        have d2 : (wr.alloc (Obj.cells #[Value.int .i64 x.id, Value.int .i64 x.nd, Value.int .i64 x.ifc, Value.int .i64 x.rate, Value.int .i64 x.til] 59)).cell? ⟨wr.heap.size, 2, none⟩ = some (.int .i64 x.ifc) := by simp [go_sem]
        have d3 : (wr.alloc (Obj.cells #[Value.int .i64 x.id, Value.int .i64 x.nd, Value.int .i64 x.ifc, Value.int .i64 x.rate, Value.int .i64 x.til] 59)).cell? ⟨wr.heap.size, 3, none⟩ = some (.int .i64 x.rate) := by simp [go_sem]
        have d4 : (wr.alloc (Obj.cells #[Value.int .i64 x.id, Value.int .i64 x.nd, Value.int .i64 x.ifc, Value.int .i64 x.rate, Value.int .i64 x.til] 59)).cell? ⟨wr.heap.size, 4, none⟩ = some (.int .i64 x.til) := by simp [go_sem]
        have MX0 := Mk.alloc wr (Obj.cells #[Value.int .i64 x.id, Value.int .i64 x.nd, Value.int .i64 x.ifc, Value.int .i64 x.rate, Value.int .i64 x.til] 59)
        have hc1 := MX0.cellAt (hM.cellAt hc)
        go_wp2_with fail
        refine (implActRP t bb x _ hc1).mono ?_
        rintro e w2 ⟨he, m2⟩
        rw [hp] at he
        subst he
        have M1 := (hM.trans MX0).trans m2
        replace d0 := m2.cellAt d0
        replace d1 := m2.cellAt d1
        replace d2 := m2.cellAt d2
        replace d3 := m2.cellAt d3
        replace d4 := m2.cellAt d4
        have ho2 := own_keptR (own_keptR hown MX0) m2
        have MX := Mk.alloc w2 (Obj.cells #[Value.int .i64 x.id, Value.int .i64 x.nd, Value.int .i64 x.ifc, Value.int .i64 x.rate, Value.int .i64 x.til] 59)
        have ho3 := own_keptR ho2 MX
        have hh3 := hasR_new (cell := TReservation.cell) (nc := 5) (by decide) w2 59 x #[Value.int .i64 x.id, Value.int .i64 x.nd, Value.int .i64 x.ifc, Value.int .i64 x.rate, Value.int .i64 x.til] (fun j hj => by match j, hj with | 0, _ => rfl | 1, _ => rfl | 2, _ => rfl | 3, _ => rfl | 4, _ => rfl)
        have hlo := (M1.trans MX).size
        have hb2 := World.block_lt_of_cell? _ _ d0
        simp only at hb2
        obtain ⟨L, hL⟩ : ∃ L, Hid (L = (filtUp (pActR t) zs k).length) := ⟨_, rfl⟩
        rw [← hL.out] at ho3 hcl
        go_wp2_with (at_builtin; refine wpList_appR (by decide) oneReservation rfl (.tmp 18) (.tmp 20) 55 rfl w.heap.size 59 i0 _ Try.underlying55 hi0 hz0 rfl hz1 (by rw [hz2]; decide) _ (filtUp (pActR t) zs k) L rfl ho3 _ 1 1 [x] rfl (fun h => by cases h) hh3 (by omega) hlo ?_; intro v2 w3 hown2 hgr2)
        have M2 := (M1.trans MX).appR hgr2 (fun g hg => (ho3.lt g hg).1)
        go_wp2_with fail
        go_roundw
        case rel => exact ⟨k + 1, by omega, by go_num, by rw [HE.out, List.length_append, ← hL.out]; exact hown2, M2⟩
        case measure => simp [intOf]; omega
    · obtain rfl : k = n := by omega
      go_wp2_with fail
      go_ret
      exact OutRows.of (by decide) hown hM

set_option maxRecDepth 100000 in
set_option maxHeartbeats 4000000 in
theorem implActR (t : Int) (a : Option Addr) (n c B : Nat) (zs : List TReservation) (w : World) (h : HasReservation w B a n zs) (hB : B ≤ w.heap.size) (hn : n ≤ 1048576) :
    Calls Try.prog 48 #[.slice a n c, .int .i64 t] w (OutRows 5 TReservation.cell w (filtUp (pActR t) zs n)) := by
  have M0 := Mk.alloc w (Obj.cells #[Value.int .i64 t] 3)
  go_enter Try.func48, Try.ntmps48
  go_wp2_with fail
  refine (implActRF t w.heap.size a n c B zs _ (h.mk M0 hB (.inr (Nat.le_refl _))) (Nat.le_trans hB M0.size) hn (by simp [go_sem])).mono ?_
  rintro e w2 ⟨A, N, cc, rfl, hcc, ho, m2⟩
  go_wp2_with fail
  go_ret
  exact ⟨A, N, cc, rfl, hcc, ho.wide M0.size (Nat.le_refl _), M0.trans m2⟩

set_option maxRecDepth 100000 in
set_option maxHeartbeats 4000000 in
theorem specRel (d : Int) (a : Option Addr) (n c B : Nat) (zs : List TReservation) (w : World) (h : HasReservation w B a n zs) (hB : B ≤ w.heap.size) (hn : n ≤ 1048576) :
    Calls Try.prog 45 #[.slice a n c, .int .i64 d] w (OutRows 5 TReservation.cell w (filtUp (pRel d) zs n)) := by
  obtain ⟨i0, hi0, hz0, hz1, hz2⟩ := info_parts infoRReservation
  go_enter Try.func45, Try.ntmps45
  go_wp2_with fail
  have hl0 := own_emptyR w 59 5
  have ML := Mk.alloc w (.cells #[] 59)
  go_loopw [5, 6] (fun v i wr => ∃ k : Nat, k ≤ n ∧ i = .int .i64 k ∧ wr.ownsRow w.heap.size 59 5 v (filtUp (pRel d) zs k).length (rowC 5 TReservation.cell (filtUp (pRel d) zs k)) ∧ Mk0 w wr) (fun _ i _ => n - (intOf i).toNat)
  case atStart => exact ⟨0, Nat.zero_le _, rfl, hl0, ML⟩
  case round =>
    clear hl0 ML
    obtain ⟨k, hk, rfl, hown, hM⟩ := hrel
    by_cases hlt : k < n
    · obtain ⟨b, off, x, rfl, hb, hx, c0, c1, c2, c3, c4⟩ := HasReservation.at _ _ _ _ _ _ (h.mk hM hB (.inr (Nat.le_refl _))) hlt
      have hbr := World.block_lt_of_cell? _ _ c0
      simp only at hbr
      have hcl := filtUp_le (pRel d) zs k
      cases hp : pRel d x
      · have HE := Lib.hid (show filtUp (pRel d) zs (k + 1) = filtUp (pRel d) zs k by rw [filtUp, ← hx.out, hp]; rfl)
        have hq : (x.id != d) = false := hp
        go_wp2_with fail
        go_roundw
        case rel => exact ⟨k + 1, by omega, by go_num, by rw [HE.out]; exact hown, hM⟩
        case measure => simp [intOf]; omega
      · have HE := Lib.hid (show filtUp (pRel d) zs (k + 1) = filtUp (pRel d) zs k ++ [x] by rw [filtUp, ← hx.out, hp]; rfl)
        have hq : (x.id != d) = true := hp
        have MX := Mk.alloc wr (Obj.cells #[Value.int .i64 x.id, Value.int .i64 x.nd, Value.int .i64 x.ifc, Value.int .i64 x.rate, Value.int .i64 x.til] 59)
        have ho3 := own_keptR hown MX
        have hh3 := hasR_new (cell := TReservation.cell) (nc := 5) (by decide) wr 59 x #[Value.int .i64 x.id, Value.int .i64 x.nd, Value.int .i64 x.ifc, Value.int .i64 x.rate, Value.int .i64 x.til] (fun j hj => by match j, hj with | 0, _ => rfl | 1, _ => rfl | 2, _ => rfl | 3, _ => rfl | 4, _ => rfl)
        have hlo := (hM.trans MX).size
        obtain ⟨L, hL⟩ : ∃ L, Hid (L = (filtUp (pRel d) zs k).length) := ⟨_, rfl⟩
        rw [← hL.out] at ho3 hcl
        go_wp2_with (at_builtin; refine wpList_appR (by decide) oneReservation rfl (.tmp 21) (.tmp 26) 55 rfl w.heap.size 59 i0 _ Try.underlying55 hi0 hz0 rfl hz1 (by rw [hz2]; decide) _ (filtUp (pRel d) zs k) L rfl ho3 _ 1 1 [x] rfl (fun h => by cases h) hh3 (by omega) hlo ?_; intro v2 w2 hown2 hgr2)
        have M2 := (hM.trans MX).appR hgr2 (fun g hg => (ho3.lt g hg).1)
        go_wp2_with fail
        go_roundw
        case rel => exact ⟨k + 1, by omega, by go_num, by rw [HE.out, List.length_append, ← hL.out]; exact hown2, M2⟩
        case measure => simp [intOf]; omega
    · obtain rfl : k = n := by omega
      go_wp2_with fail
      go_ret
      exact OutRows.of (by decide) hown hM

set_option maxRecDepth 100000 in
set_option maxHeartbeats 4000000 in
theorem implRelP (d : Int) (bb : Nat) (x : TReservation) (w : World) (hc : w.cell? ⟨bb, 0, none⟩ = some (.int .i64 d)) :
    Calls Try.prog 101 #[.agg #[.int .i64 x.id, .int .i64 x.nd, .int .i64 x.ifc, .int .i64 x.rate, .int .i64 x.til], .pointer (some ⟨bb, 0, none⟩)] w fun e w' => e = .returned (.bool (pRel d x)) ∧ Mk0 w w' := by
  have hbb := World.block_lt_of_cell? _ _ hc
  simp only at hbb
  have hc1 := (Mk.alloc w (Obj.cells #[Value.int .i64 x.id, Value.int .i64 x.nd, Value.int .i64 x.ifc, Value.int .i64 x.rate, Value.int .i64 x.til] 59)).cellAt hc
  go_enter Try.func101, Try.ntmps101
  go_wp2_with fail
  go_ret
  exact ⟨rfl, Mk.of_below (by go_grown)⟩

set_option maxRecDepth 100000 in
set_option maxHeartbeats 4000000 in
theorem implRelF (d : Int) (bb : Nat) (a : Option Addr) (n c B : Nat) (zs : List TReservation) (w : World) (h : HasReservation w B a n zs) (hB : B ≤ w.heap.size) (hn : n ≤ 1048576) (hc : w.cell? ⟨bb, 0, none⟩ = some (.int .i64 d)) :
    Calls Try.prog 93 #[.slice a n c, .func (.func 101) #[] #[.pointer (some ⟨bb, 0, none⟩)]] w (OutRows 5 TReservation.cell w (filtUp (pRel d) zs n)) := by
  obtain ⟨i0, hi0, hz0, hz1, hz2⟩ := info_parts infoRReservation
  go_enter Try.func93, Try.ntmps93
  go_wp2_with fail
  have hl0 := own_emptyR w 59 5
  have ML := Mk.alloc w (.cells #[] 59)
  go_loopw [5, 11] (fun v i wr => ∃ k : Nat, k ≤ n ∧ i = .int .i64 k ∧ wr.ownsRow w.heap.size 59 5 v (filtUp (pRel d) zs k).length (rowC 5 TReservation.cell (filtUp (pRel d) zs k)) ∧ Mk0 w wr) (fun _ i _ => n - (intOf i).toNat)
  case atStart => exact ⟨0, Nat.zero_le _, rfl, hl0, ML⟩
  case round =>
    clear hl0 ML
    obtain ⟨k, hk, rfl, hown, hM⟩ := hrel
    by_cases hlt : k < n
    · obtain ⟨b, off, x, rfl, hb, hx, c0, c1, c2, c3, c4⟩ := HasReservation.at _ _ _ _ _ _ (h.mk hM hB (.inr (Nat.le_refl _))) hlt
      have hbr := World.block_lt_of_cell? _ _ c0
      simp only at hbr
      have hcl := filtUp_le (pRel d) zs k
      cases hp : pRel d x
      · have HE := Lib.hid (show filtUp (pRel d) zs (k + 1) = filtUp (pRel d) zs k by rw [filtUp, ← hx.out, hp]; rfl)
        have d0 : (wr.alloc (Obj.cells #[Value.int .i64 x.id, Value.int .i64 x.nd, Value.int .i64 x.ifc, Value.int .i64 x.rate, Value.int .i64 x.til] 59)).cell? ⟨wr.heap.size, 0, none⟩ = some (.int .i64 x.id) := by simp [go_sem]
        have d1 : (wr.alloc (Obj.cells #[Value.int .i64 x.id, Value.int .i64 x.nd, Value.int .i64 x.ifc, Value.int .i64 x.rate, Value.int .i64 x.til] 59)).cell? ⟨wr.heap.size, 1, none⟩ = some (.int .i64 x.nd) := by simp [go_sem]
        have d2 : (wr.alloc (Obj.cells #[Value.int .i64 x.id, Value.int .i64 x.nd, Value.int .i64 x.ifc, Value.int .i64 x.rate, Value.int .i64 x.til] 59)).cell? ⟨wr.heap.size, 2, none⟩ = some (.int .i64 x.ifc) := by simp [go_sem]
        have d3 : (wr.alloc (Obj.cells #[Value.int .i64 x.id, Value.int .i64 x.nd, Value.int .i64 x.ifc, Value.int .i64 x.rate, Value.int .i64 x.til] 59)).cell? ⟨wr.heap.size, 3, none⟩ = some (.int .i64 x.rate) := by simp [go_sem]
        have d4 : (wr.alloc (Obj.cells #[Value.int .i64 x.id, Value.int .i64 x.nd, Value.int .i64 x.ifc, Value.int .i64 x.rate, Value.int .i64 x.til] 59)).cell? ⟨wr.heap.size, 4, none⟩ = some (.int .i64 x.til) := by simp [go_sem]
        have MX0 := Mk.alloc wr (Obj.cells #[Value.int .i64 x.id, Value.int .i64 x.nd, Value.int .i64 x.ifc, Value.int .i64 x.rate, Value.int .i64 x.til] 59)
        have hc1 := MX0.cellAt (hM.cellAt hc)
        go_wp2_with fail
        refine (implRelP d bb x _ hc1).mono ?_
        rintro e w2 ⟨he, m2⟩
        rw [hp] at he
        subst he
        have M1 := (hM.trans MX0).trans m2
        replace d0 := m2.cellAt d0
        replace d1 := m2.cellAt d1
        replace d2 := m2.cellAt d2
        replace d3 := m2.cellAt d3
        replace d4 := m2.cellAt d4
        have ho2 := own_keptR (own_keptR hown MX0) m2
        go_wp2_with fail
        go_roundw
        case rel => exact ⟨k + 1, by omega, by go_num, by rw [HE.out]; exact ho2, M1⟩
        case measure => simp [intOf]; omega
      · have HE := Lib.hid (show filtUp (pRel d) zs (k + 1) = filtUp (pRel d) zs k ++ [x] by rw [filtUp, ← hx.out, hp]; rfl)
        have d0 : (wr.alloc (Obj.cells #[Value.int .i64 x.id, Value.int .i64 x.nd, Value.int .i64 x.ifc, Value.int .i64 x.rate, Value.int .i64 x.til] 59)).cell? ⟨wr.heap.size, 0, none⟩ = some (.int .i64 x.id) := by simp [go_sem]
        have d1 : (wr.alloc (Obj.cells #[Value.int .i64 x.id, Value.int .i64 x.nd, Value.int .i64 x.ifc, Value.int .i64 x.rate, Value.int .i64 x.til] 59)).cell? ⟨wr.heap.size, 1, none⟩ = some (.int .i64 x.nd) := by simp [go_sem]
        have d2 : (wr.alloc (Obj.cells #[Value.int .i64 x.id, Value.int .i64 x.nd, Value.int .i64 x.ifc, Value.int .i64 x.rate, Value.int .i64 x.til] 59)).cell? ⟨wr.heap.size, 2, none⟩ = some (.int .i64 x.ifc) := by simp [go_sem]
        have d3 : (wr.alloc (Obj.cells #[Value.int .i64 x.id, Value.int .i64 x.nd, Value.int .i64 x.ifc, Value.int .i64 x.rate, Value.int .i64 x.til] 59)).cell? ⟨wr.heap.size, 3, none⟩ = some (.int .i64 x.rate) := by simp [go_sem]
        have d4 : (wr.alloc (Obj.cells #[Value.int .i64 x.id, Value.int .i64 x.nd, Value.int .i64 x.ifc, Value.int .i64 x.rate, Value.int .i64 x.til] 59)).cell? ⟨wr.heap.size, 4, none⟩ = some (.int .i64 x.til) := by simp [go_sem]
        have MX0 := Mk.alloc wr (Obj.cells #[Value.int .i64 x.id, Value.int .i64 x.nd, Value.int .i64 x.ifc, Value.int .i64 x.rate, Value.int .i64 x.til] 59)
        have hc1 := MX0.cellAt (hM.cellAt hc)
        go_wp2_with fail
        refine (implRelP d bb x _ hc1).mono ?_
        rintro e w2 ⟨he, m2⟩
        rw [hp] at he
        subst he
        have M1 := (hM.trans MX0).trans m2
        replace d0 := m2.cellAt d0
        replace d1 := m2.cellAt d1
        replace d2 := m2.cellAt d2
        replace d3 := m2.cellAt d3
        replace d4 := m2.cellAt d4
        have ho2 := own_keptR (own_keptR hown MX0) m2
        have MX := Mk.alloc w2 (Obj.cells #[Value.int .i64 x.id, Value.int .i64 x.nd, Value.int .i64 x.ifc, Value.int .i64 x.rate, Value.int .i64 x.til] 59)
        have ho3 := own_keptR ho2 MX
        have hh3 := hasR_new (cell := TReservation.cell) (nc := 5) (by decide) w2 59 x #[Value.int .i64 x.id, Value.int .i64 x.nd, Value.int .i64 x.ifc, Value.int .i64 x.rate, Value.int .i64 x.til] (fun j hj => by match j, hj with | 0, _ => rfl | 1, _ => rfl | 2, _ => rfl | 3, _ => rfl | 4, _ => rfl)
        have hlo := (M1.trans MX).size
        have hb2 := World.block_lt_of_cell? _ _ d0
        simp only at hb2
        obtain ⟨L, hL⟩ : ∃ L, Hid (L = (filtUp (pRel d) zs k).length) := ⟨_, rfl⟩
        rw [← hL.out] at ho3 hcl
        go_wp2_with (at_builtin; refine wpList_appR (by decide) oneReservation rfl (.tmp 18) (.tmp 20) 55 rfl w.heap.size 59 i0 _ Try.underlying55 hi0 hz0 rfl hz1 (by rw [hz2]; decide) _ (filtUp (pRel d) zs k) L rfl ho3 _ 1 1 [x] rfl (fun h => by cases h) hh3 (by omega) hlo ?_; intro v2 w3 hown2 hgr2)
        have M2 := (M1.trans MX).appR hgr2 (fun g hg => (ho3.lt g hg).1)
        go_wp2_with fail
        go_roundw
        case rel => exact ⟨k + 1, by omega, by go_num, by rw [HE.out, List.length_append, ← hL.out]; exact hown2, M2⟩
        case measure => simp [intOf]; omega
    · obtain rfl : k = n := by omega
      go_wp2_with fail
      go_ret
      exact OutRows.of (by decide) hown hM

set_option maxRecDepth 100000 in
set_option maxHeartbeats 4000000 in
theorem implRel (d : Int) (a : Option Addr) (n c B : Nat) (zs : List TReservation) (w : World) (h : HasReservation w B a n zs) (hB : B ≤ w.heap.size) (hn : n ≤ 1048576) :
    Calls Try.prog 46 #[.slice a n c, .int .i64 d] w (OutRows 5 TReservation.cell w (filtUp (pRel d) zs n)) := by
  have M0 := Mk.alloc w (Obj.cells #[Value.int .i64 d] 3)
  go_enter Try.func46, Try.ntmps46
  go_wp2_with fail
  refine (implRelF d w.heap.size a n c B zs _ (h.mk M0 hB (.inr (Nat.le_refl _))) (Nat.le_trans hB M0.size) hn (by simp [go_sem])).mono ?_
  rintro e w2 ⟨A, N, cc, rfl, hcc, ho, m2⟩
  go_wp2_with fail
  go_ret
  exact ⟨A, N, cc, rfl, hcc, ho.wide M0.size (Nat.le_refl _), M0.trans m2⟩

end Go.Proofs.Ytdbaecgbhadkbaa
