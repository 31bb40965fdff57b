
/- Rows of Reservation: a clone; what a test lets pass. -/
import Derived.Test.YtdbaecgbhadkbaaSReservation
import Derived.Test.YtdbaecgbhadkbaaAppR
import Derived.Test.YtdbaecgbhadkbaaRet
import Derived.Laws.EntriesVeiled
import Derived.Lib.SliceRun
namespace Go.Proofs.Ytdbaecgbhadkbaa
open Go.ChangeShapes Go.WideShapes Go.ChangeAt Go.RowKit
set_option linter.unusedVariables false
theorem rk1Reservation : ∀ (x : TReservation) (j : Nat), (TReservation.cell x j).oneCell' = true := fun x j => by unfold TReservation.cell; split <;> rfl
set_option maxRecDepth 100000 in
set_option maxHeartbeats 4000000 in
theorem cloneReservation (a : Option Addr) (n c B : Nat) (zs : List TReservation) (w : World) (h : HasReservation w B a n zs) (hB : B ≤ w.heap.size) (hn : n ≤ 1048576) (hc0 : a = none → c = 0) (hnc : n ≤ c) :
    Calls Try.prog 99 #[.slice a n c] w (OutOwn 59 5 TReservation.cell w zs) := by
  obtain ⟨i0, hi0, hz0, hz1, hz2⟩ := info_parts infoRReservation
  rcases a with _ | ad
  · obtain rfl : c = 0 := hc0 rfl
    obtain rfl : n = 0 := by omega
    have hz := h.1
    have hnil : ∀ W, (binOp .eql 55 (.slice none 0 0) (.slice none 0 0)).run Try.prog W = .ok (.bool true) W := fun W => Lib.run_eql_slice_nil W _ _ _ _ _ _ _ Try.underlying55
    go_enter Try.func99, Try.ntmps99
    go_wp2_with fail
    go_ret
    obtain rfl : zs = [] := List.eq_nil_of_length_eq_zero hz
    exact ⟨_, rfl, World.ownsRow_nil _ _ _ _, Mk.refl _ _ _⟩
  · have hl0 := own_emptyR w 59 5
    have ML := Mk.alloc w (.cells #[] 59)
    have hh := (h.mk ML hB (.inr (Nat.le_refl _))).mono (Nat.le_trans hB ML.size)
    have hlo := ML.size
    have hnil : ∀ W, (binOp .eql 55 (.slice (some ad) n c) (.slice none 0 0)).run Try.prog W = .ok (.bool false) W := fun W => Lib.run_eql_slice_nil W _ _ _ _ _ _ _ Try.underlying55
    go_enter Try.func99, Try.ntmps99
    go_wp2_with (at_builtin; refine wpList_appR (by decide) rk1Reservation rfl (.tmp 5) (.tmp 6) 55 rfl w.heap.size 59 i0 _ Try.underlying55 hi0 hz0 rfl hz1 (by rw [hz2]; decide) _ [] 0 rfl hl0 _ n c zs rfl (fun h => by cases h) hh (by omega) hlo ?_; intro v2 w2 hown2 hgr2)
    have M2 := ML.appR hgr2 (fun g hg => (hl0.lt g hg).1)
    go_wp2_with fail
    go_ret
    simp only [Nat.zero_add, List.nil_append] at hown2
    exact OutOwn.of (by decide) hown2 M2

set_option maxRecDepth 100000 in
set_option maxHeartbeats 4000000 in
theorem findAllReservation (pr : TReservation → Bool) (Fc : FuncId) (q : Value) (a : Option Addr) (n c B : Nat) (zs : List TReservation) (w : World) (h : HasReservation w B a n zs) (hB : B ≤ w.heap.size) (hn : n ≤ 1048576)
    (hen : ∀ (x : TReservation) w1, (callFunc Fc #[.agg #[.int .i64 x.id, .int .i64 x.nd, .int .i64 x.ifc, .int .i64 x.rate, .int .i64 x.til], q]).run Try.prog w1 = .ok (.enter Fc #[.agg #[.int .i64 x.id, .int .i64 x.nd, .int .i64 x.ifc, .int .i64 x.rate, .int .i64 x.til], q]) w1)
    (hcl : ∀ x w1, Mk0 w w1 → Calls Try.prog Fc #[.agg #[.int .i64 x.id, .int .i64 x.nd, .int .i64 x.ifc, .int .i64 x.rate, .int .i64 x.til], q] w1 fun e w2 => e = .returned (.bool (pr x)) ∧ Mk0 w1 w2) :
    Calls Try.prog 93 #[.slice a n c, .func (.func Fc) #[] #[q]] w (OutOwn 59 5 TReservation.cell w (filtUp pr zs n)) := by
  obtain ⟨i0, hi0, hz0, hz1, hz2⟩ := info_parts infoRReservation
  have HCL := Lib.hid hcl
  have HEN := Lib.hid hen
  clear hcl hen
  go_enter Try.func93, Try.ntmps93
  go_wp2_with fail
  have hl0 := own_emptyR w 59 5
  have ML := Mk.alloc w (.cells #[] 59)
  go_loopw [5, 11] (fun v i wr => ∃ k : Nat, k ≤ n ∧ i = .int .i64 k ∧ wr.ownsRow w.heap.size 59 5 v (filtUp pr zs k).length (rowC 5 TReservation.cell (filtUp pr zs k)) ∧ Mk0 w wr) (fun _ i _ => n - (intOf i).toNat)
  case atStart => exact ⟨0, Nat.zero_le _, rfl, hl0, ML⟩
  case round =>
    clear hl0 ML
    obtain ⟨k, hk, rfl, hown, hM⟩ := hrel
    by_cases hlt : k < n
    · obtain ⟨b, off, x, rfl, hb, hx, c0, c1, c2, c3, c4⟩ := HasReservation.at _ _ _ _ _ _ (h.mk hM hB (.inr (Nat.le_refl _))) hlt
      have hbr := World.block_lt_of_cell? _ _ c0
      simp only at hbr
      have hcl0 := filtUp_le pr zs k
      have hcl := HCL.out
      have hen := HEN.out
      cases hp : pr x
      · have HE := Lib.hid (show filtUp pr zs (k + 1) = filtUp pr zs k by rw [filtUp, ← hx.out, hp]; rfl)
        have HP := Lib.hid hp
        clear hp
        have d0 : (wr.alloc (Obj.cells #[Value.int .i64 x.id, Value.int .i64 x.nd, Value.int .i64 x.ifc, Value.int .i64 x.rate, Value.int .i64 x.til] 59)).cell? ⟨wr.heap.size, 0, none⟩ = some (.int .i64 x.id) := by simp [go_sem]
        have d1 : (wr.alloc (Obj.cells #[Value.int .i64 x.id, Value.int .i64 x.nd, Value.int .i64 x.ifc, Value.int .i64 x.rate, Value.int .i64 x.til] 59)).cell? ⟨wr.heap.size, 1, none⟩ = some (.int .i64 x.nd) := by simp [go_sem]
        have d2 : (wr.alloc (Obj.cells #[Value.int .i64 x.id, Value.int .i64 x.nd, Value.int .i64 x.ifc, Value.int .i64 x.rate, Value.int .i64 x.til] 59)).cell? ⟨wr.heap.size, 2, none⟩ = some (.int .i64 x.ifc) := by simp [go_sem]
        have d3 : (wr.alloc (Obj.cells #[Value.int .i64 x.id, Value.int .i64 x.nd, Value.int .i64 x.ifc, Value.int .i64 x.rate, Value.int .i64 x.til] 59)).cell? ⟨wr.heap.size, 3, none⟩ = some (.int .i64 x.rate) := by simp [go_sem]
        have d4 : (wr.alloc (Obj.cells #[Value.int .i64 x.id, Value.int .i64 x.nd, Value.int .i64 x.ifc, Value.int .i64 x.rate, Value.int .i64 x.til] 59)).cell? ⟨wr.heap.size, 4, none⟩ = some (.int .i64 x.til) := by simp [go_sem]
        have MX0 := Mk.alloc wr (Obj.cells #[Value.int .i64 x.id, Value.int .i64 x.nd, Value.int .i64 x.ifc, Value.int .i64 x.rate, Value.int .i64 x.til] 59)
        have hq := hcl x _ (hM.trans MX0)
        have hen1 := hen x
        clear hcl hen
        go_wp2_with fail
        refine hq.mono ?_
        rintro e w2 ⟨he, m2⟩
        clear hq
        rw [HP.out] at he
        subst he
        have M1 := (hM.trans MX0).trans m2
        replace d0 := m2.cellAt d0
        replace d1 := m2.cellAt d1
        replace d2 := m2.cellAt d2
        replace d3 := m2.cellAt d3
        replace d4 := m2.cellAt d4
        have ho2 := own_keptR (own_keptR hown MX0) m2
        go_wp2_with fail
        go_roundw
        case rel => exact ⟨k + 1, by omega, by go_num, by rw [HE.out]; exact ho2, M1⟩
        case measure => simp [intOf]; omega
      · have HE := Lib.hid (show filtUp pr zs (k + 1) = filtUp pr zs k ++ [x] by rw [filtUp, ← hx.out, hp]; rfl)
        have HP := Lib.hid hp
        clear hp
        have d0 : (wr.alloc (Obj.cells #[Value.int .i64 x.id, Value.int .i64 x.nd, Value.int .i64 x.ifc, Value.int .i64 x.rate, Value.int .i64 x.til] 59)).cell? ⟨wr.heap.size, 0, none⟩ = some (.int .i64 x.id) := by simp [go_sem]
        have d1 : (wr.alloc (Obj.cells #[Value.int .i64 x.id, Value.int .i64 x.nd, Value.int .i64 x.ifc, Value.int .i64 x.rate, Value.int .i64 x.til] 59)).cell? ⟨wr.heap.size, 1, none⟩ = some (.int .i64 x.nd) := by simp [go_sem]
        have d2 : (wr.alloc (Obj.cells #[Value.int .i64 x.id, Value.int .i64 x.nd, Value.int .i64 x.ifc, Value.int .i64 x.rate, Value.int .i64 x.til] 59)).cell? ⟨wr.heap.size, 2, none⟩ = some (.int .i64 x.ifc) := by simp [go_sem]
        have d3 : (wr.alloc (Obj.cells #[Value.int .i64 x.id, Value.int .i64 x.nd, Value.int .i64 x.ifc, Value.int .i64 x.rate, Value.int .i64 x.til] 59)).cell? ⟨wr.heap.size, 3, none⟩ = some (.int .i64 x.rate) := by simp [go_sem]
        have d4 : (wr.alloc (Obj.cells #[Value.int .i64 x.id, Value.int .i64 x.nd, Value.int .i64 x.ifc, Value.int .i64 x.rate, Value.int .i64 x.til] 59)).cell? ⟨wr.heap.size, 4, none⟩ = some (.int .i64 x.til) := by simp [go_sem]
        have MX0 := Mk.alloc wr (Obj.cells #[Value.int .i64 x.id, Value.int .i64 x.nd, Value.int .i64 x.ifc, Value.int .i64 x.rate, Value.int .i64 x.til] 59)
        have hq := hcl x _ (hM.trans MX0)
        have hen1 := hen x
        clear hcl hen
        go_wp2_with fail
        refine hq.mono ?_
        rintro e w2 ⟨he, m2⟩
        clear hq
        rw [HP.out] at he
        subst he
        have M1 := (hM.trans MX0).trans m2
        replace d0 := m2.cellAt d0
        replace d1 := m2.cellAt d1
        replace d2 := m2.cellAt d2
        replace d3 := m2.cellAt d3
        replace d4 := m2.cellAt d4
        have ho2 := own_keptR (own_keptR hown MX0) m2
        have MX := Mk.alloc w2 (Obj.cells #[Value.int .i64 x.id, Value.int .i64 x.nd, Value.int .i64 x.ifc, Value.int .i64 x.rate, Value.int .i64 x.til] 59)
        have ho3 := own_keptR ho2 MX
        have hh3 := hasR_new (cell := TReservation.cell) (nc := 5) (by decide) w2 59 x #[Value.int .i64 x.id, Value.int .i64 x.nd, Value.int .i64 x.ifc, Value.int .i64 x.rate, Value.int .i64 x.til] (fun j hj => by match j, hj with | 0, _ => rfl | 1, _ => rfl | 2, _ => rfl | 3, _ => rfl | 4, _ => rfl)
        have hlo := (M1.trans MX).size
        have hb2 := World.block_lt_of_cell? _ _ d0
        simp only at hb2
        obtain ⟨L, hL⟩ : ∃ L, Hid (L = (filtUp pr zs k).length) := ⟨_, rfl⟩
        rw [← hL.out] at ho3 hcl0
        go_wp2_with (at_builtin; refine wpList_appR (by decide) rk1Reservation rfl (.tmp 18) (.tmp 20) 55 rfl w.heap.size 59 i0 _ Try.underlying55 hi0 hz0 rfl hz1 (by rw [hz2]; decide) _ (filtUp pr zs k) L rfl ho3 _ 1 1 [x] rfl (fun h => by cases h) hh3 (by omega) hlo ?_; intro v2 w3 hown2 hgr2)
        have M2 := (M1.trans MX).appR hgr2 (fun g hg => (ho3.lt g hg).1)
        go_wp2_with fail
        go_roundw
        case rel => exact ⟨k + 1, by omega, by go_num, by rw [HE.out, List.length_append, ← hL.out]; exact hown2, M2⟩
        case measure => simp [intOf]; omega
    · obtain rfl : k = n := by omega
      go_wp2_with fail
      go_ret
      exact OutOwn.of (by decide) hown hM

end Go.Proofs.Ytdbaecgbhadkbaa
