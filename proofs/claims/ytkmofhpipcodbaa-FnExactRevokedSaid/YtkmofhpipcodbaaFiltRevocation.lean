
/- What a test lets pass of a row of Revocation, of both sides. -/
import Derived.Test.YtkmofhpipcodbaaSRevocation
import Derived.Test.YtkmofhpipcodbaaAppR
import Derived.Test.YtkmofhpipcodbaaRet
import Derived.Laws.EntriesVeiled
namespace Go.Proofs.Ytkmofhpipcodbaa
open Go.ChangeShapes Go.WideShapes Go.ChangeAt Go.RowKit
set_option linter.unusedVariables false
theorem oneRevocation : ∀ (x : TRevocation) (j : Nat), (TRevocation.cell x j).oneCell' = true := fun x j => by unfold TRevocation.cell; split <;> rfl
def pActN (t : Int) (x : TRevocation) : Bool := decide (t ≤ x.til)
set_option maxRecDepth 100000 in
set_option maxHeartbeats 4000000 in
theorem specActN (t : Int) (a : Option Addr) (n c B : Nat) (zs : List TRevocation) (w : World) (h : HasRevocation w B a n zs) (hB : B ≤ w.heap.size) (hn : n ≤ 1048576) :
    Calls Try.prog 74 #[.slice a n c, .int .i64 t] w (OutRows 3 TRevocation.cell w (filtUp (pActN t) zs n)) := by
  obtain ⟨i0, hi0, hz0, hz1, hz2⟩ := info_parts infoRRevocation
  go_enter Try.func74, Try.ntmps74
  go_wp2_with fail
  have hl0 := own_emptyR w 128 3
  have ML := Mk.alloc w (.cells #[] 128)
  go_loopw [5, 6] (fun v i wr => ∃ k : Nat, k ≤ n ∧ i = .int .i64 k ∧ wr.ownsRow w.heap.size 128 3 v (filtUp (pActN t) zs k).length (rowC 3 TRevocation.cell (filtUp (pActN t) zs k)) ∧ Mk0 w wr) (fun _ i _ => n - (intOf i).toNat)
  case atStart => exact ⟨0, Nat.zero_le _, rfl, hl0, ML⟩
  case round =>
    clear hl0 ML
    obtain ⟨k, hk, rfl, hown, hM⟩ := hrel
    by_cases hlt : k < n
    · obtain ⟨b, off, x, rfl, hb, hx, c0, c1, c2⟩ := HasRevocation.at _ _ _ _ _ _ (h.mk hM hB (.inr (Nat.le_refl _))) hlt
      have hbr := World.block_lt_of_cell? _ _ c0
      simp only at hbr
      have hcl := filtUp_le (pActN t) zs k
      cases hp : pActN t x
      · have HE := Lib.hid (show filtUp (pActN t) zs (k + 1) = filtUp (pActN t) zs k by rw [filtUp, ← hx.out, hp]; rfl)
        have hq : x.til < t := by have := of_decide_eq_false hp; omega
        go_wp2_with fail
        go_roundw
        case rel => exact ⟨k + 1, by omega, by go_num, by rw [HE.out]; exact hown, hM⟩
        case measure => simp [intOf]; omega
      · have HE := Lib.hid (show filtUp (pActN t) zs (k + 1) = filtUp (pActN t) zs k ++ [x] by rw [filtUp, ← hx.out, hp]; rfl)
        have hq : t ≤ x.til := of_decide_eq_true hp
        have MX := Mk.alloc wr (Obj.cells #[Value.int .i64 x.nd, Value.int .i64 x.ifc, Value.int .i64 x.til] 128)
        have ho3 := own_keptR hown MX
        have hh3 := hasR_new (cell := TRevocation.cell) (nc := 3) (by decide) wr 128 x #[Value.int .i64 x.nd, Value.int .i64 x.ifc, Value.int .i64 x.til] (fun j hj => by match j, hj with | 0, _ => rfl | 1, _ => rfl | 2, _ => rfl)
        have hlo := (hM.trans MX).size
        obtain ⟨L, hL⟩ : ∃ L, Hid (L = (filtUp (pActN t) zs k).length) := ⟨_, rfl⟩
        rw [← hL.out] at ho3 hcl
        go_wp2_with (at_builtin; refine wpList_appR (by decide) oneRevocation rfl (.tmp 21) (.tmp 26) 70 rfl w.heap.size 128 i0 _ Try.underlying70 hi0 hz0 rfl hz1 (by rw [hz2]; decide) _ (filtUp (pActN t) zs k) L rfl ho3 _ 1 1 [x] rfl (fun h => by cases h) hh3 (by omega) hlo ?_; intro v2 w2 hown2 hgr2)
        have M2 := (hM.trans MX).appR hgr2 (fun g hg => (ho3.lt g hg).1)
        go_wp2_with fail
        go_roundw
        case rel => exact ⟨k + 1, by omega, by go_num, by rw [HE.out, List.length_append, ← hL.out]; exact hown2, M2⟩
        case measure => simp [intOf]; omega
    · obtain rfl : k = n := by omega
      go_wp2_with fail
      go_ret
      exact OutRows.of (by decide) hown hM

set_option maxRecDepth 100000 in
set_option maxHeartbeats 4000000 in
theorem implActNP (t : Int) (bb : Nat) (x : TRevocation) (w : World) (hc : w.cell? ⟨bb, 0, none⟩ = some (.int .i64 t)) :
    Calls Try.prog 130 #[.agg #[.int .i64 x.nd, .int .i64 x.ifc, .int .i64 x.til], .pointer (some ⟨bb, 0, none⟩)] w fun e w' => e = .returned (.bool (pActN t x)) ∧ Mk0 w w' := by
  have hbb := World.block_lt_of_cell? _ _ hc
  simp only at hbb
  go_enter Try.func130, Try.ntmps130
  go_wp2_with fail
  go_ret
  exact ⟨rfl, Mk.of_below (by go_grown)⟩

set_option maxRecDepth 100000 in
set_option maxHeartbeats 4000000 in
theorem implActNF (t : Int) (bb : Nat) (a : Option Addr) (n c B : Nat) (zs : List TRevocation) (w : World) (h : HasRevocation w B a n zs) (hB : B ≤ w.heap.size) (hn : n ≤ 1048576) (hc : w.cell? ⟨bb, 0, none⟩ = some (.int .i64 t)) :
    Calls Try.prog 129 #[.slice a n c, .func (.func 130) #[] #[.pointer (some ⟨bb, 0, none⟩)]] w (OutRows 3 TRevocation.cell w (filtUp (pActN t) zs n)) := by
  obtain ⟨i0, hi0, hz0, hz1, hz2⟩ := info_parts infoRRevocation
  go_enter Try.func129, Try.ntmps129
  go_wp2_with fail
  have hl0 := own_emptyR w 128 3
  have ML := Mk.alloc w (.cells #[] 128)
  go_loopw [5, 11] (fun v i wr => ∃ k : Nat, k ≤ n ∧ i = .int .i64 k ∧ wr.ownsRow w.heap.size 128 3 v (filtUp (pActN t) zs k).length (rowC 3 TRevocation.cell (filtUp (pActN t) zs k)) ∧ Mk0 w wr) (fun _ i _ => n - (intOf i).toNat)
  case atStart => exact ⟨0, Nat.zero_le _, rfl, hl0, ML⟩
  case round =>
    clear hl0 ML
    obtain ⟨k, hk, rfl, hown, hM⟩ := hrel
    by_cases hlt : k < n
    · obtain ⟨b, off, x, rfl, hb, hx, c0, c1, c2⟩ := HasRevocation.at _ _ _ _ _ _ (h.mk hM hB (.inr (Nat.le_refl _))) hlt
      have hbr := World.block_lt_of_cell? _ _ c0
      simp only at hbr
      have hcl := filtUp_le (pActN t) zs k
      cases hp : pActN t x
      · have HE := Lib.hid (show filtUp (pActN t) zs (k + 1) = filtUp (pActN t) zs k by rw [filtUp, ← hx.out, hp]; rfl)
        have d0 : (wr.alloc (Obj.cells #[Value.int .i64 x.nd, Value.int .i64 x.ifc, Value.int .i64 x.til] 128)).cell? ⟨wr.heap.size, 0, none⟩ = some (.int .i64 x.nd) := by simp [go_sem]
        have d1 : (wr.alloc (Obj.cells #[Value.int .i64 x.nd, Value.int .i64 x.ifc, Value.int .i64 x.til] 128)).cell? ⟨wr.heap.size, 1, none⟩ = some (.int .i64 x.ifc) := by simp [go_sem]
        have d2 : (wr.alloc (Obj.cells #[Value.int .i64 x.nd, Value.int .i64 x.ifc, Value.int .i64 x.til] 128)).cell? ⟨wr.heap.size, 2, none⟩ = some (.int .i64 x.til) := by simp [go_sem]
        have MX0 := Mk.alloc wr (Obj.cells #[Value.int .i64 x.nd, Value.int .i64 x.ifc, Value.int .i64 x.til] 128)
        have hc1 := MX0.cellAt (hM.cellAt hc)
        go_wp2_with fail
        refine (implActNP t bb x _ hc1).mono ?_
        rintro e w2 ⟨he, m2⟩
        rw [hp] at he
        subst he
        have M1 := (hM.trans MX0).trans m2
        replace d0 := m2.cellAt d0
        replace d1 := m2.cellAt d1
        replace d2 := m2.cellAt d2
        have ho2 := own_keptR (own_keptR hown MX0) m2
        go_wp2_with fail
        go_roundw
        case rel => exact ⟨k + 1, by omega, by go_num, by rw [HE.out]; exact ho2, M1⟩
        case measure => simp [intOf]; omega
      · have HE := Lib.hid (show filtUp (pActN t) zs (k + 1) = filtUp (pActN t) zs k ++ [x] by rw [filtUp, ← hx.out, hp]; rfl)
        have d0 : (wr.alloc (Obj.cells #[Value.int .i64 x.nd, Value.int .i64 x.ifc, Value.int .i64 x.til] 128)).cell? ⟨wr.heap.size, 0, none⟩ = some (.int .i64 x.nd) := by simp [go_sem]
        have d1 : (wr.alloc (Obj.cells #[Value.int .i64 x.nd, Value.int .i64 x.ifc, Value.int .i64 x.til] 128)).cell? ⟨wr.heap.size, 1, none⟩ = some (.int .i64 x.ifc) := by simp [go_sem]
        have d2 : (wr.alloc (Obj.cells #[Value.int .i64 x.nd, Value.int .i64 x.ifc, Value.int .i64 x.til] 128)).cell? ⟨wr.heap.size, 2, none⟩ = some (.int .i64 x.til) := by simp [go_sem]
        have MX0 := Mk.alloc wr (Obj.cells #[Value.int .i64 x.nd, Value.int .i64 x.ifc, Value.int .i64 x.til] 128)
        have hc1 := MX0.cellAt (hM.cellAt hc)
        go_wp2_with fail
        refine (implActNP t bb x _ hc1).mono ?_
        rintro e w2 ⟨he, m2⟩
        rw [hp] at he
        subst he
        have M1 := (hM.trans MX0).trans m2
        replace d0 := m2.cellAt d0
        replace d1 := m2.cellAt d1
        replace d2 := m2.cellAt d2
        have ho2 := own_keptR (own_keptR hown MX0) m2
        have MX := Mk.alloc w2 (Obj.cells #[Value.int .i64 x.nd, Value.int .i64 x.ifc, Value.int .i64 x.til] 128)
        have ho3 := own_keptR ho2 MX
        have hh3 := hasR_new (cell := TRevocation.cell) (nc := 3) (by decide) w2 128 x #[Value.int .i64 x.nd, Value.int .i64 x.ifc, Value.int .i64 x.til] (fun j hj => by match j, hj with | 0, _ => rfl | 1, _ => rfl | 2, _ => rfl)
        have hlo := (M1.trans MX).size
        have hb2 := World.block_lt_of_cell? _ _ d0
        simp only at hb2
        obtain ⟨L, hL⟩ : ∃ L, Hid (L = (filtUp (pActN t) zs k).length) := ⟨_, rfl⟩
        rw [← hL.out] at ho3 hcl
        go_wp2_with (at_builtin; refine wpList_appR (by decide) oneRevocation rfl (.tmp 18) (.tmp 20) 70 rfl w.heap.size 128 i0 _ Try.underlying70 hi0 hz0 rfl hz1 (by rw [hz2]; decide) _ (filtUp (pActN t) zs k) L rfl ho3 _ 1 1 [x] rfl (fun h => by cases h) hh3 (by omega) hlo ?_; intro v2 w3 hown2 hgr2)
        have M2 := (M1.trans MX).appR hgr2 (fun g hg => (ho3.lt g hg).1)
        go_wp2_with fail
        go_roundw
        case rel => exact ⟨k + 1, by omega, by go_num, by rw [HE.out, List.length_append, ← hL.out]; exact hown2, M2⟩
        case measure => simp [intOf]; omega
    · obtain rfl : k = n := by omega
      go_wp2_with fail
      go_ret
      exact OutRows.of (by decide) hown hM

set_option maxRecDepth 100000 in
set_option maxHeartbeats 4000000 in
theorem implActN (t : Int) (a : Option Addr) (n c B : Nat) (zs : List TRevocation) (w : World) (h : HasRevocation w B a n zs) (hB : B ≤ w.heap.size) (hn : n ≤ 1048576) :
    Calls Try.prog 78 #[.slice a n c, .int .i64 t] w (OutRows 3 TRevocation.cell w (filtUp (pActN t) zs n)) := by
  have M0 := Mk.alloc w (Obj.cells #[Value.int .i64 t] 3)
  go_enter Try.func78, Try.ntmps78
  go_wp2_with fail
  refine (implActNF t w.heap.size a n c B zs _ (h.mk M0 hB (.inr (Nat.le_refl _))) (Nat.le_trans hB M0.size) hn (by simp [go_sem])).mono ?_
  rintro e w2 ⟨A, N, cc, rfl, hcc, ho, m2⟩
  go_wp2_with fail
  go_ret
  exact ⟨A, N, cc, rfl, hcc, ho.wide M0.size (Nat.le_refl _), M0.trans m2⟩

end Go.Proofs.Ytkmofhpipcodbaa
