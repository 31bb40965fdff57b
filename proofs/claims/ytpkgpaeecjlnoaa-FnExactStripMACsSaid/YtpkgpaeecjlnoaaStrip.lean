
/- StripMACs, of both sides. -/
import Derived.Test.YtpkgpaeecjlnoaaRkHop
import Derived.Test.YtpkgpaeecjlnoaaUpd
import Derived.Test.YtpkgpaeecjlnoaaCSegment
namespace Go.Proofs.Ytpkgpaeecjlnoaa
open Go.ChangeShapes Go.WideShapes Go.ChangeAt Go.RowKit
set_option linter.unusedVariables false
def noMac (x : THop) : THop := ⟨x.nd, x.ing, x.eg, x.exp, 0⟩
def stripUp (zs : List THop) : Nat → List THop
  | 0 => []
  | k + 1 => stripUp zs k ++ [noMac (zs.getD k default)]
theorem stripUp_len (zs : List THop) : ∀ k, (stripUp zs k).length = k
  | 0 => rfl
  | k + 1 => by rw [stripUp, List.length_append, stripUp_len zs k]; rfl
theorem stripUp_at (zs : List THop) : ∀ k j, j < k → (stripUp zs k).getD j default = noMac (zs.getD j default)
  | 0, j, h => absurd h (by omega)
  | k + 1, j, h => by
    have hl := stripUp_len zs k
    rw [stripUp, List.getD_eq_getElem?_getD]
    by_cases hj : j < k
    · rw [List.getElem?_append_left (by omega), ← List.getD_eq_getElem?_getD]
      exact stripUp_at zs k j hj
    · obtain rfl : j = k := by omega
      rw [List.getElem?_append_right (by omega), hl, Nat.sub_self]
      rfl
/-- The first k without their MACs, the others as they are. -/
def stripTo (zs : List THop) (k : Nat) : List THop := stripUp zs k ++ zs.drop k
theorem stripTo_len (zs : List THop) (k : Nat) (h : k ≤ zs.length) : (stripTo zs k).length = zs.length := by
  unfold stripTo
  rw [List.length_append, stripUp_len, List.length_drop]
  omega
theorem stripTo_at (zs : List THop) (k : Nat) : (stripTo zs k).getD k default = zs.getD k default := by
  unfold stripTo
  rw [List.getD_eq_getElem?_getD, List.getElem?_append_right (by rw [stripUp_len]; exact Nat.le_refl _), stripUp_len, Nat.sub_self, List.getElem?_drop, Nat.add_zero, ← List.getD_eq_getElem?_getD]
theorem stripTo_set (zs : List THop) (k : Nat) (h : k < zs.length) : (stripTo zs k).set k (noMac (zs.getD k default)) = stripTo zs (k + 1) := by
  unfold stripTo
  have hl := stripUp_len zs k
  rw [List.set_append_right _ _ (by rw [hl]; exact Nat.le_refl _), hl, Nat.sub_self, stripUp, List.drop_eq_getElem_cons h, List.set_cons_zero, List.append_assoc]
  rfl
theorem stripTo_all (zs : List THop) : stripTo zs zs.length = stripUp zs zs.length := by
  unfold stripTo
  rw [List.drop_eq_nil_of_le (Nat.le_refl _), List.append_nil]
set_option maxRecDepth 100000 in
set_option maxHeartbeats 4000000 in
theorem specStrip (x0 x1 : Int) (a : Option Addr) (n c B : Nat) (zs : List THop) (w : World) (h : HasHop w B a n zs) (hB : B ≤ w.heap.size) (hn : n ≤ 1048576) (hc0 : a = none → c = 0) (hnc : n ≤ c) :
    Calls Try.prog 27 #[.agg #[.int .i64 x0, .int .i64 x1, .slice a n c]] w (OutRows 5 THop.cell w (stripUp zs n)) := by
  obtain ⟨i0, hi0, hz0, hz1, hz2⟩ := info_parts infoRHop
  have M0 := Mk.alloc w (Obj.cells #[Value.int .i64 x0, Value.int .i64 x1, Value.slice a n c] 39)
  have hsz := Lib.hid (World.size_alloc w (Obj.cells #[Value.int .i64 x0, Value.int .i64 x1, Value.slice a n c] 39))
  have k0 : (w.alloc (Obj.cells #[Value.int .i64 x0, Value.int .i64 x1, Value.slice a n c] 39)).cell? ⟨w.heap.size, 2, none⟩ = some (.slice a n c) := by simp [go_sem]
  generalize hW1 : w.alloc (Obj.cells #[Value.int .i64 x0, Value.int .i64 x1, Value.slice a n c] 39) = W1 at *
  go_enter Try.func27, Try.ntmps27
  go_wp2_with fail
  clear hW1
  have hl0 := own_emptyR W1 131 5
  have ML := Mk.alloc W1 (.cells #[] 131)
  go_loopw [3, 4] (fun v i wr => ∃ k : Nat, k ≤ n ∧ i = .int .i64 k ∧ wr.ownsRow W1.heap.size 131 5 v k (rowC 5 THop.cell (stripUp zs k)) ∧ Mk0 W1 wr) (fun _ i _ => n - (intOf i).toNat)
  case atStart => exact ⟨0, Nat.zero_le _, rfl, hl0, ML⟩
  case round =>
    clear hl0 ML
    obtain ⟨k, hk, rfl, hown, hM⟩ := hrel
    replace k0 := hM.cellAt k0
    by_cases hlt : k < n
    · obtain ⟨b, off, x, rfl, hb, hx, c0, c1, c2, c3, c4⟩ := HasHop.at _ _ _ _ _ _ (h.mk (M0.trans hM) hB (.inr (Nat.le_refl _))) hlt
      have hbr := World.block_lt_of_cell? _ _ c0
      simp only at hbr
      have i1 : (0 : Int) ≤ (k : Int) := by omega
      have i2 : (k : Int) < (n : Int) := by omega
      have HE := Lib.hid (show stripUp zs (k + 1) = stripUp zs k ++ [noMac x] by rw [stripUp, ← hx.out])
      have MX := Mk.alloc wr (Obj.cells #[Value.int .i64 x.nd, Value.int .i64 x.ing, Value.int .i64 x.eg, Value.int .i64 x.exp, Value.int .i64 x.mac] 131)
      have MY := Mk.put MX ⟨wr.heap.size, 4, none⟩ (.int .i64 0) (Nat.le_refl _)
      obtain ⟨W2, hW2⟩ : ∃ W2, W2 = (wr.alloc (Obj.cells #[Value.int .i64 x.nd, Value.int .i64 x.ing, Value.int .i64 x.eg, Value.int .i64 x.exp, Value.int .i64 x.mac] 131)).setCell ⟨wr.heap.size, 4, none⟩ (.int .i64 0) := ⟨_, rfl⟩
      have hs2 : W2.heap.size = wr.heap.size + 1 := by rw [hW2, World.size_set, World.size_alloc]
      have d0 : W2.cell? ⟨wr.heap.size, 0, none⟩ = some (.int .i64 x.nd) := by rw [hW2]; exact cell_set (by simp [go_sem]) _ _ (.inr (show (4 : Nat) ≠ 0 by decide))
      have d1 : W2.cell? ⟨wr.heap.size, 1, none⟩ = some (.int .i64 x.ing) := by rw [hW2]; exact cell_set (by simp [go_sem]) _ _ (.inr (show (4 : Nat) ≠ 1 by decide))
      have d2 : W2.cell? ⟨wr.heap.size, 2, none⟩ = some (.int .i64 x.eg) := by rw [hW2]; exact cell_set (by simp [go_sem]) _ _ (.inr (show (4 : Nat) ≠ 2 by decide))
      have d3 : W2.cell? ⟨wr.heap.size, 3, none⟩ = some (.int .i64 x.exp) := by rw [hW2]; exact cell_set (by simp [go_sem]) _ _ (.inr (show (4 : Nat) ≠ 3 by decide))
      have d4 : W2.cell? ⟨wr.heap.size, 4, none⟩ = some (.int .i64 0) := by rw [hW2]; exact World.cell?_setCell_same _ _ _ (show (wr.alloc (Obj.cells #[Value.int .i64 x.nd, Value.int .i64 x.ing, Value.int .i64 x.eg, Value.int .i64 x.exp, Value.int .i64 x.mac] 131)).cell? ⟨wr.heap.size, 4, none⟩ = some (.int .i64 x.mac) by simp [go_sem])
      rw [← hW2] at MY
      have MZ := Mk.alloc W2 (Obj.cells #[Value.int .i64 x.nd, Value.int .i64 x.ing, Value.int .i64 x.eg, Value.int .i64 x.exp, Value.int .i64 0] 131)
      have ho3 := own_keptR (own_keptR hown MY) MZ
      have hh3 := hasR_new (cell := THop.cell) (nc := 5) (by decide) W2 131 (noMac x) #[Value.int .i64 x.nd, Value.int .i64 x.ing, Value.int .i64 x.eg, Value.int .i64 x.exp, Value.int .i64 0] (fun j hj => by match j, hj with | 0, _ => rfl | 1, _ => rfl | 2, _ => rfl | 3, _ => rfl | 4, _ => rfl)
      have hlo := ((hM.trans MY).trans MZ).size
      have HS2 := Lib.hid hs2
      clear hs2
      replace hW2 := hW2.symm
      go_wp2_with (at_builtin; refine wpList_appR (by decide) rk1Hop rfl (.tmp 20) (.tmp 22) 37 rfl W1.heap.size 131 i0 _ Try.underlying37 hi0 hz0 rfl hz1 (by rw [hz2]; decide) _ (stripUp zs k) k rfl ho3 _ 1 1 [noMac x] rfl (fun h => by cases h) hh3 (by omega) hlo ?_; intro v2 w2 hown2 hgr2)
      have M2 := ((hM.trans MY).trans MZ).appR hgr2 (fun g hg => (ho3.lt g hg).1)
      clear hW2
      go_wp2_with fail
      go_roundw
      case rel => exact ⟨k + 1, by omega, by go_num, by rw [HE.out]; exact hown2, M2⟩
      case measure => simp [intOf]; omega
    · obtain rfl : k = n := by omega
      go_wp2_with fail
      go_ret
      exact OutRows.of (by decide) (own_lowR hown M0.size) (M0.trans hM)

set_option maxRecDepth 100000 in
set_option maxHeartbeats 4000000 in
theorem implStrip (x0 x1 : Int) (a : Option Addr) (n c B : Nat) (zs : List THop) (w : World) (h : HasHop w B a n zs) (hB : B ≤ w.heap.size) (hn : n ≤ 1048576) (hc0 : a = none → c = 0) (hnc : n ≤ c) :
    Calls Try.prog 28 #[.agg #[.int .i64 x0, .int .i64 x1, .slice a n c]] w (OutRows 5 THop.cell w (stripUp zs n)) := by
  have M0 := Mk.alloc w (Obj.cells #[Value.int .i64 x0, Value.int .i64 x1, Value.slice a n c] 39)
  go_enter Try.func28, Try.ntmps28
  go_wp2_with fail
  refine (cloneHop a n c B zs _ (h.mk M0 hB (.inr (Nat.le_refl _))) (Nat.le_trans hB M0.size) hn hc0 hnc).mono ?_
  rintro e w2 ⟨v2, rfl, ow, m2⟩
  obtain ⟨A, cc, rfl, hcc⟩ := ownsRow_sliceR2 ow
  have hzl := h.1
  rw [h.1] at ow hcc ⊢
  have oo := ownsRow_ownR (by decide) ow
  have M2 := M0.trans m2
  have oo1 := oo.wide M0.size (Nat.le_refl _)
  clear ow oo m2
  go_wp2_with fail
  go_loopw [10] (fun i wr => ∃ k : Nat, k ≤ n ∧ i = .int .i64 k ∧ OwnHop wr w.heap.size w2.heap.size A n (stripTo zs k) ∧ Mk0 w wr ∧ w2.heap.size = wr.heap.size) (fun i _ => n - (intOf i).toNat)
  case atStart => exact ⟨0, Nat.zero_le _, rfl, oo1, M2, rfl⟩
  case round =>
    clear oo1 M2
    obtain ⟨k, hk, rfl, oo, hM, hs⟩ := hrel
    have HS := Lib.hid hs
    clear hs
    by_cases hlt : k < n
    · obtain ⟨b, off, x, rfl, hb, hx, c0, c1, c2, c3, c4⟩ := HasHop.at _ _ _ _ _ _ oo.has hlt
      obtain rfl : x = zs.getD k default := hx.out.trans (stripTo_at zs k)
      have hbr := World.block_lt_of_cell? _ _ c0
      simp only at hbr
      have hfb : wr.frozen? ⟨b, off + k * 5 + 4, none⟩ = false ∧ w.heap.size ≤ b := by
        obtain ⟨b', off', e', hl', _, hc'⟩ := oo.2 (by omega)
        simp only [Option.some.injEq, Addr.mk.injEq, and_true] at e'
        obtain ⟨rfl, rfl⟩ := e'
        exact ⟨by have := (hc' _ (flat_le (nc := 5) (j := 4) hlt (by decide))).2; rwa [← Nat.add_assoc] at this, hl'⟩
      obtain ⟨hf, hbl⟩ := hfb
      have i1 : (0 : Int) ≤ (k : Int) := by omega
      have i2 : (k : Int) < (n : Int) := by omega
      have hset := Lib.hid (stripTo_set zs k (by rw [hzl]; exact hlt))
      have HZL := Lib.hid hzl
      have hu := oo.upd (k := k) (x := noMac (zs.getD k default)) (w' := wr.setCell ⟨b, off + k * 5 + 4, none⟩ (.int .i64 0)) (by decide) hlt (fun j hj => by
          match j, hj with
          | 0, _ => exact cell_set c0 _ _ (.inr (by show off + k * 5 + 4 ≠ off + (k * 5 + 0); omega))
          | 1, _ => exact cell_set c1 _ _ (.inr (by show off + k * 5 + 4 ≠ off + k * 5 + 1; omega))
          | 2, _ => exact cell_set c2 _ _ (.inr (by show off + k * 5 + 4 ≠ off + k * 5 + 2; omega))
          | 3, _ => exact cell_set c3 _ _ (.inr (by show off + k * 5 + 4 ≠ off + k * 5 + 3; omega))
          | 4, _ => exact World.cell?_setCell_same _ _ _ c4) (fun p => by rw [World.frozen?_setCell]) (fun j hj hjk => by
          rw [World.cell?_setCell_other _ _ _ _ (fun e => by simp only [Addr.mk.injEq] at e; omega)])
      rw [hset.out] at hu
      clear hx hzl
      go_wp2_with fail
      go_roundw
      case rel => exact ⟨k + 1, by omega, by go_num, hu, hM.put _ _ hbl, by rw [World.size_set]; exact HS.out⟩
      case measure => simp [intOf]; omega
    · obtain rfl : k = n := by omega
      have ht : stripTo zs k = stripUp zs k := by have := stripTo_all zs; rwa [hzl] at this
      rw [ht] at oo
      go_wp2_with fail
      go_ret
      exact ⟨A, k, cc, rfl, hcc, by rw [← HS.out]; exact oo, hM⟩

end Go.Proofs.Ytpkgpaeecjlnoaa
