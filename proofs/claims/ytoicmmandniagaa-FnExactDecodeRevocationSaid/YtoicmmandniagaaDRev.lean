
/- DecodeRevocation of both sides. -/
import Derived.Test.YtoicmmandniagaaDec
import Derived.Test.YtoicmmandniagaaNote
import Derived.Test.YtoicmmandniagaaWs
import Derived.Test.YtoicmmandniagaaRet
namespace Go.Proofs.Ytoicmmandniagaa
open Go.ChangeShapes Go.WideShapes Go.ChangeAt Go.RowKit
set_option linter.unusedVariables false
def drO (zs : List Int) : Option (Int × Int × Int) :=
  match dc zs 0 3 with
  | none => none
  | some (l, m) => if (m != (zs.length : Int)) = false ∧ revOk (l.getD 0 0) (l.getD 1 0) (l.getD 2 0) = true then some (l.getD 0 0, l.getD 1 0, l.getD 2 0) else none
def dr0 : Option (Int × Int × Int) → Int
  | some x => x.1
  | none => 0
def dr1 : Option (Int × Int × Int) → Int
  | some x => x.2.1
  | none => 0
def dr2 : Option (Int × Int × Int) → Int
  | some x => x.2.2
  | none => 0
def drY : Option (Int × Int × Int) → Bool
  | some _ => true
  | none => false
def noteV : Option (Int × Int × Int) → Value
  | some x => .iface 50 (.agg #[.int .i64 x.1, .int .i64 x.2.1, .int .i64 x.2.2])
  | none => .nilIface
theorem dc_lenR {zs : List Int} {x n m : Int} {l : List Int} (h : dc zs x n = some (l, m)) : l.length = n.toNat := by
  unfold dc at h
  split at h
  · exact dcN_len h
  · cases h
theorem drO_none {zs : List Int} (h : dc zs 0 3 = none) : drO zs = none := by unfold drO; rw [h]
theorem drO_len {zs : List Int} {m : Int} {l : List Int} (h : dc zs 0 3 = some (l, m)) (hm : (m != (zs.length : Int)) = true) : drO zs = none := by unfold drO; rw [h]; simp only [hm, Bool.true_eq_false, false_and, if_false]
theorem drO_no {zs : List Int} {m : Int} {l : List Int} (h : dc zs 0 3 = some (l, m)) (hk : revOk (l.getD 0 0) (l.getD 1 0) (l.getD 2 0) = false) : drO zs = none := by unfold drO; rw [h]; simp only [hk, Bool.false_eq_true, and_false, if_false]
theorem drO_yes {zs : List Int} {m : Int} {l : List Int} (h : dc zs 0 3 = some (l, m)) (hm : (m != (zs.length : Int)) = false) (hk : revOk (l.getD 0 0) (l.getD 1 0) (l.getD 2 0) = true) : drO zs = some (l.getD 0 0, l.getD 1 0, l.getD 2 0) := by unfold drO; rw [h]; simp only [hm, hk, and_self, if_true]
set_option maxRecDepth 100000 in
set_option maxHeartbeats 4000000 in
theorem specDRev (a : Option Addr) (n c : Nat) (zs : List Int) (w : World) (h : Has .u8 w w.heap.size a n zs) (hf : ∀ z ∈ zs, (Lit.int .u8 z).wf = true) (hn : n ≤ 134217728) (hc : n ≤ c) :
    Calls Try.prog 17 #[.slice a n c] w fun e w' => e = .returned (.tuple #[.agg #[.int .i64 (dr0 (drO zs)), .int .i64 (dr1 (drO zs)), .int .i64 (dr2 (drO zs))], .bool (drY (drO zs))]) ∧ Mk0 w w' := by
  have M0 := Mk.alloc w (Obj.cells #[Value.int .i64 0, Value.int .i64 0, Value.int .i64 0] 50)
  have r0 : (w.alloc (Obj.cells #[Value.int .i64 0, Value.int .i64 0, Value.int .i64 0] 50)).cell? ⟨w.heap.size, 0, none⟩ = some (.int .i64 0) := by simp [go_sem]
  have r1 : (w.alloc (Obj.cells #[Value.int .i64 0, Value.int .i64 0, Value.int .i64 0] 50)).cell? ⟨w.heap.size, 1, none⟩ = some (.int .i64 0) := by simp [go_sem]
  have r2 : (w.alloc (Obj.cells #[Value.int .i64 0, Value.int .i64 0, Value.int .i64 0] 50)).cell? ⟨w.heap.size, 2, none⟩ = some (.int .i64 0) := by simp [go_sem]
  have fr : ∀ o, (w.alloc (Obj.cells #[Value.int .i64 0, Value.int .i64 0, Value.int .i64 0] 50)).frozen? ⟨w.heap.size, o, none⟩ = false := fun o => by simp [go_sem]
  have hs1 : (w.alloc (Obj.cells #[Value.int .i64 0, Value.int .i64 0, Value.int .i64 0] 50)).heap.size = w.heap.size + 1 := by rw [World.size_alloc]
  have hnl := h.1
  have hx0 : (Lit.int .i64 0).wf = true := by decide
  have hD := specDec a n c 0 3 zs (w.alloc (Obj.cells #[Value.int .i64 0, Value.int .i64 0, Value.int .i64 0] 50)) (h.next M0.below0) hf hn hx0
  cases hd : dc zs 0 3 with
  | none =>
    rw [hd] at hD
    simp only [dcR, dcX, dcY] at hD
    go_enter Try.func17, Try.ntmps17
    go_wp2_with fail
    generalize (w.alloc (Obj.cells #[Value.int .i64 0, Value.int .i64 0, Value.int .i64 0] 50)) = WW at *
    refine hD.mono ?_
    rintro e w2 ⟨A, N, C, rfl, hA2, hO, bb⟩
    have m2 := Mk.of_below bb
    have M2 := M0.trans m2
    replace r0 := m2.cellAt r0
    replace r1 := m2.cellAt r1
    replace r2 := m2.cellAt r2
    replace fr := fun o => (m2.frozen (b := w.heap.size) (o := o) (by omega) (.inr (Nat.zero_le _))).trans (fr o)
    have hws : w.heap.size < w2.heap.size := by have := m2.size; omega
    go_wp2_with fail
    replace r0 := World.cell?_setCell_same _ _ (.int .i64 0) r0
    replace r1 := cell_set r1 ⟨w.heap.size, 0, none⟩ (.int .i64 0) (.inr (by simp))
    replace r2 := cell_set r2 ⟨w.heap.size, 0, none⟩ (.int .i64 0) (.inr (by simp))
    replace M2 := M2.put ⟨w.heap.size, 0, none⟩ (.int .i64 0) (show w.heap.size ≤ w.heap.size from by omega)
    replace r0 := cell_set r0 ⟨w.heap.size, 1, none⟩ (.int .i64 0) (.inr (by simp))
    replace r1 := World.cell?_setCell_same _ _ (.int .i64 0) r1
    replace r2 := cell_set r2 ⟨w.heap.size, 1, none⟩ (.int .i64 0) (.inr (by simp))
    replace M2 := M2.put ⟨w.heap.size, 1, none⟩ (.int .i64 0) (show w.heap.size ≤ w.heap.size from by omega)
    replace r0 := cell_set r0 ⟨w.heap.size, 2, none⟩ (.int .i64 0) (.inr (by simp))
    replace r1 := cell_set r1 ⟨w.heap.size, 2, none⟩ (.int .i64 0) (.inr (by simp))
    replace r2 := World.cell?_setCell_same _ _ (.int .i64 0) r2
    replace M2 := M2.put ⟨w.heap.size, 2, none⟩ (.int .i64 0) (show w.heap.size ≤ w.heap.size from by omega)
    generalize (((w2.setCell ⟨w.heap.size, 0, none⟩ (.int .i64 0)).setCell ⟨w.heap.size, 1, none⟩ (.int .i64 0)).setCell ⟨w.heap.size, 2, none⟩ (.int .i64 0)) = WF at *
    refine bodyPost_ret (v := .tuple #[.agg #[.int .i64 0, .int .i64 0, .int .i64 0], .bool false]) (by simp [results, Try.results17, go_sem, r0, r1, r2]) rfl ⟨?_, ?_⟩
    · rw [drO_none hd]; rfl
    · exact M2
  | some p =>
    rw [hd] at hD
    obtain ⟨l, m⟩ := p
    have hl3 := dc_lenR hd
    simp only [dcR, dcX, dcY] at hD
    go_enter Try.func17, Try.ntmps17
    go_wp2_with fail
    generalize (w.alloc (Obj.cells #[Value.int .i64 0, Value.int .i64 0, Value.int .i64 0] 50)) = WW at *
    refine hD.mono ?_
    rintro e w2 ⟨A, N, C, rfl, hA2, hO, bb⟩
    obtain rfl : N = 3 := hO.1.symm.trans hl3
    have m2 := Mk.of_below bb
    have M2 := M0.trans m2
    replace r0 := m2.cellAt r0
    replace r1 := m2.cellAt r1
    replace r2 := m2.cellAt r2
    replace fr := fun o => (m2.frozen (b := w.heap.size) (o := o) (by omega) (.inr (Nat.zero_le _))).trans (fr o)
    have hws : w.heap.size < w2.heap.size := by have := m2.size; omega
    have hmn := Lib.hid (show (m != (zs.length : Int)) = (m != (n : Int)) by rw [hnl])
    cases hv : (m != (n : Int))
    rotate_left
    · have HR := Lib.hid (drO_len hd (hmn.out.trans hv))
      go_wp2_with fail
      replace r0 := World.cell?_setCell_same _ _ (.int .i64 0) r0
      replace r1 := cell_set r1 ⟨w.heap.size, 0, none⟩ (.int .i64 0) (.inr (by simp))
      replace r2 := cell_set r2 ⟨w.heap.size, 0, none⟩ (.int .i64 0) (.inr (by simp))
      replace M2 := M2.put ⟨w.heap.size, 0, none⟩ (.int .i64 0) (show w.heap.size ≤ w.heap.size from by omega)
      replace r0 := cell_set r0 ⟨w.heap.size, 1, none⟩ (.int .i64 0) (.inr (by simp))
      replace r1 := World.cell?_setCell_same _ _ (.int .i64 0) r1
      replace r2 := cell_set r2 ⟨w.heap.size, 1, none⟩ (.int .i64 0) (.inr (by simp))
      replace M2 := M2.put ⟨w.heap.size, 1, none⟩ (.int .i64 0) (show w.heap.size ≤ w.heap.size from by omega)
      replace r0 := cell_set r0 ⟨w.heap.size, 2, none⟩ (.int .i64 0) (.inr (by simp))
      replace r1 := cell_set r1 ⟨w.heap.size, 2, none⟩ (.int .i64 0) (.inr (by simp))
      replace r2 := World.cell?_setCell_same _ _ (.int .i64 0) r2
      replace M2 := M2.put ⟨w.heap.size, 2, none⟩ (.int .i64 0) (show w.heap.size ≤ w.heap.size from by omega)
      generalize (((w2.setCell ⟨w.heap.size, 0, none⟩ (.int .i64 0)).setCell ⟨w.heap.size, 1, none⟩ (.int .i64 0)).setCell ⟨w.heap.size, 2, none⟩ (.int .i64 0)) = WF at *
      refine bodyPost_ret (v := .tuple #[.agg #[.int .i64 0, .int .i64 0, .int .i64 0], .bool false]) (by simp [results, Try.results17, go_sem, r0, r1, r2]) rfl ⟨?_, ?_⟩
      · rw [HR.out]; rfl
      · exact M2
    · have HM := Lib.hid (hmn.out.trans hv)
      obtain ⟨b, off, rfl, hb, hc'⟩ := hO.has.2 (by omega)
      obtain ⟨y0, hy0⟩ : ∃ y, Hid (y = l.getD 0 0) := ⟨_, Lib.hid rfl⟩
      obtain ⟨y1, hy1⟩ : ∃ y, Hid (y = l.getD 1 0) := ⟨_, Lib.hid rfl⟩
      obtain ⟨y2, hy2⟩ : ∃ y, Hid (y = l.getD 2 0) := ⟨_, Lib.hid rfl⟩
      have c0 : w2.cell? ⟨b, off, none⟩ = some (.int .i64 y0) := by rw [hy0.out]; exact hc' 0 (by omega)
      have c1 : w2.cell? ⟨b, off + 1, none⟩ = some (.int .i64 y1) := by rw [hy1.out]; exact hc' 1 (by omega)
      have c2 : w2.cell? ⟨b, off + 2, none⟩ = some (.int .i64 y2) := by rw [hy2.out]; exact hc' 2 (by omega)
      clear hc'
      have j0 : (0 : Int) < ((3 : Nat) : Int) := by omega
      have j1 : (1 : Int) < ((3 : Nat) : Int) := by omega
      have j2 : (2 : Int) < ((3 : Nat) : Int) := by omega
      go_wp2_with fail
      clear hv hmn
      refine wp_region_wks (fun w' => Mk0 w2 w' ∧ w'.cell? ⟨b, off, none⟩ = some (.int .i64 y0) ∧ w'.cell? ⟨b, off + 1, none⟩ = some (.int .i64 y1) ∧ w'.cell? ⟨b, off + 2, none⟩ = some (.int .i64 y2) ∧ w'.cell? ⟨w.heap.size, 0, none⟩ = some (.int .i64 0) ∧ w'.cell? ⟨w.heap.size, 1, none⟩ = some (.int .i64 0) ∧ w'.cell? ⟨w.heap.size, 2, none⟩ = some (.int .i64 0)) 10 11 (by kernel_rfl) (by kernel_rfl) (by kernel_rfl) (by decide) (by decide) (⟨Mk.drew1 _, c0, c1, c2, r0, r1, r2⟩) ?_
      change WkS _ _ _ _ _ _ 10 0 _
      first | (refine WkS.skip (m := 9) (k := 0) rfl (by rfl) ?_) | (refine WkS.pure (m := 9) (k := 0) (v := _) rfl (by rfl) (fun wv => by go_simp; try with_reducible rfl) ?_) | (refine WkS.step (m := 9) (k := 0) (v := _) rfl (by rfl) (by kernel_rfl) (fun wv hS => by obtain ⟨s0, s1, s2, s3, s4, s5, s6⟩ := hS; go_simp; try with_reducible rfl) ?_)
      try simp only [Act.put, List.getElem_toArray, List.getElem_cons_zero, List.setIfInBounds_toArray, List.set_cons_zero, List.set_cons_succ]
      first | (refine WkS.skip (m := 8) (k := 1) rfl (by rfl) ?_) | (refine WkS.pure (m := 8) (k := 1) (v := _) rfl (by rfl) (fun wv => by go_simp; try with_reducible rfl) ?_) | (refine WkS.step (m := 8) (k := 1) (v := _) rfl (by rfl) (by kernel_rfl) (fun wv hS => by obtain ⟨s0, s1, s2, s3, s4, s5, s6⟩ := hS; go_simp; try with_reducible rfl) ?_)
      try simp only [Act.put, List.getElem_toArray, List.getElem_cons_succ, List.getElem_cons_zero, List.setIfInBounds_toArray, List.set_cons_zero, List.set_cons_succ]
      first | (refine WkS.skip (m := 7) (k := 2) rfl (by rfl) ?_) | (refine WkS.pure (m := 7) (k := 2) (v := _) rfl (by rfl) (fun wv => by go_simp; try with_reducible rfl) ?_) | (refine WkS.step (m := 7) (k := 2) (v := _) rfl (by rfl) (by kernel_rfl) (fun wv hS => by obtain ⟨s0, s1, s2, s3, s4, s5, s6⟩ := hS; go_simp; try with_reducible rfl) ?_)
      try simp only [Act.put, List.getElem_toArray, List.getElem_cons_succ, List.getElem_cons_zero, List.setIfInBounds_toArray, List.set_cons_zero, List.set_cons_succ]
      first | (refine WkS.skip (m := 6) (k := 3) rfl (by rfl) ?_) | (refine WkS.pure (m := 6) (k := 3) (v := _) rfl (by rfl) (fun wv => by go_simp; try with_reducible rfl) ?_) | (refine WkS.step (m := 6) (k := 3) (v := _) rfl (by rfl) (by kernel_rfl) (fun wv hS => by obtain ⟨s0, s1, s2, s3, s4, s5, s6⟩ := hS; go_simp; try with_reducible rfl) ?_)
      try simp only [Act.put, List.getElem_toArray, List.getElem_cons_succ, List.getElem_cons_zero, List.setIfInBounds_toArray, List.set_cons_zero, List.set_cons_succ]
      first | (refine WkS.skip (m := 5) (k := 4) rfl (by rfl) ?_) | (refine WkS.pure (m := 5) (k := 4) (v := _) rfl (by rfl) (fun wv => by go_simp; try with_reducible rfl) ?_) | (refine WkS.step (m := 5) (k := 4) (v := _) rfl (by rfl) (by kernel_rfl) (fun wv hS => by obtain ⟨s0, s1, s2, s3, s4, s5, s6⟩ := hS; go_simp; try with_reducible rfl) ?_)
      try simp only [Act.put, List.getElem_toArray, List.getElem_cons_succ, List.getElem_cons_zero, List.setIfInBounds_toArray, List.set_cons_zero, List.set_cons_succ]
      first | (refine WkS.skip (m := 4) (k := 5) rfl (by rfl) ?_) | (refine WkS.pure (m := 4) (k := 5) (v := _) rfl (by rfl) (fun wv => by go_simp; try with_reducible rfl) ?_) | (refine WkS.step (m := 4) (k := 5) (v := _) rfl (by rfl) (by kernel_rfl) (fun wv hS => by obtain ⟨s0, s1, s2, s3, s4, s5, s6⟩ := hS; go_simp; try with_reducible rfl) ?_)
      try simp only [Act.put, List.getElem_toArray, List.getElem_cons_succ, List.getElem_cons_zero, List.setIfInBounds_toArray, List.set_cons_zero, List.set_cons_succ]
      first | (refine WkS.skip (m := 3) (k := 6) rfl (by rfl) ?_) | (refine WkS.pure (m := 3) (k := 6) (v := _) rfl (by rfl) (fun wv => by go_simp; try with_reducible rfl) ?_) | (refine WkS.step (m := 3) (k := 6) (v := _) rfl (by rfl) (by kernel_rfl) (fun wv hS => by obtain ⟨s0, s1, s2, s3, s4, s5, s6⟩ := hS; go_simp; try with_reducible rfl) ?_)
      try simp only [Act.put, List.getElem_toArray, List.getElem_cons_succ, List.getElem_cons_zero, List.setIfInBounds_toArray, List.set_cons_zero, List.set_cons_succ]
      first | (refine WkS.skip (m := 2) (k := 7) rfl (by rfl) ?_) | (refine WkS.pure (m := 2) (k := 7) (v := _) rfl (by rfl) (fun wv => by go_simp; try with_reducible rfl) ?_) | (refine WkS.step (m := 2) (k := 7) (v := _) rfl (by rfl) (by kernel_rfl) (fun wv hS => by obtain ⟨s0, s1, s2, s3, s4, s5, s6⟩ := hS; go_simp; try with_reducible rfl) ?_)
      try simp only [Act.put, List.getElem_toArray, List.getElem_cons_succ, List.getElem_cons_zero, List.setIfInBounds_toArray, List.set_cons_zero, List.set_cons_succ]
      first | (refine WkS.skip (m := 1) (k := 8) rfl (by rfl) ?_) | (refine WkS.pure (m := 1) (k := 8) (v := _) rfl (by rfl) (fun wv => by go_simp; try with_reducible rfl) ?_) | (refine WkS.step (m := 1) (k := 8) (v := _) rfl (by rfl) (by kernel_rfl) (fun wv hS => by obtain ⟨s0, s1, s2, s3, s4, s5, s6⟩ := hS; go_simp; try with_reducible rfl) ?_)
      try simp only [Act.put, List.getElem_toArray, List.getElem_cons_succ, List.getElem_cons_zero, List.setIfInBounds_toArray, List.set_cons_zero, List.set_cons_succ]
      first | (refine WkS.skip (m := 0) (k := 9) rfl (by rfl) ?_) | (refine WkS.pure (m := 0) (k := 9) (v := _) rfl (by rfl) (fun wv => by go_simp; try with_reducible rfl) ?_) | (refine WkS.step (m := 0) (k := 9) (v := _) rfl (by rfl) (by kernel_rfl) (fun wv hS => by obtain ⟨s0, s1, s2, s3, s4, s5, s6⟩ := hS; go_simp; try with_reducible rfl) ?_)
      try simp only [Act.put, List.getElem_toArray, List.getElem_cons_succ, List.getElem_cons_zero, List.setIfInBounds_toArray, List.set_cons_zero, List.set_cons_succ]
      refine WkS.done fun wE hE => ?_
      clear c0 c1 c2 r0 r1 r2
      obtain ⟨mE, c0, c1, c2, r0, r1, r2⟩ := hE
      have zE0 := mE.size
      change wpSoft _ _ _ _ 11 1 _ _
      refine wpSoft.value (n := 0) (w1 := (wE.alloc (Obj.cells #[Value.int .i64 0, Value.int .i64 0, Value.int .i64 0] 50))) _ rfl (by rfl) (by go_simp; first | done | exact ⟨rfl, rfl⟩ | with_reducible rfl) ⟨mE.trans (Mk.alloc wE (Obj.cells #[Value.int .i64 0, Value.int .i64 0, Value.int .i64 0] 50)), (Mk.alloc wE (Obj.cells #[Value.int .i64 0, Value.int .i64 0, Value.int .i64 0] 50)).cellAt c0, (Mk.alloc wE (Obj.cells #[Value.int .i64 0, Value.int .i64 0, Value.int .i64 0] 50)).cellAt c1, (Mk.alloc wE (Obj.cells #[Value.int .i64 0, Value.int .i64 0, Value.int .i64 0] 50)).cellAt c2, (Mk.alloc wE (Obj.cells #[Value.int .i64 0, Value.int .i64 0, Value.int .i64 0] 50)).cellAt r0, (Mk.alloc wE (Obj.cells #[Value.int .i64 0, Value.int .i64 0, Value.int .i64 0] 50)).cellAt r1, (Mk.alloc wE (Obj.cells #[Value.int .i64 0, Value.int .i64 0, Value.int .i64 0] 50)).cellAt r2⟩ ?_
      have t0 : (wE.alloc (Obj.cells #[Value.int .i64 0, Value.int .i64 0, Value.int .i64 0] 50)).cell? ⟨wE.heap.size, 0, none⟩ = some (.int .i64 0) := by simp [go_sem]
      have t1 : (wE.alloc (Obj.cells #[Value.int .i64 0, Value.int .i64 0, Value.int .i64 0] 50)).cell? ⟨wE.heap.size, 1, none⟩ = some (.int .i64 0) := by simp [go_sem]
      have t2 : (wE.alloc (Obj.cells #[Value.int .i64 0, Value.int .i64 0, Value.int .i64 0] 50)).cell? ⟨wE.heap.size, 2, none⟩ = some (.int .i64 0) := by simp [go_sem]
      have ft : ∀ o, (wE.alloc (Obj.cells #[Value.int .i64 0, Value.int .i64 0, Value.int .i64 0] 50)).frozen? ⟨wE.heap.size, o, none⟩ = false := fun o => by simp [go_sem]
      intro wG0 mG0 hG0
      clear mE c0 c1 c2 r0 r1 r2
      obtain ⟨mE, c0, c1, c2, r0, r1, r2⟩ := hG0
      replace t0 := mG0.cellAt t0
      replace t1 := mG0.cellAt t1
      replace t2 := mG0.cellAt t2
      replace ft := fun o => (mG0.frozen (b := wE.heap.size) (o := o) (by rw [World.size_alloc]; omega) (.inr (Nat.zero_le _))).trans (ft o)
      have zG := mG0.size
      rw [World.size_alloc] at zG
      try simp only [Act.put, List.getElem_toArray, List.getElem_cons_succ, List.getElem_cons_zero, List.setIfInBounds_toArray, List.set_cons_zero, List.set_cons_succ]
      refine wpSoft.done ?_
      simp only [List.drop_succ_cons, List.drop_zero]
      have ME := M2.trans mE
      have hwe : w.heap.size < wE.heap.size := by omega
      have fe : ∀ o, wG0.frozen? ⟨w.heap.size, o, none⟩ = false := fun o => (mE.frozen (b := w.heap.size) (o := o) (by omega) (.inr (Nat.zero_le _))).trans (fr o)
      go_wp2_with fail
      try simp only [noPan]
      try (go_wp2_with fail)
      replace t0 := World.cell?_setCell_same _ _ (.int .i64 y0) t0
      replace t1 := cell_set t1 ⟨wE.heap.size, 0, none⟩ (.int .i64 y0) (.inr (by simp))
      replace t2 := cell_set t2 ⟨wE.heap.size, 0, none⟩ (.int .i64 y0) (.inr (by simp))
      replace r0 := cell_set r0 ⟨wE.heap.size, 0, none⟩ (.int .i64 y0) (.inl (show wE.heap.size ≠ w.heap.size from by omega))
      replace r1 := cell_set r1 ⟨wE.heap.size, 0, none⟩ (.int .i64 y0) (.inl (show wE.heap.size ≠ w.heap.size from by omega))
      replace r2 := cell_set r2 ⟨wE.heap.size, 0, none⟩ (.int .i64 y0) (.inl (show wE.heap.size ≠ w.heap.size from by omega))
      replace fe := fun o => frozen_set (fe o) ⟨wE.heap.size, 0, none⟩ (.int .i64 y0)
      replace ME := ME.put ⟨wE.heap.size, 0, none⟩ (.int .i64 y0) (show w.heap.size ≤ wE.heap.size from by omega)
      replace t0 := cell_set t0 ⟨wE.heap.size, 1, none⟩ (.int .i64 y1) (.inr (by simp))
      replace t1 := World.cell?_setCell_same _ _ (.int .i64 y1) t1
      replace t2 := cell_set t2 ⟨wE.heap.size, 1, none⟩ (.int .i64 y1) (.inr (by simp))
      replace r0 := cell_set r0 ⟨wE.heap.size, 1, none⟩ (.int .i64 y1) (.inl (show wE.heap.size ≠ w.heap.size from by omega))
      replace r1 := cell_set r1 ⟨wE.heap.size, 1, none⟩ (.int .i64 y1) (.inl (show wE.heap.size ≠ w.heap.size from by omega))
      replace r2 := cell_set r2 ⟨wE.heap.size, 1, none⟩ (.int .i64 y1) (.inl (show wE.heap.size ≠ w.heap.size from by omega))
      replace fe := fun o => frozen_set (fe o) ⟨wE.heap.size, 1, none⟩ (.int .i64 y1)
      replace ME := ME.put ⟨wE.heap.size, 1, none⟩ (.int .i64 y1) (show w.heap.size ≤ wE.heap.size from by omega)
      replace t0 := cell_set t0 ⟨wE.heap.size, 2, none⟩ (.int .i64 y2) (.inr (by simp))
      replace t1 := cell_set t1 ⟨wE.heap.size, 2, none⟩ (.int .i64 y2) (.inr (by simp))
      replace t2 := World.cell?_setCell_same _ _ (.int .i64 y2) t2
      replace r0 := cell_set r0 ⟨wE.heap.size, 2, none⟩ (.int .i64 y2) (.inl (show wE.heap.size ≠ w.heap.size from by omega))
      replace r1 := cell_set r1 ⟨wE.heap.size, 2, none⟩ (.int .i64 y2) (.inl (show wE.heap.size ≠ w.heap.size from by omega))
      replace r2 := cell_set r2 ⟨wE.heap.size, 2, none⟩ (.int .i64 y2) (.inl (show wE.heap.size ≠ w.heap.size from by omega))
      replace fe := fun o => frozen_set (fe o) ⟨wE.heap.size, 2, none⟩ (.int .i64 y2)
      replace ME := ME.put ⟨wE.heap.size, 2, none⟩ (.int .i64 y2) (show w.heap.size ≤ wE.heap.size from by omega)
      have hsz : (((wG0.setCell ⟨wE.heap.size, 0, none⟩ (.int .i64 y0)).setCell ⟨wE.heap.size, 1, none⟩ (.int .i64 y1)).setCell ⟨wE.heap.size, 2, none⟩ (.int .i64 y2)).heap.size = wG0.heap.size := by simp only [World.size_set]
      generalize (((wG0.setCell ⟨wE.heap.size, 0, none⟩ (.int .i64 y0)).setCell ⟨wE.heap.size, 1, none⟩ (.int .i64 y1)).setCell ⟨wE.heap.size, 2, none⟩ (.int .i64 y2)) = wL at *
      clear fr
      refine (specVRev y0 y1 y2 _).mono ?_
      rintro e w4 ⟨he, m4⟩
      replace ME := ME.trans m4
      replace r0 := m4.cellAt r0
      replace r1 := m4.cellAt r1
      replace r2 := m4.cellAt r2
      replace t0 := m4.cellAt t0
      replace t1 := m4.cellAt t1
      replace t2 := m4.cellAt t2
      replace fe := fun o => (m4.frozen (b := w.heap.size) (o := o) (by omega) (.inr (Nat.zero_le _))).trans (fe o)
      have hz4 := m4.size
      cases hk : revOk y0 y1 y2
      · rw [hk] at he
        subst he
        have HR := Lib.hid (drO_no hd (by rw [← hy0.out, ← hy1.out, ← hy2.out]; exact hk))
        clear hk
        go_wp2_with fail
        replace r0 := World.cell?_setCell_same _ _ (.int .i64 0) r0
        replace r1 := cell_set r1 ⟨w.heap.size, 0, none⟩ (.int .i64 0) (.inr (by simp))
        replace r2 := cell_set r2 ⟨w.heap.size, 0, none⟩ (.int .i64 0) (.inr (by simp))
        replace ME := ME.put ⟨w.heap.size, 0, none⟩ (.int .i64 0) (show w.heap.size ≤ w.heap.size from by omega)
        replace r0 := cell_set r0 ⟨w.heap.size, 1, none⟩ (.int .i64 0) (.inr (by simp))
        replace r1 := World.cell?_setCell_same _ _ (.int .i64 0) r1
        replace r2 := cell_set r2 ⟨w.heap.size, 1, none⟩ (.int .i64 0) (.inr (by simp))
        replace ME := ME.put ⟨w.heap.size, 1, none⟩ (.int .i64 0) (show w.heap.size ≤ w.heap.size from by omega)
        replace r0 := cell_set r0 ⟨w.heap.size, 2, none⟩ (.int .i64 0) (.inr (by simp))
        replace r1 := cell_set r1 ⟨w.heap.size, 2, none⟩ (.int .i64 0) (.inr (by simp))
        replace r2 := World.cell?_setCell_same _ _ (.int .i64 0) r2
        replace ME := ME.put ⟨w.heap.size, 2, none⟩ (.int .i64 0) (show w.heap.size ≤ w.heap.size from by omega)
        generalize (((w4.setCell ⟨w.heap.size, 0, none⟩ (.int .i64 0)).setCell ⟨w.heap.size, 1, none⟩ (.int .i64 0)).setCell ⟨w.heap.size, 2, none⟩ (.int .i64 0)) = WF at *
        refine bodyPost_ret (v := .tuple #[.agg #[.int .i64 0, .int .i64 0, .int .i64 0], .bool false]) (by simp [results, Try.results17, go_sem, r0, r1, r2]) rfl ⟨?_, ?_⟩
        · rw [HR.out]; rfl
        · exact ME
      · rw [hk] at he
        subst he
        have HR := Lib.hid (drO_yes hd HM.out (by rw [← hy0.out, ← hy1.out, ← hy2.out]; exact hk))
        clear hk
        go_wp2_with fail
        replace r0 := World.cell?_setCell_same _ _ (.int .i64 y0) r0
        replace r1 := cell_set r1 ⟨w.heap.size, 0, none⟩ (.int .i64 y0) (.inr (by simp))
        replace r2 := cell_set r2 ⟨w.heap.size, 0, none⟩ (.int .i64 y0) (.inr (by simp))
        replace ME := ME.put ⟨w.heap.size, 0, none⟩ (.int .i64 y0) (show w.heap.size ≤ w.heap.size from by omega)
        replace r0 := cell_set r0 ⟨w.heap.size, 1, none⟩ (.int .i64 y1) (.inr (by simp))
        replace r1 := World.cell?_setCell_same _ _ (.int .i64 y1) r1
        replace r2 := cell_set r2 ⟨w.heap.size, 1, none⟩ (.int .i64 y1) (.inr (by simp))
        replace ME := ME.put ⟨w.heap.size, 1, none⟩ (.int .i64 y1) (show w.heap.size ≤ w.heap.size from by omega)
        replace r0 := cell_set r0 ⟨w.heap.size, 2, none⟩ (.int .i64 y2) (.inr (by simp))
        replace r1 := cell_set r1 ⟨w.heap.size, 2, none⟩ (.int .i64 y2) (.inr (by simp))
        replace r2 := World.cell?_setCell_same _ _ (.int .i64 y2) r2
        replace ME := ME.put ⟨w.heap.size, 2, none⟩ (.int .i64 y2) (show w.heap.size ≤ w.heap.size from by omega)
        generalize (((w4.setCell ⟨w.heap.size, 0, none⟩ (.int .i64 y0)).setCell ⟨w.heap.size, 1, none⟩ (.int .i64 y1)).setCell ⟨w.heap.size, 2, none⟩ (.int .i64 y2)) = WF at *
        refine bodyPost_ret (v := .tuple #[.agg #[.int .i64 y0, .int .i64 y1, .int .i64 y2], .bool true]) (by simp [results, Try.results17, go_sem, r0, r1, r2]) rfl ⟨?_, ?_⟩
        · rw [HR.out, ← hy0.out, ← hy1.out, ← hy2.out]; rfl
        · exact ME

set_option maxRecDepth 100000 in
set_option maxHeartbeats 4000000 in
theorem implNote (a : Option Addr) (n c : Nat) (zs : List Int) (w : World) (h : Has .u8 w w.heap.size a n zs) (hf : ∀ z ∈ zs, (Lit.int .u8 z).wf = true) (hn : n ≤ 134217728) (hc : n ≤ c) :
    Calls Try.prog 39 #[.slice a n c] w fun e w' => e = .returned (noteV (drO zs)) ∧ Mk0 w w' := by
  have M0 := Mk.refl 0 0 w
  have hnl := h.1
  have hx0 : (Lit.int .i64 0).wf = true := by decide
  have hD := implDec a n c 0 3 zs w h hf hn hc hx0
  cases hd : dc zs 0 3 with
  | none =>
    rw [hd] at hD
    simp only [dcR, dcX, dcY] at hD
    go_enter Try.func39, Try.ntmps39
    go_wp2_with fail
    refine hD.mono ?_
    rintro e w2 ⟨A, N, C, rfl, hA2, hO, bb⟩
    have m2 := Mk.of_below bb
    go_wp2_with fail
    go_ret
    exact ⟨by rw [drO_none hd]; rfl, m2⟩
  | some p =>
    rw [hd] at hD
    obtain ⟨l, m⟩ := p
    have hl3 := dc_lenR hd
    simp only [dcR, dcX, dcY] at hD
    go_enter Try.func39, Try.ntmps39
    go_wp2_with fail
    refine hD.mono ?_
    rintro e w2 ⟨A, N, C, rfl, hA2, hO, bb⟩
    obtain rfl : N = 3 := hO.1.symm.trans hl3
    have m2 := Mk.of_below bb
    have hmn := Lib.hid (show (m != (zs.length : Int)) = (m != (n : Int)) by rw [hnl])
    cases hv : (m != (n : Int))
    rotate_left
    · have HR := Lib.hid (drO_len hd (hmn.out.trans hv))
      go_wp2_with fail
      go_ret
      exact ⟨by rw [HR.out]; rfl, m2⟩
    · have HM := Lib.hid (hmn.out.trans hv)
      obtain ⟨b, off, rfl, hb, hc'⟩ := hO.has.2 (by omega)
      obtain ⟨y0, hy0⟩ : ∃ y, Hid (y = l.getD 0 0) := ⟨_, Lib.hid rfl⟩
      obtain ⟨y1, hy1⟩ : ∃ y, Hid (y = l.getD 1 0) := ⟨_, Lib.hid rfl⟩
      obtain ⟨y2, hy2⟩ : ∃ y, Hid (y = l.getD 2 0) := ⟨_, Lib.hid rfl⟩
      have c0 : w2.cell? ⟨b, off, none⟩ = some (.int .i64 y0) := by rw [hy0.out]; exact hc' 0 (by omega)
      have c1 : w2.cell? ⟨b, off + 1, none⟩ = some (.int .i64 y1) := by rw [hy1.out]; exact hc' 1 (by omega)
      have c2 : w2.cell? ⟨b, off + 2, none⟩ = some (.int .i64 y2) := by rw [hy2.out]; exact hc' 2 (by omega)
      clear hc'
      have j0 : (0 : Int) < ((3 : Nat) : Int) := by omega
      have j1 : (1 : Int) < ((3 : Nat) : Int) := by omega
      have j2 : (2 : Int) < ((3 : Nat) : Int) := by omega
      go_wp2_with fail
      clear hv hmn
      refine wp_region_wks (fun w' => Mk0 w2 w' ∧ w'.cell? ⟨b, off, none⟩ = some (.int .i64 y0) ∧ w'.cell? ⟨b, off + 1, none⟩ = some (.int .i64 y1) ∧ w'.cell? ⟨b, off + 2, none⟩ = some (.int .i64 y2)) 10 11 (by kernel_rfl) (by kernel_rfl) (by kernel_rfl) (by decide) (by decide) (⟨Mk.drew1 _, c0, c1, c2⟩) ?_
      change WkS _ _ _ _ _ _ 10 0 _
      first | (refine WkS.skip (m := 9) (k := 0) rfl (by rfl) ?_) | (refine WkS.pure (m := 9) (k := 0) (v := _) rfl (by rfl) (fun wv => by go_simp; try with_reducible rfl) ?_) | (refine WkS.step (m := 9) (k := 0) (v := _) rfl (by rfl) (by kernel_rfl) (fun wv hS => by obtain ⟨s0, s1, s2, s3⟩ := hS; go_simp; try with_reducible rfl) ?_)
      try simp only [Act.put, List.getElem_toArray, List.getElem_cons_zero, List.setIfInBounds_toArray, List.set_cons_zero, List.set_cons_succ]
      first | (refine WkS.skip (m := 8) (k := 1) rfl (by rfl) ?_) | (refine WkS.pure (m := 8) (k := 1) (v := _) rfl (by rfl) (fun wv => by go_simp; try with_reducible rfl) ?_) | (refine WkS.step (m := 8) (k := 1) (v := _) rfl (by rfl) (by kernel_rfl) (fun wv hS => by obtain ⟨s0, s1, s2, s3⟩ := hS; go_simp; try with_reducible rfl) ?_)
      try simp only [Act.put, List.getElem_toArray, List.getElem_cons_succ, List.getElem_cons_zero, List.setIfInBounds_toArray, List.set_cons_zero, List.set_cons_succ]
      first | (refine WkS.skip (m := 7) (k := 2) rfl (by rfl) ?_) | (refine WkS.pure (m := 7) (k := 2) (v := _) rfl (by rfl) (fun wv => by go_simp; try with_reducible rfl) ?_) | (refine WkS.step (m := 7) (k := 2) (v := _) rfl (by rfl) (by kernel_rfl) (fun wv hS => by obtain ⟨s0, s1, s2, s3⟩ := hS; go_simp; try with_reducible rfl) ?_)
      try simp only [Act.put, List.getElem_toArray, List.getElem_cons_succ, List.getElem_cons_zero, List.setIfInBounds_toArray, List.set_cons_zero, List.set_cons_succ]
      first | (refine WkS.skip (m := 6) (k := 3) rfl (by rfl) ?_) | (refine WkS.pure (m := 6) (k := 3) (v := _) rfl (by rfl) (fun wv => by go_simp; try with_reducible rfl) ?_) | (refine WkS.step (m := 6) (k := 3) (v := _) rfl (by rfl) (by kernel_rfl) (fun wv hS => by obtain ⟨s0, s1, s2, s3⟩ := hS; go_simp; try with_reducible rfl) ?_)
      try simp only [Act.put, List.getElem_toArray, List.getElem_cons_succ, List.getElem_cons_zero, List.setIfInBounds_toArray, List.set_cons_zero, List.set_cons_succ]
      first | (refine WkS.skip (m := 5) (k := 4) rfl (by rfl) ?_) | (refine WkS.pure (m := 5) (k := 4) (v := _) rfl (by rfl) (fun wv => by go_simp; try with_reducible rfl) ?_) | (refine WkS.step (m := 5) (k := 4) (v := _) rfl (by rfl) (by kernel_rfl) (fun wv hS => by obtain ⟨s0, s1, s2, s3⟩ := hS; go_simp; try with_reducible rfl) ?_)
      try simp only [Act.put, List.getElem_toArray, List.getElem_cons_succ, List.getElem_cons_zero, List.setIfInBounds_toArray, List.set_cons_zero, List.set_cons_succ]
      first | (refine WkS.skip (m := 4) (k := 5) rfl (by rfl) ?_) | (refine WkS.pure (m := 4) (k := 5) (v := _) rfl (by rfl) (fun wv => by go_simp; try with_reducible rfl) ?_) | (refine WkS.step (m := 4) (k := 5) (v := _) rfl (by rfl) (by kernel_rfl) (fun wv hS => by obtain ⟨s0, s1, s2, s3⟩ := hS; go_simp; try with_reducible rfl) ?_)
      try simp only [Act.put, List.getElem_toArray, List.getElem_cons_succ, List.getElem_cons_zero, List.setIfInBounds_toArray, List.set_cons_zero, List.set_cons_succ]
      first | (refine WkS.skip (m := 3) (k := 6) rfl (by rfl) ?_) | (refine WkS.pure (m := 3) (k := 6) (v := _) rfl (by rfl) (fun wv => by go_simp; try with_reducible rfl) ?_) | (refine WkS.step (m := 3) (k := 6) (v := _) rfl (by rfl) (by kernel_rfl) (fun wv hS => by obtain ⟨s0, s1, s2, s3⟩ := hS; go_simp; try with_reducible rfl) ?_)
      try simp only [Act.put, List.getElem_toArray, List.getElem_cons_succ, List.getElem_cons_zero, List.setIfInBounds_toArray, List.set_cons_zero, List.set_cons_succ]
      first | (refine WkS.skip (m := 2) (k := 7) rfl (by rfl) ?_) | (refine WkS.pure (m := 2) (k := 7) (v := _) rfl (by rfl) (fun wv => by go_simp; try with_reducible rfl) ?_) | (refine WkS.step (m := 2) (k := 7) (v := _) rfl (by rfl) (by kernel_rfl) (fun wv hS => by obtain ⟨s0, s1, s2, s3⟩ := hS; go_simp; try with_reducible rfl) ?_)
      try simp only [Act.put, List.getElem_toArray, List.getElem_cons_succ, List.getElem_cons_zero, List.setIfInBounds_toArray, List.set_cons_zero, List.set_cons_succ]
      first | (refine WkS.skip (m := 1) (k := 8) rfl (by rfl) ?_) | (refine WkS.pure (m := 1) (k := 8) (v := _) rfl (by rfl) (fun wv => by go_simp; try with_reducible rfl) ?_) | (refine WkS.step (m := 1) (k := 8) (v := _) rfl (by rfl) (by kernel_rfl) (fun wv hS => by obtain ⟨s0, s1, s2, s3⟩ := hS; go_simp; try with_reducible rfl) ?_)
      try simp only [Act.put, List.getElem_toArray, List.getElem_cons_succ, List.getElem_cons_zero, List.setIfInBounds_toArray, List.set_cons_zero, List.set_cons_succ]
      first | (refine WkS.skip (m := 0) (k := 9) rfl (by rfl) ?_) | (refine WkS.pure (m := 0) (k := 9) (v := _) rfl (by rfl) (fun wv => by go_simp; try with_reducible rfl) ?_) | (refine WkS.step (m := 0) (k := 9) (v := _) rfl (by rfl) (by kernel_rfl) (fun wv hS => by obtain ⟨s0, s1, s2, s3⟩ := hS; go_simp; try with_reducible rfl) ?_)
      try simp only [Act.put, List.getElem_toArray, List.getElem_cons_succ, List.getElem_cons_zero, List.setIfInBounds_toArray, List.set_cons_zero, List.set_cons_succ]
      refine WkS.done fun wE hE => ?_
      clear c0 c1 c2
      obtain ⟨mE, c0, c1, c2⟩ := hE
      have zE0 := mE.size
      change wpSoft _ _ _ _ 11 1 _ _
      refine wpSoft.value (n := 0) (w1 := (wE.alloc (Obj.cells #[Value.int .i64 0, Value.int .i64 0, Value.int .i64 0] 50))) _ rfl (by rfl) (by go_simp; first | done | exact ⟨rfl, rfl⟩ | with_reducible rfl) ⟨mE.trans (Mk.alloc wE (Obj.cells #[Value.int .i64 0, Value.int .i64 0, Value.int .i64 0] 50)), (Mk.alloc wE (Obj.cells #[Value.int .i64 0, Value.int .i64 0, Value.int .i64 0] 50)).cellAt c0, (Mk.alloc wE (Obj.cells #[Value.int .i64 0, Value.int .i64 0, Value.int .i64 0] 50)).cellAt c1, (Mk.alloc wE (Obj.cells #[Value.int .i64 0, Value.int .i64 0, Value.int .i64 0] 50)).cellAt c2⟩ ?_
      have t0 : (wE.alloc (Obj.cells #[Value.int .i64 0, Value.int .i64 0, Value.int .i64 0] 50)).cell? ⟨wE.heap.size, 0, none⟩ = some (.int .i64 0) := by simp [go_sem]
      have t1 : (wE.alloc (Obj.cells #[Value.int .i64 0, Value.int .i64 0, Value.int .i64 0] 50)).cell? ⟨wE.heap.size, 1, none⟩ = some (.int .i64 0) := by simp [go_sem]
      have t2 : (wE.alloc (Obj.cells #[Value.int .i64 0, Value.int .i64 0, Value.int .i64 0] 50)).cell? ⟨wE.heap.size, 2, none⟩ = some (.int .i64 0) := by simp [go_sem]
      have ft : ∀ o, (wE.alloc (Obj.cells #[Value.int .i64 0, Value.int .i64 0, Value.int .i64 0] 50)).frozen? ⟨wE.heap.size, o, none⟩ = false := fun o => by simp [go_sem]
      intro wG0 mG0 hG0
      clear mE c0 c1 c2
      obtain ⟨mE, c0, c1, c2⟩ := hG0
      replace t0 := mG0.cellAt t0
      replace t1 := mG0.cellAt t1
      replace t2 := mG0.cellAt t2
      replace ft := fun o => (mG0.frozen (b := wE.heap.size) (o := o) (by rw [World.size_alloc]; omega) (.inr (Nat.zero_le _))).trans (ft o)
      have zG := mG0.size
      rw [World.size_alloc] at zG
      try simp only [Act.put, List.getElem_toArray, List.getElem_cons_succ, List.getElem_cons_zero, List.setIfInBounds_toArray, List.set_cons_zero, List.set_cons_succ]
      refine wpSoft.done ?_
      simp only [List.drop_succ_cons, List.drop_zero]
      have ME := m2.trans mE
      have zz2 := m2.size
      go_wp2_with fail
      try simp only [noPan]
      try (go_wp2_with fail)
      replace t0 := World.cell?_setCell_same _ _ (.int .i64 y0) t0
      replace t1 := cell_set t1 ⟨wE.heap.size, 0, none⟩ (.int .i64 y0) (.inr (by simp))
      replace t2 := cell_set t2 ⟨wE.heap.size, 0, none⟩ (.int .i64 y0) (.inr (by simp))
      replace ME := ME.put ⟨wE.heap.size, 0, none⟩ (.int .i64 y0) (show w.heap.size ≤ wE.heap.size from by omega)
      replace t0 := cell_set t0 ⟨wE.heap.size, 1, none⟩ (.int .i64 y1) (.inr (by simp))
      replace t1 := World.cell?_setCell_same _ _ (.int .i64 y1) t1
      replace t2 := cell_set t2 ⟨wE.heap.size, 1, none⟩ (.int .i64 y1) (.inr (by simp))
      replace ME := ME.put ⟨wE.heap.size, 1, none⟩ (.int .i64 y1) (show w.heap.size ≤ wE.heap.size from by omega)
      replace t0 := cell_set t0 ⟨wE.heap.size, 2, none⟩ (.int .i64 y2) (.inr (by simp))
      replace t1 := cell_set t1 ⟨wE.heap.size, 2, none⟩ (.int .i64 y2) (.inr (by simp))
      replace t2 := World.cell?_setCell_same _ _ (.int .i64 y2) t2
      replace ME := ME.put ⟨wE.heap.size, 2, none⟩ (.int .i64 y2) (show w.heap.size ≤ wE.heap.size from by omega)
      generalize (((wG0.setCell ⟨wE.heap.size, 0, none⟩ (.int .i64 y0)).setCell ⟨wE.heap.size, 1, none⟩ (.int .i64 y1)).setCell ⟨wE.heap.size, 2, none⟩ (.int .i64 y2)) = wL at *
      refine (implVRev y0 y1 y2 _).mono ?_
      rintro e w4 ⟨he, m4⟩
      replace ME := ME.trans m4
      replace t0 := m4.cellAt t0
      replace t1 := m4.cellAt t1
      replace t2 := m4.cellAt t2
      cases hk : revOk y0 y1 y2
      · rw [hk] at he
        subst he
        have HR := Lib.hid (drO_no hd (by rw [← hy0.out, ← hy1.out, ← hy2.out]; exact hk))
        clear hk
        go_wp2_with fail
        go_ret
        exact ⟨by rw [HR.out]; rfl, ME⟩
      · rw [hk] at he
        subst he
        have HR := Lib.hid (drO_yes hd HM.out (by rw [← hy0.out, ← hy1.out, ← hy2.out]; exact hk))
        clear hk
        go_wp2_with fail
        go_ret
        exact ⟨by rw [HR.out, ← hy0.out, ← hy1.out, ← hy2.out]; rfl, ME⟩

set_option maxRecDepth 100000 in
set_option maxHeartbeats 4000000 in
theorem implDRev (a : Option Addr) (n c : Nat) (zs : List Int) (w : World) (h : Has .u8 w w.heap.size a n zs) (hf : ∀ z ∈ zs, (Lit.int .u8 z).wf = true) (hn : n ≤ 134217728) (hc : n ≤ c) :
    Calls Try.prog 18 #[.slice a n c] w fun e w' => e = .returned (.tuple #[.agg #[.int .i64 (dr0 (drO zs)), .int .i64 (dr1 (drO zs)), .int .i64 (dr2 (drO zs))], .bool (drY (drO zs))]) ∧ Mk0 w w' := by
  have M0 := Mk.alloc w (Obj.cells #[Value.int .i64 0, Value.int .i64 0, Value.int .i64 0] 50)
  have r0 : (w.alloc (Obj.cells #[Value.int .i64 0, Value.int .i64 0, Value.int .i64 0] 50)).cell? ⟨w.heap.size, 0, none⟩ = some (.int .i64 0) := by simp [go_sem]
  have r1 : (w.alloc (Obj.cells #[Value.int .i64 0, Value.int .i64 0, Value.int .i64 0] 50)).cell? ⟨w.heap.size, 1, none⟩ = some (.int .i64 0) := by simp [go_sem]
  have r2 : (w.alloc (Obj.cells #[Value.int .i64 0, Value.int .i64 0, Value.int .i64 0] 50)).cell? ⟨w.heap.size, 2, none⟩ = some (.int .i64 0) := by simp [go_sem]
  have fr : ∀ o, (w.alloc (Obj.cells #[Value.int .i64 0, Value.int .i64 0, Value.int .i64 0] 50)).frozen? ⟨w.heap.size, o, none⟩ = false := fun o => by simp [go_sem]
  have hs1 : (w.alloc (Obj.cells #[Value.int .i64 0, Value.int .i64 0, Value.int .i64 0] 50)).heap.size = w.heap.size + 1 := by rw [World.size_alloc]
  have hN := implNote a n c zs (w.alloc (Obj.cells #[Value.int .i64 0, Value.int .i64 0, Value.int .i64 0] 50)) (h.next M0.below0) hf hn hc
  cases hd : drO zs with
  | none =>
    rw [hd] at hN
    simp only [noteV] at hN
    have ta : ∀ w', (Instr.typeAssert (.nilIface) 20 50 true).run Try.prog w' = .ok (.tuple #[.agg #[.int .i64 0, .int .i64 0, .int .i64 0], .bool false]) w' := fun _ => by kernel_rfl
    go_enter Try.func18, Try.ntmps18
    go_wp2_with fail
    generalize (w.alloc (Obj.cells #[Value.int .i64 0, Value.int .i64 0, Value.int .i64 0] 50)) = WW at *
    refine hN.mono ?_
    rintro e w2 ⟨rfl, m2⟩
    have M2 := M0.trans m2
    replace r0 := m2.cellAt r0
    replace r1 := m2.cellAt r1
    replace r2 := m2.cellAt r2
    replace fr := fun o => (m2.frozen (b := w.heap.size) (o := o) (by omega) (.inr (Nat.zero_le _))).trans (fr o)
    have hws : w.heap.size < w2.heap.size := by have := m2.size; omega
    have t0 : (w2.alloc (Obj.cells #[Value.int .i64 0, Value.int .i64 0, Value.int .i64 0] 50)).cell? ⟨w2.heap.size, 0, none⟩ = some (.int .i64 0) := by simp [go_sem]
    have t1 : (w2.alloc (Obj.cells #[Value.int .i64 0, Value.int .i64 0, Value.int .i64 0] 50)).cell? ⟨w2.heap.size, 1, none⟩ = some (.int .i64 0) := by simp [go_sem]
    have t2 : (w2.alloc (Obj.cells #[Value.int .i64 0, Value.int .i64 0, Value.int .i64 0] 50)).cell? ⟨w2.heap.size, 2, none⟩ = some (.int .i64 0) := by simp [go_sem]
    go_wp2_with fail
    replace r0 := World.cell?_setCell_same _ _ (.int .i64 0) r0
    replace r1 := cell_set r1 ⟨w.heap.size, 0, none⟩ (.int .i64 0) (.inr (by simp))
    replace r2 := cell_set r2 ⟨w.heap.size, 0, none⟩ (.int .i64 0) (.inr (by simp))
    replace M2 := M2.put ⟨w.heap.size, 0, none⟩ (.int .i64 0) (show w.heap.size ≤ w.heap.size from by omega)
    replace r0 := cell_set r0 ⟨w.heap.size, 1, none⟩ (.int .i64 0) (.inr (by simp))
    replace r1 := World.cell?_setCell_same _ _ (.int .i64 0) r1
    replace r2 := cell_set r2 ⟨w.heap.size, 1, none⟩ (.int .i64 0) (.inr (by simp))
    replace M2 := M2.put ⟨w.heap.size, 1, none⟩ (.int .i64 0) (show w.heap.size ≤ w.heap.size from by omega)
    replace r0 := cell_set r0 ⟨w.heap.size, 2, none⟩ (.int .i64 0) (.inr (by simp))
    replace r1 := cell_set r1 ⟨w.heap.size, 2, none⟩ (.int .i64 0) (.inr (by simp))
    replace r2 := World.cell?_setCell_same _ _ (.int .i64 0) r2
    replace M2 := M2.put ⟨w.heap.size, 2, none⟩ (.int .i64 0) (show w.heap.size ≤ w.heap.size from by omega)
    generalize (((w2.setCell ⟨w.heap.size, 0, none⟩ (.int .i64 0)).setCell ⟨w.heap.size, 1, none⟩ (.int .i64 0)).setCell ⟨w.heap.size, 2, none⟩ (.int .i64 0)) = WF at *
    have MX := Mk.alloc WF (Obj.cells #[Value.int .i64 0, Value.int .i64 0, Value.int .i64 0] 50)
    replace r0 := MX.cellAt r0
    replace r1 := MX.cellAt r1
    replace r2 := MX.cellAt r2
    generalize (WF.alloc (Obj.cells #[Value.int .i64 0, Value.int .i64 0, Value.int .i64 0] 50)) = WX at *
    refine bodyPost_ret (v := .tuple #[.agg #[.int .i64 0, .int .i64 0, .int .i64 0], .bool false]) (by simp [results, Try.results18, go_sem, r0, r1, r2]) rfl ⟨?_, ?_⟩
    · rfl
    · exact M2.trans MX
  | some x =>
    obtain ⟨y0, y1, y2⟩ := x
    rw [hd] at hN
    simp only [noteV] at hN
    have ta : ∀ w', (Instr.typeAssert (.iface 50 (.agg #[.int .i64 y0, .int .i64 y1, .int .i64 y2])) 20 50 true).run Try.prog w' = .ok (.tuple #[.agg #[.int .i64 y0, .int .i64 y1, .int .i64 y2], .bool true]) w' := fun _ => by kernel_rfl
    go_enter Try.func18, Try.ntmps18
    go_wp2_with fail
    generalize (w.alloc (Obj.cells #[Value.int .i64 0, Value.int .i64 0, Value.int .i64 0] 50)) = WW at *
    refine hN.mono ?_
    rintro e w2 ⟨rfl, m2⟩
    have M2 := M0.trans m2
    replace r0 := m2.cellAt r0
    replace r1 := m2.cellAt r1
    replace r2 := m2.cellAt r2
    replace fr := fun o => (m2.frozen (b := w.heap.size) (o := o) (by omega) (.inr (Nat.zero_le _))).trans (fr o)
    have hws : w.heap.size < w2.heap.size := by have := m2.size; omega
    have t0 : (w2.alloc (Obj.cells #[Value.int .i64 y0, Value.int .i64 y1, Value.int .i64 y2] 50)).cell? ⟨w2.heap.size, 0, none⟩ = some (.int .i64 y0) := by simp [go_sem]
    have t1 : (w2.alloc (Obj.cells #[Value.int .i64 y0, Value.int .i64 y1, Value.int .i64 y2] 50)).cell? ⟨w2.heap.size, 1, none⟩ = some (.int .i64 y1) := by simp [go_sem]
    have t2 : (w2.alloc (Obj.cells #[Value.int .i64 y0, Value.int .i64 y1, Value.int .i64 y2] 50)).cell? ⟨w2.heap.size, 2, none⟩ = some (.int .i64 y2) := by simp [go_sem]
    go_wp2_with fail
    replace r0 := World.cell?_setCell_same _ _ (.int .i64 y0) r0
    replace r1 := cell_set r1 ⟨w.heap.size, 0, none⟩ (.int .i64 y0) (.inr (by simp))
    replace r2 := cell_set r2 ⟨w.heap.size, 0, none⟩ (.int .i64 y0) (.inr (by simp))
    replace M2 := M2.put ⟨w.heap.size, 0, none⟩ (.int .i64 y0) (show w.heap.size ≤ w.heap.size from by omega)
    replace r0 := cell_set r0 ⟨w.heap.size, 1, none⟩ (.int .i64 y1) (.inr (by simp))
    replace r1 := World.cell?_setCell_same _ _ (.int .i64 y1) r1
    replace r2 := cell_set r2 ⟨w.heap.size, 1, none⟩ (.int .i64 y1) (.inr (by simp))
    replace M2 := M2.put ⟨w.heap.size, 1, none⟩ (.int .i64 y1) (show w.heap.size ≤ w.heap.size from by omega)
    replace r0 := cell_set r0 ⟨w.heap.size, 2, none⟩ (.int .i64 y2) (.inr (by simp))
    replace r1 := cell_set r1 ⟨w.heap.size, 2, none⟩ (.int .i64 y2) (.inr (by simp))
    replace r2 := World.cell?_setCell_same _ _ (.int .i64 y2) r2
    replace M2 := M2.put ⟨w.heap.size, 2, none⟩ (.int .i64 y2) (show w.heap.size ≤ w.heap.size from by omega)
    generalize (((w2.setCell ⟨w.heap.size, 0, none⟩ (.int .i64 y0)).setCell ⟨w.heap.size, 1, none⟩ (.int .i64 y1)).setCell ⟨w.heap.size, 2, none⟩ (.int .i64 y2)) = WF at *
    have MX := Mk.alloc WF (Obj.cells #[Value.int .i64 y0, Value.int .i64 y1, Value.int .i64 y2] 50)
    replace r0 := MX.cellAt r0
    replace r1 := MX.cellAt r1
    replace r2 := MX.cellAt r2
    generalize (WF.alloc (Obj.cells #[Value.int .i64 y0, Value.int .i64 y1, Value.int .i64 y2] 50)) = WX at *
    refine bodyPost_ret (v := .tuple #[.agg #[.int .i64 y0, .int .i64 y1, .int .i64 y2], .bool true]) (by simp [results, Try.results18, go_sem, r0, r1, r2]) rfl ⟨?_, ?_⟩
    · rfl
    · exact M2.trans MX

end Go.Proofs.Ytoicmmandniagaa
