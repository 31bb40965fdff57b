
/- Terminate of the model. -/
import Derived.Test.YtbbcpdgdihdmiaaGreatDoorGrowS
namespace Go.Proofs.YtbbcpdgdihdmiaaGreatDoor
open Go.ChangeShapes Go.WideShapes Go.ChangeAt Go.RowKit
set_option linter.unusedVariables false
set_option maxRecDepth 100000 in
set_option maxHeartbeats 40000000 in
theorem specTerminate (a0 a1 : Option Addr) (n0 c0 n1 c1 B : Nat) (zA : List TAS) (zl : List TLink) (p : TPolicy) (x0 x1 : Int) (a : Option Addr) (n c B' : Nat) (hs : List THop) (r i : Int) (w : World) (hA : HasAS w B a0 n0 zA) (hl : HasLink w B a1 n1 zl) (hB : B ≤ w.heap.size) (hn0 : n0 ≤ 1048576) (hn1 : n1 ≤ 1048576) (h : HasHop w B' a n hs) (hB' : B' ≤ w.heap.size) (hn : n ≤ 1048576) (hc0 : a = none → c = 0) (hnc : n ≤ c) (hz : ∀ y ∈ zA, TAS.fits y) (ht : (Lit.int .i64 x0).wf = true) (hb : (Lit.int .i64 x1).wf = true) (hr : (Lit.int .i64 r).wf = true) (hi : (Lit.int .i64 i).wf = true) (hf : ∀ y ∈ hs, THop.fits y) :
    Calls Tryz.prog 22 #[.agg #[.slice a0 n0 c0, .slice a1 n1 c1], .agg #[.int .i64 p.len, .int .i64 p.denied, .int .i64 p.closed, .int .i64 p.life], .agg #[.int .i64 x0, .int .i64 x1, .slice a n c], .int .i64 r, .int .i64 i] w (OutTSegment x0 x1 (growR zA p x0 x1 hs n r i 0 (teB n0 zA zl n1 p x0 x1 hs n r i)) (teB n0 zA zl n1 p x0 x1 hs n r i) w) := by
  have M0 := (((Mk.alloc w (Obj.cells #[Value.slice a0 n0 c0, Value.slice a1 n1 c1] 37)).new (Obj.cells #[Value.int .i64 p.len, Value.int .i64 p.denied, Value.int .i64 p.closed, Value.int .i64 p.life] 39)).new (Obj.cells #[Value.int .i64 x0, Value.int .i64 x1, Value.slice a n c] 31)).new (Obj.cells #[Value.int .i64 0, Value.int .i64 0, Value.slice none 0 0] 31)
  have k0 : ((((w.alloc (Obj.cells #[Value.slice a0 n0 c0, Value.slice a1 n1 c1] 37)).alloc (Obj.cells #[Value.int .i64 p.len, Value.int .i64 p.denied, Value.int .i64 p.closed, Value.int .i64 p.life] 39)).alloc (Obj.cells #[Value.int .i64 x0, Value.int .i64 x1, Value.slice a n c] 31)).alloc (Obj.cells #[Value.int .i64 0, Value.int .i64 0, Value.slice none 0 0] 31)).cell? ⟨w.heap.size, 0, none⟩ = some (.slice a0 n0 c0) := by simp [go_sem]
  have k1 : ((((w.alloc (Obj.cells #[Value.slice a0 n0 c0, Value.slice a1 n1 c1] 37)).alloc (Obj.cells #[Value.int .i64 p.len, Value.int .i64 p.denied, Value.int .i64 p.closed, Value.int .i64 p.life] 39)).alloc (Obj.cells #[Value.int .i64 x0, Value.int .i64 x1, Value.slice a n c] 31)).alloc (Obj.cells #[Value.int .i64 0, Value.int .i64 0, Value.slice none 0 0] 31)).cell? ⟨w.heap.size, 1, none⟩ = some (.slice a1 n1 c1) := by simp [go_sem]
  have p0 : ((((w.alloc (Obj.cells #[Value.slice a0 n0 c0, Value.slice a1 n1 c1] 37)).alloc (Obj.cells #[Value.int .i64 p.len, Value.int .i64 p.denied, Value.int .i64 p.closed, Value.int .i64 p.life] 39)).alloc (Obj.cells #[Value.int .i64 x0, Value.int .i64 x1, Value.slice a n c] 31)).alloc (Obj.cells #[Value.int .i64 0, Value.int .i64 0, Value.slice none 0 0] 31)).cell? ⟨w.heap.size + 1, 0, none⟩ = some (.int .i64 p.len) := by simp [go_sem]
  have p1 : ((((w.alloc (Obj.cells #[Value.slice a0 n0 c0, Value.slice a1 n1 c1] 37)).alloc (Obj.cells #[Value.int .i64 p.len, Value.int .i64 p.denied, Value.int .i64 p.closed, Value.int .i64 p.life] 39)).alloc (Obj.cells #[Value.int .i64 x0, Value.int .i64 x1, Value.slice a n c] 31)).alloc (Obj.cells #[Value.int .i64 0, Value.int .i64 0, Value.slice none 0 0] 31)).cell? ⟨w.heap.size + 1, 1, none⟩ = some (.int .i64 p.denied) := by simp [go_sem]
  have p2 : ((((w.alloc (Obj.cells #[Value.slice a0 n0 c0, Value.slice a1 n1 c1] 37)).alloc (Obj.cells #[Value.int .i64 p.len, Value.int .i64 p.denied, Value.int .i64 p.closed, Value.int .i64 p.life] 39)).alloc (Obj.cells #[Value.int .i64 x0, Value.int .i64 x1, Value.slice a n c] 31)).alloc (Obj.cells #[Value.int .i64 0, Value.int .i64 0, Value.slice none 0 0] 31)).cell? ⟨w.heap.size + 1, 2, none⟩ = some (.int .i64 p.closed) := by simp [go_sem]
  have p3 : ((((w.alloc (Obj.cells #[Value.slice a0 n0 c0, Value.slice a1 n1 c1] 37)).alloc (Obj.cells #[Value.int .i64 p.len, Value.int .i64 p.denied, Value.int .i64 p.closed, Value.int .i64 p.life] 39)).alloc (Obj.cells #[Value.int .i64 x0, Value.int .i64 x1, Value.slice a n c] 31)).alloc (Obj.cells #[Value.int .i64 0, Value.int .i64 0, Value.slice none 0 0] 31)).cell? ⟨w.heap.size + 1, 3, none⟩ = some (.int .i64 p.life) := by simp [go_sem]
  have j0 : ((((w.alloc (Obj.cells #[Value.slice a0 n0 c0, Value.slice a1 n1 c1] 37)).alloc (Obj.cells #[Value.int .i64 p.len, Value.int .i64 p.denied, Value.int .i64 p.closed, Value.int .i64 p.life] 39)).alloc (Obj.cells #[Value.int .i64 x0, Value.int .i64 x1, Value.slice a n c] 31)).alloc (Obj.cells #[Value.int .i64 0, Value.int .i64 0, Value.slice none 0 0] 31)).cell? ⟨w.heap.size + 1 + 1, 0, none⟩ = some (.int .i64 x0) := by simp [go_sem]
  have j1 : ((((w.alloc (Obj.cells #[Value.slice a0 n0 c0, Value.slice a1 n1 c1] 37)).alloc (Obj.cells #[Value.int .i64 p.len, Value.int .i64 p.denied, Value.int .i64 p.closed, Value.int .i64 p.life] 39)).alloc (Obj.cells #[Value.int .i64 x0, Value.int .i64 x1, Value.slice a n c] 31)).alloc (Obj.cells #[Value.int .i64 0, Value.int .i64 0, Value.slice none 0 0] 31)).cell? ⟨w.heap.size + 1 + 1, 1, none⟩ = some (.int .i64 x1) := by simp [go_sem]
  have j2 : ((((w.alloc (Obj.cells #[Value.slice a0 n0 c0, Value.slice a1 n1 c1] 37)).alloc (Obj.cells #[Value.int .i64 p.len, Value.int .i64 p.denied, Value.int .i64 p.closed, Value.int .i64 p.life] 39)).alloc (Obj.cells #[Value.int .i64 x0, Value.int .i64 x1, Value.slice a n c] 31)).alloc (Obj.cells #[Value.int .i64 0, Value.int .i64 0, Value.slice none 0 0] 31)).cell? ⟨w.heap.size + 1 + 1, 2, none⟩ = some (.slice a n c) := by simp [go_sem]
  have r0 : ((((w.alloc (Obj.cells #[Value.slice a0 n0 c0, Value.slice a1 n1 c1] 37)).alloc (Obj.cells #[Value.int .i64 p.len, Value.int .i64 p.denied, Value.int .i64 p.closed, Value.int .i64 p.life] 39)).alloc (Obj.cells #[Value.int .i64 x0, Value.int .i64 x1, Value.slice a n c] 31)).alloc (Obj.cells #[Value.int .i64 0, Value.int .i64 0, Value.slice none 0 0] 31)).cell? ⟨w.heap.size + 1 + 1 + 1, 0, none⟩ = some (.int .i64 0) := by simp [go_sem]
  have r1 : ((((w.alloc (Obj.cells #[Value.slice a0 n0 c0, Value.slice a1 n1 c1] 37)).alloc (Obj.cells #[Value.int .i64 p.len, Value.int .i64 p.denied, Value.int .i64 p.closed, Value.int .i64 p.life] 39)).alloc (Obj.cells #[Value.int .i64 x0, Value.int .i64 x1, Value.slice a n c] 31)).alloc (Obj.cells #[Value.int .i64 0, Value.int .i64 0, Value.slice none 0 0] 31)).cell? ⟨w.heap.size + 1 + 1 + 1, 1, none⟩ = some (.int .i64 0) := by simp [go_sem]
  have r2 : ((((w.alloc (Obj.cells #[Value.slice a0 n0 c0, Value.slice a1 n1 c1] 37)).alloc (Obj.cells #[Value.int .i64 p.len, Value.int .i64 p.denied, Value.int .i64 p.closed, Value.int .i64 p.life] 39)).alloc (Obj.cells #[Value.int .i64 x0, Value.int .i64 x1, Value.slice a n c] 31)).alloc (Obj.cells #[Value.int .i64 0, Value.int .i64 0, Value.slice none 0 0] 31)).cell? ⟨w.heap.size + 1 + 1 + 1, 2, none⟩ = some (.slice none 0 0) := by simp [go_sem]
  have hs4 : ((((w.alloc (Obj.cells #[Value.slice a0 n0 c0, Value.slice a1 n1 c1] 37)).alloc (Obj.cells #[Value.int .i64 p.len, Value.int .i64 p.denied, Value.int .i64 p.closed, Value.int .i64 p.life] 39)).alloc (Obj.cells #[Value.int .i64 x0, Value.int .i64 x1, Value.slice a n c] 31)).alloc (Obj.cells #[Value.int .i64 0, Value.int .i64 0, Value.slice none 0 0] 31)).heap.size = w.heap.size + 1 + 1 + 1 + 1 := by simp only [World.size_alloc]
  have fR : ∀ q, ((((w.alloc (Obj.cells #[Value.slice a0 n0 c0, Value.slice a1 n1 c1] 37)).alloc (Obj.cells #[Value.int .i64 p.len, Value.int .i64 p.denied, Value.int .i64 p.closed, Value.int .i64 p.life] 39)).alloc (Obj.cells #[Value.int .i64 x0, Value.int .i64 x1, Value.slice a n c] 31)).alloc (Obj.cells #[Value.int .i64 0, Value.int .i64 0, Value.slice none 0 0] 31)).frozen? ⟨w.heap.size + 1 + 1 + 1, q, none⟩ = false := fun q => by simp [go_sem]
  have HZ := Lib.hid hz
  have HF := Lib.hid hf
  have HT := Lib.hid ht
  have HBT := Lib.hid hb
  clear hz hf ht hb
  go_enter Tryz.func22, Tryz.ntmps22
  go_wp2_with fail
  generalize ((((w.alloc (Obj.cells #[Value.slice a0 n0 c0, Value.slice a1 n1 c1] 37)).alloc (Obj.cells #[Value.int .i64 p.len, Value.int .i64 p.denied, Value.int .i64 p.closed, Value.int .i64 p.life] 39)).alloc (Obj.cells #[Value.int .i64 x0, Value.int .i64 x1, Value.slice a n c] 31)).alloc (Obj.cells #[Value.int .i64 0, Value.int .i64 0, Value.slice none 0 0] 31)) = WW at *
  refine (specCExt a0 a1 n0 c0 n1 c1 B zA zl x0 x1 a n c B' hs r i _ (hA.mk M0 hB (.inr (Nat.le_refl _))) (hl.mk M0 hB (.inr (Nat.le_refl _))) (Nat.le_trans hB M0.size) hn0 hn1 (h.mk M0 hB' (.inr (Nat.le_refl _))) (Nat.le_trans hB' M0.size) hn HZ.out HT.out HBT.out HF.out).mono ?_
  rintro e w2 ⟨he, m2⟩
  have M2 := M0.trans m2
  replace k0 := m2.cellAt k0
  replace k1 := m2.cellAt k1
  replace p0 := m2.cellAt p0
  replace p1 := m2.cellAt p1
  replace p2 := m2.cellAt p2
  replace p3 := m2.cellAt p3
  replace j0 := m2.cellAt j0
  replace j1 := m2.cellAt j1
  replace j2 := m2.cellAt j2
  replace r0 := m2.cellAt r0
  replace r1 := m2.cellAt r1
  replace r2 := m2.cellAt r2
  replace fR := fun qq => (m2.frozen (b := w.heap.size + 1 + 1 + 1) (o := qq) (by omega) (.inr (Nat.zero_le _))).trans (fR qq)
  have zm2 := m2.size
  cases q1 : ceB n0 zA zl n1 x0 x1 hs n r i
  · have Q1 := Lib.hid q1
    rw [q1] at he
    subst he
    clear q1
    have HR := Lib.hid (show teB n0 zA zl n1 p x0 x1 hs n r i = false by unfold teB; rw [Q1.out]; first | done | rfl | simp)
    go_wp2_with fail
    refine (specL9Copy x0 x1 a n c B' hs _ (h.mk M2 hB' (.inr (Nat.le_refl _))) (Nat.le_trans hB' M2.size) hn hc0 hnc).mono ?_
    rintro e w8 ⟨A, N, C, rfl, hown, mw8⟩
    have M := M2.trans mw8
    replace k0 := mw8.cellAt k0
    replace k1 := mw8.cellAt k1
    replace p0 := mw8.cellAt p0
    replace p1 := mw8.cellAt p1
    replace p2 := mw8.cellAt p2
    replace p3 := mw8.cellAt p3
    replace j0 := mw8.cellAt j0
    replace j1 := mw8.cellAt j1
    replace j2 := mw8.cellAt j2
    replace r0 := mw8.cellAt r0
    replace r1 := mw8.cellAt r1
    replace r2 := mw8.cellAt r2
    replace fR := fun qq => (mw8.frozen (b := w.heap.size + 1 + 1 + 1) (o := qq) (by omega) (.inr (Nat.zero_le _))).trans (fR qq)
    have zmw8 := mw8.size
    obtain ⟨_, _, e9, hca, hcb⟩ := ownsRow_sliceR2 hown
    cases e9
    have leR : w.heap.size ≤ w.heap.size + 1 + 1 + 1 := by omega
    go_wp2_with fail
    replace r0 := World.cell?_setCell_same _ _ (.int .i64 x0) r0
    replace r1 := cell_set r1 ⟨w.heap.size + 1 + 1 + 1, 0, none⟩ (.int .i64 x0) (.inr (by simp))
    replace r2 := cell_set r2 ⟨w.heap.size + 1 + 1 + 1, 0, none⟩ (.int .i64 x0) (.inr (by simp))
    replace hown := own_put hown ⟨w.heap.size + 1 + 1 + 1, 0, none⟩ (.int .i64 x0) (show w.heap.size + 1 + 1 + 1 < _ from by omega)
    replace M := M.put ⟨w.heap.size + 1 + 1 + 1, 0, none⟩ (.int .i64 x0) leR
    replace r0 := cell_set r0 ⟨w.heap.size + 1 + 1 + 1, 1, none⟩ (.int .i64 x1) (.inr (by simp))
    replace r1 := World.cell?_setCell_same _ _ (.int .i64 x1) r1
    replace r2 := cell_set r2 ⟨w.heap.size + 1 + 1 + 1, 1, none⟩ (.int .i64 x1) (.inr (by simp))
    replace hown := own_put hown ⟨w.heap.size + 1 + 1 + 1, 1, none⟩ (.int .i64 x1) (show w.heap.size + 1 + 1 + 1 < _ from by omega)
    replace M := M.put ⟨w.heap.size + 1 + 1 + 1, 1, none⟩ (.int .i64 x1) leR
    replace r0 := cell_set r0 ⟨w.heap.size + 1 + 1 + 1, 2, none⟩ (.slice A N C) (.inr (by simp))
    replace r1 := cell_set r1 ⟨w.heap.size + 1 + 1 + 1, 2, none⟩ (.slice A N C) (.inr (by simp))
    replace r2 := World.cell?_setCell_same _ _ (.slice A N C) r2
    replace hown := own_put hown ⟨w.heap.size + 1 + 1 + 1, 2, none⟩ (.slice A N C) (show w.heap.size + 1 + 1 + 1 < _ from by omega)
    replace M := M.put ⟨w.heap.size + 1 + 1 + 1, 2, none⟩ (.slice A N C) leR
    generalize (((w8.setCell ⟨w.heap.size + 1 + 1 + 1, 0, none⟩ (.int .i64 x0)).setCell ⟨w.heap.size + 1 + 1 + 1, 1, none⟩ (.int .i64 x1)).setCell ⟨w.heap.size + 1 + 1 + 1, 2, none⟩ (.slice A N C)) = wF at *
    exact bodyPost_ret (v := .tuple #[.agg #[.int .i64 x0, .int .i64 x1, .slice A N C], .bool false]) (by simp [results, Tryz.results22, go_sem, r0, r1, r2]) rfl (show OutTSegment x0 x1 (growR zA p x0 x1 hs n r i 0 (teB n0 zA zl n1 p x0 x1 hs n r i)) (teB n0 zA zl n1 p x0 x1 hs n r i) w _ wF from by rw [HR.out]; exact ⟨_, _, _, rfl, ⟨hca, hcb⟩, (ownsRow_ownR (by decide) hown).wide (by omega) (Nat.le_refl _), M⟩)
  · have HAS := ceB_as q1
    have Q1 := Lib.hid q1
    rw [q1] at he
    subst he
    clear q1
    go_wp2_with fail
    refine (specAllows p x0 x1 a n c B' hs 0 _ (h.mk M2 hB' (.inr (Nat.le_refl _))) (Nat.le_trans hB' M2.size) hn).mono ?_
    rintro e w3 ⟨he, m3⟩
    have M3 := M2.trans m3
    replace k0 := m3.cellAt k0
    replace k1 := m3.cellAt k1
    replace p0 := m3.cellAt p0
    replace p1 := m3.cellAt p1
    replace p2 := m3.cellAt p2
    replace p3 := m3.cellAt p3
    replace j0 := m3.cellAt j0
    replace j1 := m3.cellAt j1
    replace j2 := m3.cellAt j2
    replace r0 := m3.cellAt r0
    replace r1 := m3.cellAt r1
    replace r2 := m3.cellAt r2
    replace fR := fun qq => (m3.frozen (b := w.heap.size + 1 + 1 + 1) (o := qq) (by omega) (.inr (Nat.zero_le _))).trans (fR qq)
    have zm3 := m3.size
    cases q2 : polB p hs n 0
    · have Q2 := Lib.hid q2
      rw [q2] at he
      subst he
      clear q2
      have HR := Lib.hid (show teB n0 zA zl n1 p x0 x1 hs n r i = false by unfold teB; rw [Q1.out, Q2.out]; first | done | rfl | simp)
      go_wp2_with fail
      refine (specL9Copy x0 x1 a n c B' hs _ (h.mk M3 hB' (.inr (Nat.le_refl _))) (Nat.le_trans hB' M3.size) hn hc0 hnc).mono ?_
      rintro e w8 ⟨A, N, C, rfl, hown, mw8⟩
      have M := M3.trans mw8
      replace k0 := mw8.cellAt k0
      replace k1 := mw8.cellAt k1
      replace p0 := mw8.cellAt p0
      replace p1 := mw8.cellAt p1
      replace p2 := mw8.cellAt p2
      replace p3 := mw8.cellAt p3
      replace j0 := mw8.cellAt j0
      replace j1 := mw8.cellAt j1
      replace j2 := mw8.cellAt j2
      replace r0 := mw8.cellAt r0
      replace r1 := mw8.cellAt r1
      replace r2 := mw8.cellAt r2
      replace fR := fun qq => (mw8.frozen (b := w.heap.size + 1 + 1 + 1) (o := qq) (by omega) (.inr (Nat.zero_le _))).trans (fR qq)
      have zmw8 := mw8.size
      obtain ⟨_, _, e9, hca, hcb⟩ := ownsRow_sliceR2 hown
      cases e9
      have leR : w.heap.size ≤ w.heap.size + 1 + 1 + 1 := by omega
      go_wp2_with fail
      replace r0 := World.cell?_setCell_same _ _ (.int .i64 x0) r0
      replace r1 := cell_set r1 ⟨w.heap.size + 1 + 1 + 1, 0, none⟩ (.int .i64 x0) (.inr (by simp))
      replace r2 := cell_set r2 ⟨w.heap.size + 1 + 1 + 1, 0, none⟩ (.int .i64 x0) (.inr (by simp))
      replace hown := own_put hown ⟨w.heap.size + 1 + 1 + 1, 0, none⟩ (.int .i64 x0) (show w.heap.size + 1 + 1 + 1 < _ from by omega)
      replace M := M.put ⟨w.heap.size + 1 + 1 + 1, 0, none⟩ (.int .i64 x0) leR
      replace r0 := cell_set r0 ⟨w.heap.size + 1 + 1 + 1, 1, none⟩ (.int .i64 x1) (.inr (by simp))
      replace r1 := World.cell?_setCell_same _ _ (.int .i64 x1) r1
      replace r2 := cell_set r2 ⟨w.heap.size + 1 + 1 + 1, 1, none⟩ (.int .i64 x1) (.inr (by simp))
      replace hown := own_put hown ⟨w.heap.size + 1 + 1 + 1, 1, none⟩ (.int .i64 x1) (show w.heap.size + 1 + 1 + 1 < _ from by omega)
      replace M := M.put ⟨w.heap.size + 1 + 1 + 1, 1, none⟩ (.int .i64 x1) leR
      replace r0 := cell_set r0 ⟨w.heap.size + 1 + 1 + 1, 2, none⟩ (.slice A N C) (.inr (by simp))
      replace r1 := cell_set r1 ⟨w.heap.size + 1 + 1 + 1, 2, none⟩ (.slice A N C) (.inr (by simp))
      replace r2 := World.cell?_setCell_same _ _ (.slice A N C) r2
      replace hown := own_put hown ⟨w.heap.size + 1 + 1 + 1, 2, none⟩ (.slice A N C) (show w.heap.size + 1 + 1 + 1 < _ from by omega)
      replace M := M.put ⟨w.heap.size + 1 + 1 + 1, 2, none⟩ (.slice A N C) leR
      generalize (((w8.setCell ⟨w.heap.size + 1 + 1 + 1, 0, none⟩ (.int .i64 x0)).setCell ⟨w.heap.size + 1 + 1 + 1, 1, none⟩ (.int .i64 x1)).setCell ⟨w.heap.size + 1 + 1 + 1, 2, none⟩ (.slice A N C)) = wF at *
      exact bodyPost_ret (v := .tuple #[.agg #[.int .i64 x0, .int .i64 x1, .slice A N C], .bool false]) (by simp [results, Tryz.results22, go_sem, r0, r1, r2]) rfl (show OutTSegment x0 x1 (growR zA p x0 x1 hs n r i 0 (teB n0 zA zl n1 p x0 x1 hs n r i)) (teB n0 zA zl n1 p x0 x1 hs n r i) w _ wF from by rw [HR.out]; exact ⟨_, _, _, rfl, ⟨hca, hcb⟩, (ownsRow_ownR (by decide) hown).wide (by omega) (Nat.le_refl _), M⟩)
    · have Q2 := Lib.hid q2
      rw [q2] at he
      subst he
      clear q2
      have HR := Lib.hid (show teB n0 zA zl n1 p x0 x1 hs n r i = true by unfold teB; rw [Q1.out, Q2.out]; first | done | rfl | simp)
      go_wp2_with fail
      refine (specAdd13 a0 a1 n0 c0 n1 c1 B zA p x0 x1 a n c B' hs r i 0 _ (hA.mk M3 hB (.inr (Nat.le_refl _))) (Nat.le_trans hB M3.size) hn0 (h.mk M3 hB' (.inr (Nat.le_refl _))) (Nat.le_trans hB' M3.size) hn hc0 hnc HZ.out HT.out HBT.out hr hi (by decide) HAS).mono ?_
      rintro e w8 ⟨A, N, C, rfl, hown, mw8⟩
      have M := M3.trans mw8
      replace k0 := mw8.cellAt k0
      replace k1 := mw8.cellAt k1
      replace p0 := mw8.cellAt p0
      replace p1 := mw8.cellAt p1
      replace p2 := mw8.cellAt p2
      replace p3 := mw8.cellAt p3
      replace j0 := mw8.cellAt j0
      replace j1 := mw8.cellAt j1
      replace j2 := mw8.cellAt j2
      replace r0 := mw8.cellAt r0
      replace r1 := mw8.cellAt r1
      replace r2 := mw8.cellAt r2
      replace fR := fun qq => (mw8.frozen (b := w.heap.size + 1 + 1 + 1) (o := qq) (by omega) (.inr (Nat.zero_le _))).trans (fR qq)
      have zmw8 := mw8.size
      obtain ⟨_, _, e9, hca, hcb⟩ := ownsRow_sliceR2 hown
      cases e9
      have leR : w.heap.size ≤ w.heap.size + 1 + 1 + 1 := by omega
      go_wp2_with fail
      replace r0 := World.cell?_setCell_same _ _ (.int .i64 x0) r0
      replace r1 := cell_set r1 ⟨w.heap.size + 1 + 1 + 1, 0, none⟩ (.int .i64 x0) (.inr (by simp))
      replace r2 := cell_set r2 ⟨w.heap.size + 1 + 1 + 1, 0, none⟩ (.int .i64 x0) (.inr (by simp))
      replace hown := own_put hown ⟨w.heap.size + 1 + 1 + 1, 0, none⟩ (.int .i64 x0) (show w.heap.size + 1 + 1 + 1 < _ from by omega)
      replace M := M.put ⟨w.heap.size + 1 + 1 + 1, 0, none⟩ (.int .i64 x0) leR
      replace r0 := cell_set r0 ⟨w.heap.size + 1 + 1 + 1, 1, none⟩ (.int .i64 x1) (.inr (by simp))
      replace r1 := World.cell?_setCell_same _ _ (.int .i64 x1) r1
      replace r2 := cell_set r2 ⟨w.heap.size + 1 + 1 + 1, 1, none⟩ (.int .i64 x1) (.inr (by simp))
      replace hown := own_put hown ⟨w.heap.size + 1 + 1 + 1, 1, none⟩ (.int .i64 x1) (show w.heap.size + 1 + 1 + 1 < _ from by omega)
      replace M := M.put ⟨w.heap.size + 1 + 1 + 1, 1, none⟩ (.int .i64 x1) leR
      replace r0 := cell_set r0 ⟨w.heap.size + 1 + 1 + 1, 2, none⟩ (.slice A N C) (.inr (by simp))
      replace r1 := cell_set r1 ⟨w.heap.size + 1 + 1 + 1, 2, none⟩ (.slice A N C) (.inr (by simp))
      replace r2 := World.cell?_setCell_same _ _ (.slice A N C) r2
      replace hown := own_put hown ⟨w.heap.size + 1 + 1 + 1, 2, none⟩ (.slice A N C) (show w.heap.size + 1 + 1 + 1 < _ from by omega)
      replace M := M.put ⟨w.heap.size + 1 + 1 + 1, 2, none⟩ (.slice A N C) leR
      generalize (((w8.setCell ⟨w.heap.size + 1 + 1 + 1, 0, none⟩ (.int .i64 x0)).setCell ⟨w.heap.size + 1 + 1 + 1, 1, none⟩ (.int .i64 x1)).setCell ⟨w.heap.size + 1 + 1 + 1, 2, none⟩ (.slice A N C)) = wF at *
      exact bodyPost_ret (v := .tuple #[.agg #[.int .i64 x0, .int .i64 x1, .slice A N C], .bool true]) (by simp [results, Tryz.results22, go_sem, r0, r1, r2]) rfl (show OutTSegment x0 x1 (growR zA p x0 x1 hs n r i 0 (teB n0 zA zl n1 p x0 x1 hs n r i)) (teB n0 zA zl n1 p x0 x1 hs n r i) w _ wF from by rw [HR.out]; exact ⟨_, _, _, rfl, ⟨hca, hcb⟩, (ownsRow_ownR (by decide) hown).wide (by omega) (Nat.le_refl _), M⟩)
end Go.Proofs.YtbbcpdgdihdmiaaGreatDoor
