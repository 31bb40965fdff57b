
/- SignAs of both sides, whole. -/
import Derived.Test.YtoicmmandniagaaSignAs
namespace Go.Proofs.Ytoicmmandniagaa
open Go.ChangeShapes Go.WideShapes Go.ChangeAt Go.RowKit
set_option linter.unusedVariables false
def sgW (zs : List TAS) (n0 : Nat) (r : Int) (l : List Int) (s : TSignature) : Prop := s = sgV zs n0 r l
set_option maxRecDepth 100000 in
set_option maxHeartbeats 4000000 in
theorem signAsNo (a0 a1 : Option Addr) (n0 c0 n1 c1 : Nat) (r : Int) (a : Option Addr) (n c : Nat) (w : World) (hn : n0 ≤ 1048576) (hr : isAsB n0 r = false) :
    Calls Try.prog 33 #[.agg #[.slice a0 n0 c0, .slice a1 n1 c1], .int .i64 r, .slice a n c] w fun e w' => e = .returned (.agg #[.int .i64 (-1), .int .i64 0]) ∧ Mk0 w w' := by
  have M0 := (Mk.alloc w (Obj.cells #[Value.slice a0 n0 c0, Value.slice a1 n1 c1] 44)).new (Obj.cells #[Value.int .i64 0, Value.int .i64 0] 37)
  have r0 : ((w.alloc (Obj.cells #[Value.slice a0 n0 c0, Value.slice a1 n1 c1] 44)).alloc (Obj.cells #[Value.int .i64 0, Value.int .i64 0] 37)).cell? ⟨w.heap.size + 1, 0, none⟩ = some (.int .i64 0) := by simp [go_sem]
  have r1 : ((w.alloc (Obj.cells #[Value.slice a0 n0 c0, Value.slice a1 n1 c1] 44)).alloc (Obj.cells #[Value.int .i64 0, Value.int .i64 0] 37)).cell? ⟨w.heap.size + 1, 1, none⟩ = some (.int .i64 0) := by simp [go_sem]
  have f0 : ((w.alloc (Obj.cells #[Value.slice a0 n0 c0, Value.slice a1 n1 c1] 44)).alloc (Obj.cells #[Value.int .i64 0, Value.int .i64 0] 37)).frozen? ⟨w.heap.size + 1, 0, none⟩ = false := by simp [go_sem]
  have f1 : ((w.alloc (Obj.cells #[Value.slice a0 n0 c0, Value.slice a1 n1 c1] 44)).alloc (Obj.cells #[Value.int .i64 0, Value.int .i64 0] 37)).frozen? ⟨w.heap.size + 1, 1, none⟩ = false := by simp [go_sem]
  have HR := Lib.hid hr
  clear hr
  go_enter Try.func33, Try.ntmps33
  go_wp2_with fail
  refine (signerNo a0 a1 n0 c0 n1 c1 r _ hn HR.out).mono ?_
  rintro e w2 ⟨rfl, m2⟩
  have M2 := M0.trans m2
  replace f0 := m2.frozenAt r0 f0
  replace f1 := m2.frozenAt r1 f1
  replace r0 := m2.cellAt r0
  replace r1 := m2.cellAt r1
  go_wp2_with fail
  refine (nobodySign a n c _).mono ?_
  rintro e w3 ⟨rfl, m3⟩
  have M3 := M2.trans m3
  replace f0 := m3.frozenAt r0 f0
  replace f1 := m3.frozenAt r1 f1
  replace r0 := m3.cellAt r0
  replace r1 := m3.cellAt r1
  go_wp2_with fail
  have e0 : ((w3.setCell ⟨w.heap.size + 1, 0, none⟩ (.int .i64 (-1))).setCell ⟨w.heap.size + 1, 1, none⟩ (.int .i64 0)).cell? ⟨w.heap.size + 1, 0, none⟩ = some (.int .i64 (-1)) := cell_set (World.cell?_setCell_same _ _ _ r0) _ _ (.inr (by show (1 : Nat) ≠ 0; decide))
  have e1 : ((w3.setCell ⟨w.heap.size + 1, 0, none⟩ (.int .i64 (-1))).setCell ⟨w.heap.size + 1, 1, none⟩ (.int .i64 0)).cell? ⟨w.heap.size + 1, 1, none⟩ = some (.int .i64 0) := World.cell?_setCell_same _ _ _ (cell_set r1 _ _ (.inr (by show (0 : Nat) ≠ 1; decide)))
  have N1 := (M3.put ⟨w.heap.size + 1, 0, none⟩ (.int .i64 (-1)) (Nat.le_succ _)).put ⟨w.heap.size + 1, 1, none⟩ (.int .i64 0) (Nat.le_succ _)
  generalize ((w3.setCell ⟨w.heap.size + 1, 0, none⟩ (.int .i64 (-1))).setCell ⟨w.heap.size + 1, 1, none⟩ (.int .i64 0)) = WF at *
  refine bodyPost_ret (v := .agg #[.int .i64 (-1), .int .i64 0]) (by simp [results, Try.results33, go_sem, e0, e1]) rfl ⟨rfl, N1⟩

set_option maxRecDepth 100000 in
set_option maxHeartbeats 4000000 in
theorem specSignNo (a0 a1 : Option Addr) (n0 c0 n1 c1 : Nat) (r : Int) (a : Option Addr) (n c : Nat) (w : World) (hn : n0 ≤ 1048576) (hr : isAsB n0 r = false) :
    Calls Try.prog 27 #[.agg #[.slice a0 n0 c0, .slice a1 n1 c1], .int .i64 r, .slice a n c] w fun e w' => e = .returned (.agg #[.int .i64 (-1), .int .i64 0]) ∧ Mk0 w w' := by
  have M0 := (Mk.alloc w (Obj.cells #[Value.slice a0 n0 c0, Value.slice a1 n1 c1] 44)).new (Obj.cells #[Value.int .i64 0, Value.int .i64 0] 37)
  have r0 : ((w.alloc (Obj.cells #[Value.slice a0 n0 c0, Value.slice a1 n1 c1] 44)).alloc (Obj.cells #[Value.int .i64 0, Value.int .i64 0] 37)).cell? ⟨w.heap.size + 1, 0, none⟩ = some (.int .i64 0) := by simp [go_sem]
  have r1 : ((w.alloc (Obj.cells #[Value.slice a0 n0 c0, Value.slice a1 n1 c1] 44)).alloc (Obj.cells #[Value.int .i64 0, Value.int .i64 0] 37)).cell? ⟨w.heap.size + 1, 1, none⟩ = some (.int .i64 0) := by simp [go_sem]
  have f0 : ((w.alloc (Obj.cells #[Value.slice a0 n0 c0, Value.slice a1 n1 c1] 44)).alloc (Obj.cells #[Value.int .i64 0, Value.int .i64 0] 37)).frozen? ⟨w.heap.size + 1, 0, none⟩ = false := by simp [go_sem]
  have f1 : ((w.alloc (Obj.cells #[Value.slice a0 n0 c0, Value.slice a1 n1 c1] 44)).alloc (Obj.cells #[Value.int .i64 0, Value.int .i64 0] 37)).frozen? ⟨w.heap.size + 1, 1, none⟩ = false := by simp [go_sem]
  have HR := Lib.hid hr
  clear hr
  have k0 : ((w.alloc (Obj.cells #[Value.slice a0 n0 c0, Value.slice a1 n1 c1] 44)).alloc (Obj.cells #[Value.int .i64 0, Value.int .i64 0] 37)).cell? ⟨w.heap.size, 0, none⟩ = some (.slice a0 n0 c0) := by simp [go_sem]
  go_enter Try.func27, Try.ntmps27
  go_wp2_with fail
  refine (specIsAS a0 a1 n0 c0 n1 c1 r _ hn).mono ?_
  rintro e w3 ⟨he, m3⟩
  rw [HR.out] at he
  subst he
  have M3 := M0.trans m3
  replace f0 := m3.frozenAt r0 f0
  replace f1 := m3.frozenAt r1 f1
  replace r0 := m3.cellAt r0
  replace r1 := m3.cellAt r1
  go_wp2_with fail
  have e0 : ((w3.setCell ⟨w.heap.size + 1, 0, none⟩ (.int .i64 (-1))).setCell ⟨w.heap.size + 1, 1, none⟩ (.int .i64 0)).cell? ⟨w.heap.size + 1, 0, none⟩ = some (.int .i64 (-1)) := cell_set (World.cell?_setCell_same _ _ _ r0) _ _ (.inr (by show (1 : Nat) ≠ 0; decide))
  have e1 : ((w3.setCell ⟨w.heap.size + 1, 0, none⟩ (.int .i64 (-1))).setCell ⟨w.heap.size + 1, 1, none⟩ (.int .i64 0)).cell? ⟨w.heap.size + 1, 1, none⟩ = some (.int .i64 0) := World.cell?_setCell_same _ _ _ (cell_set r1 _ _ (.inr (by show (0 : Nat) ≠ 1; decide)))
  have N1 := (M3.put ⟨w.heap.size + 1, 0, none⟩ (.int .i64 (-1)) (Nat.le_succ _)).put ⟨w.heap.size + 1, 1, none⟩ (.int .i64 0) (Nat.le_succ _)
  generalize ((w3.setCell ⟨w.heap.size + 1, 0, none⟩ (.int .i64 (-1))).setCell ⟨w.heap.size + 1, 1, none⟩ (.int .i64 0)) = WF at *
  refine bodyPost_ret (v := .agg #[.int .i64 (-1), .int .i64 0]) (by simp [results, Try.results27, go_sem, e0, e1]) rfl ⟨rfl, N1⟩

set_option maxRecDepth 100000 in
set_option maxHeartbeats 4000000 in
theorem specSignYes (bA oA : Nat) (a1 : Option Addr) (n0 c0 n1 c1 B : Nat) (zs : List TAS) (q : Nat) (y : TAS) (V : Int) (a : Option Addr) (n c : Nat) (w : World) (h : HasAS w B (some ⟨bA, oA, none⟩) n0 zs) (hB : B ≤ w.heap.size) (hn0 : n0 ≤ 1048576) (hq : q < n0) (hy : y = zs.getD q default)
    (hS : ∀ wv, Mk0 w wv → Calls Try.prog 47 #[.int .i64 y.key, .slice a n c] wv fun e w' => e = .returned (.int .i64 V) ∧ Mk0 wv w') :
    Calls Try.prog 27 #[.agg #[.slice (some ⟨bA, oA, none⟩) n0 c0, .slice a1 n1 c1], .int .i64 (q : Int), .slice a n c] w fun e w' => e = .returned (.agg #[.int .i64 (q : Int), .int .i64 V]) ∧ Mk0 w w' := by
  have M0 := (Mk.alloc w (Obj.cells #[Value.slice (some ⟨bA, oA, none⟩) n0 c0, Value.slice a1 n1 c1] 44)).new (Obj.cells #[Value.int .i64 0, Value.int .i64 0] 37)
  have r0 : ((w.alloc (Obj.cells #[Value.slice (some ⟨bA, oA, none⟩) n0 c0, Value.slice a1 n1 c1] 44)).alloc (Obj.cells #[Value.int .i64 0, Value.int .i64 0] 37)).cell? ⟨w.heap.size + 1, 0, none⟩ = some (.int .i64 0) := by simp [go_sem]
  have r1 : ((w.alloc (Obj.cells #[Value.slice (some ⟨bA, oA, none⟩) n0 c0, Value.slice a1 n1 c1] 44)).alloc (Obj.cells #[Value.int .i64 0, Value.int .i64 0] 37)).cell? ⟨w.heap.size + 1, 1, none⟩ = some (.int .i64 0) := by simp [go_sem]
  have f0 : ((w.alloc (Obj.cells #[Value.slice (some ⟨bA, oA, none⟩) n0 c0, Value.slice a1 n1 c1] 44)).alloc (Obj.cells #[Value.int .i64 0, Value.int .i64 0] 37)).frozen? ⟨w.heap.size + 1, 0, none⟩ = false := by simp [go_sem]
  have f1 : ((w.alloc (Obj.cells #[Value.slice (some ⟨bA, oA, none⟩) n0 c0, Value.slice a1 n1 c1] 44)).alloc (Obj.cells #[Value.int .i64 0, Value.int .i64 0] 37)).frozen? ⟨w.heap.size + 1, 1, none⟩ = false := by simp [go_sem]
  have k0 : ((w.alloc (Obj.cells #[Value.slice (some ⟨bA, oA, none⟩) n0 c0, Value.slice a1 n1 c1] 44)).alloc (Obj.cells #[Value.int .i64 0, Value.int .i64 0] 37)).cell? ⟨w.heap.size, 0, none⟩ = some (.slice (some ⟨bA, oA, none⟩) n0 c0) := by simp [go_sem]
  obtain ⟨b, o, y2, e2, hb, hy2, d0, d1, d2⟩ := HasAS.at _ _ _ _ _ _ (h.mk M0 hB (.inr (Nat.le_refl _))) hq
  simp only [Option.some.injEq, Addr.mk.injEq, and_true] at e2
  obtain ⟨rfl, rfl⟩ := e2
  obtain rfl : y = y2 := hy.trans hy2.out.symm
  have HS := Lib.hid hS
  have HR := Lib.hid (show isAsB n0 (q : Int) = true from decide_eq_true (by omega))
  have HY := Lib.hid hy
  have i1 : (0 : Int) ≤ (q : Int) := by omega
  have i2 : (q : Int) < (n0 : Int) := by omega
  clear hS hy hy2 d0 d1
  go_enter Try.func27, Try.ntmps27
  go_wp2_with fail
  refine (specIsAS (some ⟨bA, oA, none⟩) a1 n0 c0 n1 c1 (q : Int) _ hn0).mono ?_
  rintro e w2 ⟨he, m2⟩
  rw [HR.out] at he
  subst he
  have M2 := M0.trans m2
  replace f0 := m2.frozenAt r0 f0
  replace f1 := m2.frozenAt r1 f1
  replace r0 := m2.cellAt r0
  replace r1 := m2.cellAt r1
  replace k0 := m2.cellAt k0
  replace d2 := m2.cellAt d2
  go_wp2_with fail
  refine (HS.out _ M2).mono ?_
  rintro e w3 ⟨rfl, m3⟩
  have M3 := M2.trans m3
  replace f0 := m3.frozenAt r0 f0
  replace f1 := m3.frozenAt r1 f1
  replace r0 := m3.cellAt r0
  replace r1 := m3.cellAt r1
  go_wp2_with fail
  have e0 : ((w3.setCell ⟨w.heap.size + 1, 0, none⟩ (.int .i64 (q : Int))).setCell ⟨w.heap.size + 1, 1, none⟩ (.int .i64 V)).cell? ⟨w.heap.size + 1, 0, none⟩ = some (.int .i64 (q : Int)) := cell_set (World.cell?_setCell_same _ _ _ r0) _ _ (.inr (by show (1 : Nat) ≠ 0; decide))
  have e1 : ((w3.setCell ⟨w.heap.size + 1, 0, none⟩ (.int .i64 (q : Int))).setCell ⟨w.heap.size + 1, 1, none⟩ (.int .i64 V)).cell? ⟨w.heap.size + 1, 1, none⟩ = some (.int .i64 V) := World.cell?_setCell_same _ _ _ (cell_set r1 _ _ (.inr (by show (0 : Nat) ≠ 1; decide)))
  have N1 := (M3.put ⟨w.heap.size + 1, 0, none⟩ (.int .i64 (q : Int)) (Nat.le_succ _)).put ⟨w.heap.size + 1, 1, none⟩ (.int .i64 V) (Nat.le_succ _)
  generalize ((w3.setCell ⟨w.heap.size + 1, 0, none⟩ (.int .i64 (q : Int))).setCell ⟨w.heap.size + 1, 1, none⟩ (.int .i64 V)) = WF at *
  refine bodyPost_ret (v := .agg #[.int .i64 (q : Int), .int .i64 V]) (by simp [results, Try.results27, go_sem, e0, e1]) rfl ⟨rfl, N1⟩

theorem specSignAs (a0 a1 : Option Addr) (n0 c0 n1 c1 B : Nat) (zs : List TAS) (r : Int) (a : Option Addr) (n c B' : Nat) (l : List Int) (s : TSignature) (hs : sgW zs n0 r l s) (w : World) (h : HasAS w B a0 n0 zs) (hB : B ≤ w.heap.size) (hn0 : n0 ≤ 1048576) (hz : ∀ y ∈ zs, TAS.fits y) (h' : Has .i64 w B' a n l) (hB' : B' ≤ w.heap.size) (hn : n ≤ 1048576) (hc0 : a = none → c = 0) (hf : ∀ z ∈ l, (Lit.int .i64 z).wf = true) :
    Calls Try.prog 27 #[.agg #[.slice a0 n0 c0, .slice a1 n1 c1], .int .i64 r, .slice a n c] w fun e w' => e = .returned (.agg #[.int .i64 s.nd, .int .i64 s.val]) ∧ Mk0 w w' := by
  cases hr : isAsB n0 r
  · have hv : s = ⟨-1, 0⟩ := hs.trans (by unfold sgV; rw [if_neg (by rw [hr]; decide)])
    subst hv
    exact specSignNo a0 a1 n0 c0 n1 c1 r a n c w hn0 hr
  · obtain ⟨q, hq, hqn⟩ := isAs_nat (r := r) hr
    subst hq
    obtain ⟨bA, oA, y, rfl, hbA, hy, d0, d1, d2⟩ := HasAS.at _ _ _ _ _ _ h hqn
    have hkey := as_fits h.1 hqn hz hy.out
    have hv : s = ⟨(q : Int), macV y.key ([77] ++ l)⟩ := hs.trans (by unfold sgV; rw [if_pos hr, hy.out]; simp)
    subst hv
    exact specSignYes bA oA a1 n0 c0 n1 c1 B zs q y _ a n c w h hB hn0 hqn hy.out (fun wv m => (specSign y.key a n c l wv hkey ((hasR_int.1 ((hasR_int.2 h').mk m hB' (.inr (Nat.le_refl _)))).mono (Nat.le_trans hB' m.size)) hc0 hf hn).mono fun e w' ⟨he, bb⟩ => ⟨he, Mk.of_below bb⟩)

theorem implSignAs (a0 a1 : Option Addr) (n0 c0 n1 c1 B : Nat) (zs : List TAS) (r : Int) (a : Option Addr) (n c B' : Nat) (l : List Int) (s : TSignature) (hs : sgW zs n0 r l s) (w : World) (h : HasAS w B a0 n0 zs) (hB : B ≤ w.heap.size) (hn0 : n0 ≤ 1048576) (hz : ∀ y ∈ zs, TAS.fits y) (h' : Has .i64 w B' a n l) (hB' : B' ≤ w.heap.size) (hn : n ≤ 1048576) (hc0 : a = none → c = 0) (hf : ∀ z ∈ l, (Lit.int .i64 z).wf = true) :
    Calls Try.prog 33 #[.agg #[.slice a0 n0 c0, .slice a1 n1 c1], .int .i64 r, .slice a n c] w fun e w' => e = .returned (.agg #[.int .i64 s.nd, .int .i64 s.val]) ∧ Mk0 w w' := by
  cases hr : isAsB n0 r
  · have hv : s = ⟨-1, 0⟩ := hs.trans (by unfold sgV; rw [if_neg (by rw [hr]; decide)])
    subst hv
    exact signAsNo a0 a1 n0 c0 n1 c1 r a n c w hn0 hr
  · obtain ⟨q, hq, hqn⟩ := isAs_nat (r := r) hr
    subst hq
    obtain ⟨bA, oA, y, rfl, hbA, hy, d0, d1, d2⟩ := HasAS.at _ _ _ _ _ _ h hqn
    have hkey := as_fits h.1 hqn hz hy.out
    have hv : s = ⟨(q : Int), macV y.key ([77] ++ l)⟩ := hs.trans (by unfold sgV; rw [if_pos hr, hy.out]; simp)
    subst hv
    exact signAsYes bA oA a1 n0 c0 n1 c1 B zs q y _ a n c w h hB hn0 hqn hy.out (fun wv m => (implSign y.key a n c l wv hkey ((hasR_int.1 ((hasR_int.2 h').mk m hB' (.inr (Nat.le_refl _)))).mono (Nat.le_trans hB' m.size)) hc0 hf hn).mono fun e w' ⟨he, bb⟩ => ⟨he, Mk.of_below bb⟩)

end Go.Proofs.Ytoicmmandniagaa
