
/- SignAs of both sides. -/
import Derived.Test.YtoicmmandniagaaSign
import Derived.Test.YtoicmmandniagaaRealm
import Derived.Test.YtoicmmandniagaaSSignature
import Derived.Test.YtoicmmandniagaaWt
import Derived.Laws.EntriesVeiled
import Derived.Deep.RegionWith
import Derived.RegionTactic
namespace Go.Proofs.Ytoicmmandniagaa
open Go.ChangeShapes Go.WideShapes Go.ChangeAt Go.RowKit
set_option linter.unusedVariables false
def sgV (zs : List TAS) (n0 : Nat) (r : Int) (l : List Int) : TSignature := if isAsB n0 r = true then ⟨r, macV (zs.getD r.toNat default).key ([77] ++ l)⟩ else ⟨-1, 0⟩
theorem as_fits {zs : List TAS} {n q : Nat} (hl : zs.length = n) (hq : q < n) (hz : ∀ y ∈ zs, TAS.fits y) {y : TAS} (hy : y = zs.getD q default) : (Lit.int .i64 y.key).wf = true := by
  subst hy
  have : zs.getD q default ∈ zs := by
    rw [List.getD_eq_getElem?_getD, List.getElem?_eq_getElem (by omega)]
    exact List.getElem_mem _
  exact (hz _ this).2
theorem isAs_nat {n : Nat} {r : Int} (h : isAsB n r = true) : ∃ q : Nat, r = (q : Int) ∧ q < n := by
  have := of_decide_eq_true (show decide (0 ≤ r ∧ r < (n : Int)) = true from h)
  exact ⟨r.toNat, by omega, by omega⟩
set_option maxRecDepth 100000 in
set_option maxHeartbeats 4000000 in
theorem signerNo (a0 a1 : Option Addr) (n0 c0 n1 c1 : Nat) (r : Int) (w : World) (hn : n0 ≤ 1048576) (hr : isAsB n0 r = false) :
    Calls Try.prog 52 #[.agg #[.slice a0 n0 c0, .slice a1 n1 c1], .int .i64 r] w fun e w' => e = .returned (.iface 99 (.agg #[])) ∧ Mk0 w w' := by
  have M0 := Mk.alloc w (Obj.cells #[Value.slice a0 n0 c0, Value.slice a1 n1 c1] 44)
  have HR := Lib.hid hr
  clear hr
  go_enter Try.func52, Try.ntmps52
  go_wp2_with fail
  refine (implIsAS a0 a1 n0 c0 n1 c1 r _ hn).mono ?_
  rintro e w2 ⟨he, m2⟩
  rw [HR.out] at he
  subst he
  go_wp2_with fail
  go_ret
  exact ⟨rfl, M0.trans m2⟩

set_option maxRecDepth 100000 in
set_option maxHeartbeats 4000000 in
theorem signerYes (bA oA : Nat) (a1 : Option Addr) (n0 c0 n1 c1 B : Nat) (zs : List TAS) (q : Nat) (y : TAS) (w : World) (h : HasAS w B (some ⟨bA, oA, none⟩) n0 zs) (hB : B ≤ w.heap.size) (hn : n0 ≤ 1048576) (hq : q < n0) (hy : y = zs.getD q default) :
    Calls Try.prog 52 #[.agg #[.slice (some ⟨bA, oA, none⟩) n0 c0, .slice a1 n1 c1], .int .i64 (q : Int)] w fun e w' => e = .returned (.iface 101 (.agg #[.int .i64 (q : Int), .int .i64 y.key])) ∧ Mk0 w w' := by
  have M0 := Mk.alloc w (Obj.cells #[Value.slice (some ⟨bA, oA, none⟩) n0 c0, Value.slice a1 n1 c1] 44)
  have k0 : (w.alloc (Obj.cells #[Value.slice (some ⟨bA, oA, none⟩) n0 c0, Value.slice a1 n1 c1] 44)).cell? ⟨w.heap.size, 0, none⟩ = some (.slice (some ⟨bA, oA, none⟩) n0 c0) := by simp [go_sem]
  obtain ⟨b, o, y2, e2, hb, hy2, d0, d1, d2⟩ := HasAS.at _ _ _ _ _ _ (h.mk M0 hB (.inr (Nat.le_refl _))) hq
  simp only [Option.some.injEq, Addr.mk.injEq, and_true] at e2
  obtain ⟨rfl, rfl⟩ := e2
  obtain rfl : y = y2 := hy.trans hy2.out.symm
  have HR := Lib.hid (show isAsB n0 (q : Int) = true from decide_eq_true (by omega))
  have HY := Lib.hid hy
  have i1 : (0 : Int) ≤ (q : Int) := by omega
  have i2 : (q : Int) < (n0 : Int) := by omega
  clear hy hy2
  go_enter Try.func52, Try.ntmps52
  go_wp2_with fail
  refine (implIsAS (some ⟨bA, oA, none⟩) a1 n0 c0 n1 c1 (q : Int) _ hn).mono ?_
  rintro e w2 ⟨he, m2⟩
  rw [HR.out] at he
  subst he
  replace k0 := m2.cellAt k0
  replace d2 := m2.cellAt d2
  go_wp2_with fail
  go_ret
  exact ⟨rfl, M0.trans m2⟩

set_option maxRecDepth 100000 in
set_option maxHeartbeats 4000000 in
theorem nobodySign (a : Option Addr) (n c : Nat) (w : World) : Calls Try.prog 82 #[.agg #[], .slice a n c] w fun e w' => e = .returned (.agg #[.int .i64 (-1), .int .i64 0]) ∧ Mk0 w w' := by
  go_enter Try.func82, Try.ntmps82
  go_wp2_with fail
  refine bodyPost_ret (v := .agg #[.int .i64 (-1), .int .i64 0]) (by simp [results, Try.results82, go_sem]) rfl ⟨rfl, Mk.of_below ?_⟩
  go_grown

set_option maxRecDepth 100000 in
set_option maxHeartbeats 1000000 in
theorem ownerSign (r key V : Int) (a : Option Addr) (n c : Nat) (w : World) (hS : ∀ wv, Mk0 w wv → Calls Try.prog 84 #[.int .i64 key, .slice a n c] wv fun e w' => e = .returned (.int .i64 V) ∧ Mk0 wv w') :
    Calls Try.prog 83 #[.agg #[.int .i64 r, .int .i64 key], .slice a n c] w fun e w' => e = .returned (.agg #[.int .i64 r, .int .i64 V]) ∧ Mk0 w w' := by
  have M0 := (Mk.alloc w (Obj.cells #[Value.int .i64 r, Value.int .i64 key] 101)).new (Obj.cells #[Value.int .i64 0, Value.int .i64 0] 37)
  have k0 : ((w.alloc (Obj.cells #[Value.int .i64 r, Value.int .i64 key] 101)).alloc (Obj.cells #[Value.int .i64 0, Value.int .i64 0] 37)).cell? ⟨w.heap.size, 0, none⟩ = some (.int .i64 r) := by simp [go_sem]
  have k1 : ((w.alloc (Obj.cells #[Value.int .i64 r, Value.int .i64 key] 101)).alloc (Obj.cells #[Value.int .i64 0, Value.int .i64 0] 37)).cell? ⟨w.heap.size, 1, none⟩ = some (.int .i64 key) := by simp [go_sem]
  have r0 : ((w.alloc (Obj.cells #[Value.int .i64 r, Value.int .i64 key] 101)).alloc (Obj.cells #[Value.int .i64 0, Value.int .i64 0] 37)).cell? ⟨w.heap.size + 1, 0, none⟩ = some (.int .i64 0) := by simp [go_sem]
  have r1 : ((w.alloc (Obj.cells #[Value.int .i64 r, Value.int .i64 key] 101)).alloc (Obj.cells #[Value.int .i64 0, Value.int .i64 0] 37)).cell? ⟨w.heap.size + 1, 1, none⟩ = some (.int .i64 0) := by simp [go_sem]
  have f0 : ((w.alloc (Obj.cells #[Value.int .i64 r, Value.int .i64 key] 101)).alloc (Obj.cells #[Value.int .i64 0, Value.int .i64 0] 37)).frozen? ⟨w.heap.size + 1, 0, none⟩ = false := by simp [go_sem]
  have f1 : ((w.alloc (Obj.cells #[Value.int .i64 r, Value.int .i64 key] 101)).alloc (Obj.cells #[Value.int .i64 0, Value.int .i64 0] 37)).frozen? ⟨w.heap.size + 1, 1, none⟩ = false := by simp [go_sem]
  have HS := Lib.hid hS
  clear hS
  go_enter Try.func83, Try.ntmps83
  go_wp2_with fail
  have r0_ := r0
  have r1_ := r1
  refine wp_region_wkt (fun w' => Mk0 ((w.alloc (Obj.cells #[Value.int .i64 r, Value.int .i64 key] 101)).alloc (Obj.cells #[Value.int .i64 0, Value.int .i64 0] 37)) w' ∧ w'.cell? ⟨w.heap.size, 0, none⟩ = some (.int .i64 r) ∧ w'.cell? ⟨w.heap.size, 1, none⟩ = some (.int .i64 key) ∧ w'.cell? ⟨w.heap.size + 1, 0, none⟩ = some (.int .i64 0) ∧ w'.cell? ⟨w.heap.size + 1, 1, none⟩ = some (.int .i64 0)) 7 (by kernel_rfl) (by kernel_rfl) (by kernel_rfl) (by decide) (⟨Mk.drew1 _, k0, k1, r0, r1⟩) ?_
  change WkT _ _ _ _ _ 7 0 _
  first | (refine WkT.skip (m := 6) (k := 0) rfl (by rfl) ?_) | (refine WkT.pure (m := 6) (k := 0) (v := _) rfl (by rfl) (fun wv => by go_simp; try with_reducible rfl) ?_) | (refine WkT.step (m := 6) (k := 0) (v := _) rfl (by rfl) (by kernel_rfl) (fun wv hS => by obtain ⟨s0, s1, s2, s3, s4⟩ := hS; go_simp; try with_reducible rfl) ?_)
  try simp only [Act.put, List.getElem_toArray, List.getElem_cons_zero, List.setIfInBounds_toArray, List.set_cons_zero, List.set_cons_succ]
  first | (refine WkT.skip (m := 5) (k := 1) rfl (by rfl) ?_) | (refine WkT.pure (m := 5) (k := 1) (v := _) rfl (by rfl) (fun wv => by go_simp; try with_reducible rfl) ?_) | (refine WkT.step (m := 5) (k := 1) (v := _) rfl (by rfl) (by kernel_rfl) (fun wv hS => by obtain ⟨s0, s1, s2, s3, s4⟩ := hS; go_simp; try with_reducible rfl) ?_)
  try simp only [Act.put, List.getElem_toArray, List.getElem_cons_succ, List.getElem_cons_zero, List.setIfInBounds_toArray, List.set_cons_zero, List.set_cons_succ]
  first | (refine WkT.skip (m := 4) (k := 2) rfl (by rfl) ?_) | (refine WkT.pure (m := 4) (k := 2) (v := _) rfl (by rfl) (fun wv => by go_simp; try with_reducible rfl) ?_) | (refine WkT.step (m := 4) (k := 2) (v := _) rfl (by rfl) (by kernel_rfl) (fun wv hS => by obtain ⟨s0, s1, s2, s3, s4⟩ := hS; go_simp; try with_reducible rfl) ?_)
  try simp only [Act.put, List.getElem_toArray, List.getElem_cons_succ, List.getElem_cons_zero, List.setIfInBounds_toArray, List.set_cons_zero, List.set_cons_succ]
  first | (refine WkT.skip (m := 3) (k := 3) rfl (by rfl) ?_) | (refine WkT.pure (m := 3) (k := 3) (v := _) rfl (by rfl) (fun wv => by go_simp; try with_reducible rfl) ?_) | (refine WkT.step (m := 3) (k := 3) (v := _) rfl (by rfl) (by kernel_rfl) (fun wv hS => by obtain ⟨s0, s1, s2, s3, s4⟩ := hS; go_simp; try with_reducible rfl) ?_)
  try simp only [Act.put, List.getElem_toArray, List.getElem_cons_succ, List.getElem_cons_zero, List.setIfInBounds_toArray, List.set_cons_zero, List.set_cons_succ]
  first | (refine WkT.skip (m := 2) (k := 4) rfl (by rfl) ?_) | (refine WkT.pure (m := 2) (k := 4) (v := _) rfl (by rfl) (fun wv => by go_simp; try with_reducible rfl) ?_) | (refine WkT.step (m := 2) (k := 4) (v := _) rfl (by rfl) (by kernel_rfl) (fun wv hS => by obtain ⟨s0, s1, s2, s3, s4⟩ := hS; go_simp; try with_reducible rfl) ?_)
  try simp only [Act.put, List.getElem_toArray, List.getElem_cons_succ, List.getElem_cons_zero, List.setIfInBounds_toArray, List.set_cons_zero, List.set_cons_succ]
  refine WkT.call (m := 1) (k := 5) (v := .int .i64 V) _ _ rfl (by rfl) (by kernel_rfl) (fun wv hS => by obtain ⟨s0, s1, s2, s3, s4⟩ := hS; go_simp; first | done | exact ⟨rfl, rfl⟩ | with_reducible rfl) (fun wv hS => ?_) ?_; · obtain ⟨s0, s1, s2, s3, s4⟩ := hS; refine (HS.out wv (M0.trans s0)).mono ?_; rintro e w' ⟨rfl, mm⟩; exact ⟨rfl, s0.trans mm, mm.cellAt s1, mm.cellAt s2, mm.cellAt s3, mm.cellAt s4⟩
  try simp only [Act.put, List.getElem_toArray, List.getElem_cons_succ, List.getElem_cons_zero, List.setIfInBounds_toArray, List.set_cons_zero, List.set_cons_succ]
  first | (refine WkT.skip (m := 0) (k := 6) rfl (by rfl) ?_) | (refine WkT.pure (m := 0) (k := 6) (v := _) rfl (by rfl) (fun wv => by go_simp; try with_reducible rfl) ?_) | (refine WkT.step (m := 0) (k := 6) (v := _) rfl (by rfl) (by kernel_rfl) (fun wv hS => by obtain ⟨s0, s1, s2, s3, s4⟩ := hS; go_simp; try with_reducible rfl) ?_)
  try simp only [Act.put, List.getElem_toArray, List.getElem_cons_succ, List.getElem_cons_zero, List.setIfInBounds_toArray, List.set_cons_zero, List.set_cons_succ]
  refine WkT.done fun wE hE => ?_
  obtain ⟨mE, k0, k1, r0, r1⟩ := hE
  simp only [List.drop_succ_cons, List.drop_zero]
  have g0 := mE.frozenAt r0_ f0
  have g1 := mE.frozenAt r1_ f1
  clear r0_ r1_ f0 f1
  go_wp2_with fail
  simp only [noPan]
  go_wp2_with fail
  have e0 : ((wE.setCell ⟨w.heap.size + 1, 0, none⟩ (.int .i64 r)).setCell ⟨w.heap.size + 1, 1, none⟩ (.int .i64 V)).cell? ⟨w.heap.size + 1, 0, none⟩ = some (.int .i64 r) := cell_set (World.cell?_setCell_same _ _ _ r0) _ _ (.inr (by show (1 : Nat) ≠ 0; decide))
  have e1 : ((wE.setCell ⟨w.heap.size + 1, 0, none⟩ (.int .i64 r)).setCell ⟨w.heap.size + 1, 1, none⟩ (.int .i64 V)).cell? ⟨w.heap.size + 1, 1, none⟩ = some (.int .i64 V) := World.cell?_setCell_same _ _ _ (cell_set r1 _ _ (.inr (by show (0 : Nat) ≠ 1; decide)))
  have N1 := ((M0.trans mE).put ⟨w.heap.size + 1, 0, none⟩ (.int .i64 r) (Nat.le_succ _)).put ⟨w.heap.size + 1, 1, none⟩ (.int .i64 V) (Nat.le_succ _)
  generalize ((wE.setCell ⟨w.heap.size + 1, 0, none⟩ (.int .i64 r)).setCell ⟨w.heap.size + 1, 1, none⟩ (.int .i64 V)) = WF at *
  refine bodyPost_ret (v := .agg #[.int .i64 r, .int .i64 V]) (by simp [results, Try.results83, go_sem, e0, e1]) rfl ⟨rfl, N1⟩

set_option maxRecDepth 100000 in
set_option maxHeartbeats 1000000 in
theorem signAsYes (bA oA : Nat) (a1 : Option Addr) (n0 c0 n1 c1 B : Nat) (zs : List TAS) (q : Nat) (y : TAS) (V : Int) (a : Option Addr) (n c : Nat) (w : World) (h : HasAS w B (some ⟨bA, oA, none⟩) n0 zs) (hB : B ≤ w.heap.size) (hn0 : n0 ≤ 1048576) (hq : q < n0) (hy : y = zs.getD q default)
    (hS : ∀ wv, Mk0 w wv → Calls Try.prog 84 #[.int .i64 y.key, .slice a n c] wv fun e w' => e = .returned (.int .i64 V) ∧ Mk0 wv w') :
    Calls Try.prog 33 #[.agg #[.slice (some ⟨bA, oA, none⟩) n0 c0, .slice a1 n1 c1], .int .i64 (q : Int), .slice a n c] w fun e w' => e = .returned (.agg #[.int .i64 (q : Int), .int .i64 V]) ∧ Mk0 w w' := by
  have M0 := (Mk.alloc w (Obj.cells #[Value.slice (some ⟨bA, oA, none⟩) n0 c0, Value.slice a1 n1 c1] 44)).new (Obj.cells #[Value.int .i64 0, Value.int .i64 0] 37)
  have r0 : ((w.alloc (Obj.cells #[Value.slice (some ⟨bA, oA, none⟩) n0 c0, Value.slice a1 n1 c1] 44)).alloc (Obj.cells #[Value.int .i64 0, Value.int .i64 0] 37)).cell? ⟨w.heap.size + 1, 0, none⟩ = some (.int .i64 0) := by simp [go_sem]
  have r1 : ((w.alloc (Obj.cells #[Value.slice (some ⟨bA, oA, none⟩) n0 c0, Value.slice a1 n1 c1] 44)).alloc (Obj.cells #[Value.int .i64 0, Value.int .i64 0] 37)).cell? ⟨w.heap.size + 1, 1, none⟩ = some (.int .i64 0) := by simp [go_sem]
  have f0 : ((w.alloc (Obj.cells #[Value.slice (some ⟨bA, oA, none⟩) n0 c0, Value.slice a1 n1 c1] 44)).alloc (Obj.cells #[Value.int .i64 0, Value.int .i64 0] 37)).frozen? ⟨w.heap.size + 1, 0, none⟩ = false := by simp [go_sem]
  have f1 : ((w.alloc (Obj.cells #[Value.slice (some ⟨bA, oA, none⟩) n0 c0, Value.slice a1 n1 c1] 44)).alloc (Obj.cells #[Value.int .i64 0, Value.int .i64 0] 37)).frozen? ⟨w.heap.size + 1, 1, none⟩ = false := by simp [go_sem]
  have HS := Lib.hid hS
  have HY := Lib.hid hy
  clear hS hy
  go_enter Try.func33, Try.ntmps33
  go_wp2_with fail
  refine (signerYes bA oA a1 n0 c0 n1 c1 B zs q y _ (h.mk M0 hB (.inr (Nat.le_refl _))) (Nat.le_trans hB M0.size) hn0 hq HY.out).mono ?_
  rintro e w2 ⟨rfl, m2⟩
  have M2 := M0.trans m2
  replace f0 := m2.frozenAt r0 f0
  replace f1 := m2.frozenAt r1 f1
  replace r0 := m2.cellAt r0
  replace r1 := m2.cellAt r1
  go_wp2_with fail
  refine (ownerSign (q : Int) y.key V a n c _ (fun wv m => HS.out wv (M2.trans m))).mono ?_
  rintro e w3 ⟨rfl, m3⟩
  have M3 := M2.trans m3
  replace f0 := m3.frozenAt r0 f0
  replace f1 := m3.frozenAt r1 f1
  replace r0 := m3.cellAt r0
  replace r1 := m3.cellAt r1
  go_wp2_with fail
  have e0 : ((w3.setCell ⟨w.heap.size + 1, 0, none⟩ (.int .i64 (q : Int))).setCell ⟨w.heap.size + 1, 1, none⟩ (.int .i64 V)).cell? ⟨w.heap.size + 1, 0, none⟩ = some (.int .i64 (q : Int)) := cell_set (World.cell?_setCell_same _ _ _ r0) _ _ (.inr (by show (1 : Nat) ≠ 0; decide))
  have e1 : ((w3.setCell ⟨w.heap.size + 1, 0, none⟩ (.int .i64 (q : Int))).setCell ⟨w.heap.size + 1, 1, none⟩ (.int .i64 V)).cell? ⟨w.heap.size + 1, 1, none⟩ = some (.int .i64 V) := World.cell?_setCell_same _ _ _ (cell_set r1 _ _ (.inr (by show (0 : Nat) ≠ 1; decide)))
  have N1 := (M3.put ⟨w.heap.size + 1, 0, none⟩ (.int .i64 (q : Int)) (Nat.le_succ _)).put ⟨w.heap.size + 1, 1, none⟩ (.int .i64 V) (Nat.le_succ _)
  generalize ((w3.setCell ⟨w.heap.size + 1, 0, none⟩ (.int .i64 (q : Int))).setCell ⟨w.heap.size + 1, 1, none⟩ (.int .i64 V)) = WF at *
  refine bodyPost_ret (v := .agg #[.int .i64 (q : Int), .int .i64 V]) (by simp [results, Try.results33, go_sem, e0, e1]) rfl ⟨rfl, N1⟩

def verB (zs : List TAS) (n0 : Nat) (l : List Int) (x : TSignature) : Bool := isAsB n0 x.nd && (x.val == macV (zs.getD x.nd.toNat default).key ([77] ++ l))
end Go.Proofs.Ytoicmmandniagaa
