
/- FormatHop of both sides. -/
import Derived.Test.YthpejolljkbenaaDoorFas
import Derived.Test.YthpejolljkbenaaDoorSHop
namespace Go.Proofs.YthpejolljkbenaaDoor
open Go Go.ChangeShapes Go.WideShapes Go.ChangeAt Go.RowKit
set_option linter.unusedVariables false
def hopT (zs : List TAS) (n0 : Nat) (r i o : Int) : ByteArray := asT zs n0 r ++ ⟨#[58]⟩ ++ tI i ++ ⟨#[62]⟩ ++ tI o
theorem hopT_size {zs : List TAS} {n0 : Nat} {r i o : Int} (hl : zs.length = n0) (hz : ∀ y ∈ zs, TAS.fits y) (h0 : -9223372036854775808 ≤ r) (h1 : r ≤ 9223372036854775807) (k0 : -9223372036854775808 ≤ i) (k1 : i ≤ 9223372036854775807) (l0 : -9223372036854775808 ≤ o) (l1 : o ≤ 9223372036854775807) : (hopT zs n0 r i o).size ≤ 87 :=
  size_app (p := 66) (size_app (p := 65) (size_app (p := 44) (size_app (p := 43) (asT_size hl hz h0 h1) (one1 58)) (tI_size k0 k1)) (one1 62)) (tI_size l0 l1)
set_option maxRecDepth 100000 in
set_option maxHeartbeats 4000000 in
theorem specFHop (a0 a1 : Option Addr) (n0 c0 n1 c1 B : Nat) (zs : List TAS) (r i o x m : Int) (w : World) (h : HasAS w B a0 n0 zs) (hB : B ≤ w.heap.size) (hn0 : n0 ≤ 1048576) (hz : ∀ y ∈ zs, TAS.fits y) (h0_r : -9223372036854775808 ≤ r) (h1_r : r ≤ 9223372036854775807) (h0_i : -9223372036854775808 ≤ i) (h1_i : i ≤ 9223372036854775807) (h0_o : -9223372036854775808 ≤ o) (h1_o : o ≤ 9223372036854775807) :
    Calls Tryd.prog 37 #[.agg #[.slice a0 n0 c0, .slice a1 n1 c1], .agg #[.int .i64 r, .int .i64 i, .int .i64 o, .int .i64 x, .int .i64 m]] w fun e w' => e = .returned (.string (hopT zs n0 r i o)) ∧ Mk0 w w' := by
  have M0 := (Mk.alloc w (Obj.cells #[Value.slice a0 n0 c0, Value.slice a1 n1 c1] 31)).new (Obj.cells #[Value.int .i64 r, Value.int .i64 i, Value.int .i64 o, Value.int .i64 x, Value.int .i64 m] 79)
  have k0 : ((w.alloc (Obj.cells #[Value.slice a0 n0 c0, Value.slice a1 n1 c1] 31)).alloc (Obj.cells #[Value.int .i64 r, Value.int .i64 i, Value.int .i64 o, Value.int .i64 x, Value.int .i64 m] 79)).cell? ⟨w.heap.size, 0, none⟩ = some (.slice a0 n0 c0) := by simp [go_sem]
  have k1 : ((w.alloc (Obj.cells #[Value.slice a0 n0 c0, Value.slice a1 n1 c1] 31)).alloc (Obj.cells #[Value.int .i64 r, Value.int .i64 i, Value.int .i64 o, Value.int .i64 x, Value.int .i64 m] 79)).cell? ⟨w.heap.size, 1, none⟩ = some (.slice a1 n1 c1) := by simp [go_sem]
  have t0 : ((w.alloc (Obj.cells #[Value.slice a0 n0 c0, Value.slice a1 n1 c1] 31)).alloc (Obj.cells #[Value.int .i64 r, Value.int .i64 i, Value.int .i64 o, Value.int .i64 x, Value.int .i64 m] 79)).cell? ⟨w.heap.size + 1, 0, none⟩ = some (.int .i64 r) := by simp [go_sem]
  have t1 : ((w.alloc (Obj.cells #[Value.slice a0 n0 c0, Value.slice a1 n1 c1] 31)).alloc (Obj.cells #[Value.int .i64 r, Value.int .i64 i, Value.int .i64 o, Value.int .i64 x, Value.int .i64 m] 79)).cell? ⟨w.heap.size + 1, 1, none⟩ = some (.int .i64 i) := by simp [go_sem]
  have t2 : ((w.alloc (Obj.cells #[Value.slice a0 n0 c0, Value.slice a1 n1 c1] 31)).alloc (Obj.cells #[Value.int .i64 r, Value.int .i64 i, Value.int .i64 o, Value.int .i64 x, Value.int .i64 m] 79)).cell? ⟨w.heap.size + 1, 2, none⟩ = some (.int .i64 o) := by simp [go_sem]
  have ad0 := add_ok (asT zs n0 r) (⟨#[58]⟩) (p := 43) (q := 1) (asT_size h.1 hz h0_r h1_r) (one1 58) (by decide)
  have ad1 := add_ok (asT zs n0 r ++ ⟨#[58]⟩) (tI i) (p := 44) (q := 21) (size_app (p := 43) (q := 1) (asT_size h.1 hz h0_r h1_r) (one1 58)) (tI_size h0_i h1_i) (by decide)
  have ad2 := add_ok (asT zs n0 r ++ ⟨#[58]⟩ ++ tI i) (⟨#[62]⟩) (p := 65) (q := 1) (size_app (p := 44) (q := 21) (size_app (p := 43) (q := 1) (asT_size h.1 hz h0_r h1_r) (one1 58)) (tI_size h0_i h1_i)) (one1 62) (by decide)
  have ad3 := add_ok (asT zs n0 r ++ ⟨#[58]⟩ ++ tI i ++ ⟨#[62]⟩) (tI o) (p := 66) (q := 21) (size_app (p := 65) (q := 1) (size_app (p := 44) (q := 21) (size_app (p := 43) (q := 1) (asT_size h.1 hz h0_r h1_r) (one1 58)) (tI_size h0_i h1_i)) (one1 62)) (tI_size h0_o h1_o) (by decide)
  have HZ := Lib.hid hz
  clear hz
  go_enter Tryd.func37, Tryd.ntmps37
  go_wp2_with fail
  refine wp_region_wk (fun w' => Mk0 ((w.alloc (Obj.cells #[Value.slice a0 n0 c0, Value.slice a1 n1 c1] 31)).alloc (Obj.cells #[Value.int .i64 r, Value.int .i64 i, Value.int .i64 o, Value.int .i64 x, Value.int .i64 m] 79)) w' ∧ w'.cell? ⟨w.heap.size, 0, none⟩ = some (.slice a0 n0 c0) ∧ w'.cell? ⟨w.heap.size, 1, none⟩ = some (.slice a1 n1 c1) ∧ w'.cell? ⟨w.heap.size + 1, 0, none⟩ = some (.int .i64 r) ∧ w'.cell? ⟨w.heap.size + 1, 1, none⟩ = some (.int .i64 i) ∧ w'.cell? ⟨w.heap.size + 1, 2, none⟩ = some (.int .i64 o)) (by kernel_rfl) (by kernel_rfl) (⟨Mk.drew1 _, k0, k1, t0, t1, t2⟩) ?_
  change Wk _ _ _ _ 15 0 _
  first | (refine Wk.skip (m := 14) (k := 0) rfl (by rfl) ?_) | (refine Wk.step (m := 14) (k := 0) (v := _) rfl (by rfl) (fun wv hS => by obtain ⟨s0, s1, s2, s3, s4, s5⟩ := hS; go_simp; try with_reducible rfl) ?_)
  try simp only [Act.put, List.getElem_toArray, List.getElem_cons_zero, List.setIfInBounds_toArray, List.set_cons_zero, List.set_cons_succ]
  first | (refine Wk.skip (m := 13) (k := 1) rfl (by rfl) ?_) | (refine Wk.step (m := 13) (k := 1) (v := _) rfl (by rfl) (fun wv hS => by obtain ⟨s0, s1, s2, s3, s4, s5⟩ := hS; go_simp; try with_reducible rfl) ?_)
  try simp only [Act.put, List.getElem_toArray, List.getElem_cons_succ, List.getElem_cons_zero, List.setIfInBounds_toArray, List.set_cons_zero, List.set_cons_succ]
  first | (refine Wk.skip (m := 12) (k := 2) rfl (by rfl) ?_) | (refine Wk.step (m := 12) (k := 2) (v := _) rfl (by rfl) (fun wv hS => by obtain ⟨s0, s1, s2, s3, s4, s5⟩ := hS; go_simp; try with_reducible rfl) ?_)
  try simp only [Act.put, List.getElem_toArray, List.getElem_cons_succ, List.getElem_cons_zero, List.setIfInBounds_toArray, List.set_cons_zero, List.set_cons_succ]
  refine Wk.call (m := 11) (k := 3) (v := .string (asT zs n0 r)) _ _ rfl (by rfl) (fun wv hS => by obtain ⟨s0, s1, s2, s3, s4, s5⟩ := hS; go_simp; first | done | exact ⟨rfl, rfl⟩ | with_reducible rfl) (fun wv hS => ?_) ?_; · obtain ⟨s0, s1, s2, s3, s4, s5⟩ := hS; refine (specFAS a0 a1 n0 c0 n1 c1 B zs r wv (h.mk (M0.trans s0) hB (.inr (Nat.le_refl _))) (Nat.le_trans hB (M0.trans s0).size) hn0 HZ.out h0_r h1_r).mono ?_; rintro e w' ⟨he, mm⟩; exact ⟨he, s0.trans mm, mm.cellAt s1, mm.cellAt s2, mm.cellAt s3, mm.cellAt s4, mm.cellAt s5⟩
  try simp only [Act.put, List.getElem_toArray, List.getElem_cons_succ, List.getElem_cons_zero, List.setIfInBounds_toArray, List.set_cons_zero, List.set_cons_succ]
  first | (refine Wk.skip (m := 10) (k := 4) rfl (by rfl) ?_) | (refine Wk.step (m := 10) (k := 4) (v := _) rfl (by rfl) (fun wv hS => by obtain ⟨s0, s1, s2, s3, s4, s5⟩ := hS; go_simp; try with_reducible rfl) ?_)
  try simp only [Act.put, List.getElem_toArray, List.getElem_cons_succ, List.getElem_cons_zero, List.setIfInBounds_toArray, List.set_cons_zero, List.set_cons_succ]
  first | (refine Wk.skip (m := 9) (k := 5) rfl (by rfl) ?_) | (refine Wk.step (m := 9) (k := 5) (v := _) rfl (by rfl) (fun wv hS => by obtain ⟨s0, s1, s2, s3, s4, s5⟩ := hS; go_simp; try with_reducible rfl) ?_)
  try simp only [Act.put, List.getElem_toArray, List.getElem_cons_succ, List.getElem_cons_zero, List.setIfInBounds_toArray, List.set_cons_zero, List.set_cons_succ]
  first | (refine Wk.skip (m := 8) (k := 6) rfl (by rfl) ?_) | (refine Wk.step (m := 8) (k := 6) (v := _) rfl (by rfl) (fun wv hS => by obtain ⟨s0, s1, s2, s3, s4, s5⟩ := hS; go_simp; try with_reducible rfl) ?_)
  try simp only [Act.put, List.getElem_toArray, List.getElem_cons_succ, List.getElem_cons_zero, List.setIfInBounds_toArray, List.set_cons_zero, List.set_cons_succ]
  refine Wk.call (m := 7) (k := 7) (v := .string (tI i)) _ _ rfl (by rfl) (fun wv hS => by obtain ⟨s0, s1, s2, s3, s4, s5⟩ := hS; go_simp; first | done | exact ⟨rfl, rfl⟩ | with_reducible rfl) (fun wv hS => ?_) ?_; · obtain ⟨s0, s1, s2, s3, s4, s5⟩ := hS; refine (specFI i h0_i h1_i wv).mono ?_; rintro e w' ⟨he, mm⟩; exact ⟨he, s0.trans mm, mm.cellAt s1, mm.cellAt s2, mm.cellAt s3, mm.cellAt s4, mm.cellAt s5⟩
  try simp only [Act.put, List.getElem_toArray, List.getElem_cons_succ, List.getElem_cons_zero, List.setIfInBounds_toArray, List.set_cons_zero, List.set_cons_succ]
  first | (refine Wk.skip (m := 6) (k := 8) rfl (by rfl) ?_) | (refine Wk.step (m := 6) (k := 8) (v := _) rfl (by rfl) (fun wv hS => by obtain ⟨s0, s1, s2, s3, s4, s5⟩ := hS; go_simp; try with_reducible rfl) ?_)
  try simp only [Act.put, List.getElem_toArray, List.getElem_cons_succ, List.getElem_cons_zero, List.setIfInBounds_toArray, List.set_cons_zero, List.set_cons_succ]
  first | (refine Wk.skip (m := 5) (k := 9) rfl (by rfl) ?_) | (refine Wk.step (m := 5) (k := 9) (v := _) rfl (by rfl) (fun wv hS => by obtain ⟨s0, s1, s2, s3, s4, s5⟩ := hS; go_simp; try with_reducible rfl) ?_)
  try simp only [Act.put, List.getElem_toArray, List.getElem_cons_succ, List.getElem_cons_zero, List.setIfInBounds_toArray, List.set_cons_zero, List.set_cons_succ]
  first | (refine Wk.skip (m := 4) (k := 10) rfl (by rfl) ?_) | (refine Wk.step (m := 4) (k := 10) (v := _) rfl (by rfl) (fun wv hS => by obtain ⟨s0, s1, s2, s3, s4, s5⟩ := hS; go_simp; try with_reducible rfl) ?_)
  try simp only [Act.put, List.getElem_toArray, List.getElem_cons_succ, List.getElem_cons_zero, List.setIfInBounds_toArray, List.set_cons_zero, List.set_cons_succ]
  first | (refine Wk.skip (m := 3) (k := 11) rfl (by rfl) ?_) | (refine Wk.step (m := 3) (k := 11) (v := _) rfl (by rfl) (fun wv hS => by obtain ⟨s0, s1, s2, s3, s4, s5⟩ := hS; go_simp; try with_reducible rfl) ?_)
  try simp only [Act.put, List.getElem_toArray, List.getElem_cons_succ, List.getElem_cons_zero, List.setIfInBounds_toArray, List.set_cons_zero, List.set_cons_succ]
  refine Wk.call (m := 2) (k := 12) (v := .string (tI o)) _ _ rfl (by rfl) (fun wv hS => by obtain ⟨s0, s1, s2, s3, s4, s5⟩ := hS; go_simp; first | done | exact ⟨rfl, rfl⟩ | with_reducible rfl) (fun wv hS => ?_) ?_; · obtain ⟨s0, s1, s2, s3, s4, s5⟩ := hS; refine (specFI o h0_o h1_o wv).mono ?_; rintro e w' ⟨he, mm⟩; exact ⟨he, s0.trans mm, mm.cellAt s1, mm.cellAt s2, mm.cellAt s3, mm.cellAt s4, mm.cellAt s5⟩
  try simp only [Act.put, List.getElem_toArray, List.getElem_cons_succ, List.getElem_cons_zero, List.setIfInBounds_toArray, List.set_cons_zero, List.set_cons_succ]
  first | (refine Wk.skip (m := 1) (k := 13) rfl (by rfl) ?_) | (refine Wk.step (m := 1) (k := 13) (v := _) rfl (by rfl) (fun wv hS => by obtain ⟨s0, s1, s2, s3, s4, s5⟩ := hS; go_simp; try with_reducible rfl) ?_)
  try simp only [Act.put, List.getElem_toArray, List.getElem_cons_succ, List.getElem_cons_zero, List.setIfInBounds_toArray, List.set_cons_zero, List.set_cons_succ]
  first | (refine Wk.skip (m := 0) (k := 14) rfl (by rfl) ?_) | (refine Wk.step (m := 0) (k := 14) (v := _) rfl (by rfl) (fun wv hS => by obtain ⟨s0, s1, s2, s3, s4, s5⟩ := hS; go_simp; try with_reducible rfl) ?_)
  try simp only [Act.put, List.getElem_toArray, List.getElem_cons_succ, List.getElem_cons_zero, List.setIfInBounds_toArray, List.set_cons_zero, List.set_cons_succ]
  refine Wk.done fun wE hE => ?_
  clear k0 k1 t0 t1 t2
  obtain ⟨mE, k0, k1, t0, t1, t2⟩ := hE
  go_wp2_with fail
  go_ret
  exact ⟨rfl, M0.trans mE⟩

set_option maxRecDepth 100000 in
set_option maxHeartbeats 4000000 in
theorem implFHop (a0 a1 : Option Addr) (n0 c0 n1 c1 B : Nat) (zs : List TAS) (r i o x m : Int) (w : World) (h : HasAS w B a0 n0 zs) (hB : B ≤ w.heap.size) (hn0 : n0 ≤ 1048576) (hz : ∀ y ∈ zs, TAS.fits y) (h0_r : -9223372036854775808 ≤ r) (h1_r : r ≤ 9223372036854775807) (h0_i : -9223372036854775808 ≤ i) (h1_i : i ≤ 9223372036854775807) (h0_o : -9223372036854775808 ≤ o) (h1_o : o ≤ 9223372036854775807) (htab : Lib.TabIs Tryd.prog w "internal/strconv.uint64pow10" .u64 Lib.pow10Tab) :
    Calls Tryd.prog 66 #[.agg #[.slice a0 n0 c0, .slice a1 n1 c1], .agg #[.int .i64 r, .int .i64 i, .int .i64 o, .int .i64 x, .int .i64 m]] w fun e w' => e = .returned (.string (hopT zs n0 r i o)) ∧ Mk0 w w' := by
  have M0 := (Mk.alloc w (Obj.cells #[Value.slice a0 n0 c0, Value.slice a1 n1 c1] 31)).new (Obj.cells #[Value.int .i64 r, Value.int .i64 i, Value.int .i64 o, Value.int .i64 x, Value.int .i64 m] 79)
  have k0 : ((w.alloc (Obj.cells #[Value.slice a0 n0 c0, Value.slice a1 n1 c1] 31)).alloc (Obj.cells #[Value.int .i64 r, Value.int .i64 i, Value.int .i64 o, Value.int .i64 x, Value.int .i64 m] 79)).cell? ⟨w.heap.size, 0, none⟩ = some (.slice a0 n0 c0) := by simp [go_sem]
  have k1 : ((w.alloc (Obj.cells #[Value.slice a0 n0 c0, Value.slice a1 n1 c1] 31)).alloc (Obj.cells #[Value.int .i64 r, Value.int .i64 i, Value.int .i64 o, Value.int .i64 x, Value.int .i64 m] 79)).cell? ⟨w.heap.size, 1, none⟩ = some (.slice a1 n1 c1) := by simp [go_sem]
  have t0 : ((w.alloc (Obj.cells #[Value.slice a0 n0 c0, Value.slice a1 n1 c1] 31)).alloc (Obj.cells #[Value.int .i64 r, Value.int .i64 i, Value.int .i64 o, Value.int .i64 x, Value.int .i64 m] 79)).cell? ⟨w.heap.size + 1, 0, none⟩ = some (.int .i64 r) := by simp [go_sem]
  have t1 : ((w.alloc (Obj.cells #[Value.slice a0 n0 c0, Value.slice a1 n1 c1] 31)).alloc (Obj.cells #[Value.int .i64 r, Value.int .i64 i, Value.int .i64 o, Value.int .i64 x, Value.int .i64 m] 79)).cell? ⟨w.heap.size + 1, 1, none⟩ = some (.int .i64 i) := by simp [go_sem]
  have t2 : ((w.alloc (Obj.cells #[Value.slice a0 n0 c0, Value.slice a1 n1 c1] 31)).alloc (Obj.cells #[Value.int .i64 r, Value.int .i64 i, Value.int .i64 o, Value.int .i64 x, Value.int .i64 m] 79)).cell? ⟨w.heap.size + 1, 2, none⟩ = some (.int .i64 o) := by simp [go_sem]
  have ad0 := add_ok (asT zs n0 r) (⟨#[58]⟩) (p := 43) (q := 1) (asT_size h.1 hz h0_r h1_r) (one1 58) (by decide)
  have ad1 := add_ok (asT zs n0 r ++ ⟨#[58]⟩) (tI i) (p := 44) (q := 21) (size_app (p := 43) (q := 1) (asT_size h.1 hz h0_r h1_r) (one1 58)) (tI_size h0_i h1_i) (by decide)
  have ad2 := add_ok (asT zs n0 r ++ ⟨#[58]⟩ ++ tI i) (⟨#[62]⟩) (p := 65) (q := 1) (size_app (p := 44) (q := 21) (size_app (p := 43) (q := 1) (asT_size h.1 hz h0_r h1_r) (one1 58)) (tI_size h0_i h1_i)) (one1 62) (by decide)
  have ad3 := add_ok (asT zs n0 r ++ ⟨#[58]⟩ ++ tI i ++ ⟨#[62]⟩) (tI o) (p := 66) (q := 21) (size_app (p := 65) (q := 1) (size_app (p := 44) (q := 21) (size_app (p := 43) (q := 1) (asT_size h.1 hz h0_r h1_r) (one1 58)) (tI_size h0_i h1_i)) (one1 62)) (tI_size h0_o h1_o) (by decide)
  have HZ := Lib.hid hz
  clear hz
  go_enter Tryd.func66, Tryd.ntmps66
  go_wp2_with fail
  refine wp_region_wk (fun w' => Mk0 ((w.alloc (Obj.cells #[Value.slice a0 n0 c0, Value.slice a1 n1 c1] 31)).alloc (Obj.cells #[Value.int .i64 r, Value.int .i64 i, Value.int .i64 o, Value.int .i64 x, Value.int .i64 m] 79)) w' ∧ w'.cell? ⟨w.heap.size, 0, none⟩ = some (.slice a0 n0 c0) ∧ w'.cell? ⟨w.heap.size, 1, none⟩ = some (.slice a1 n1 c1) ∧ w'.cell? ⟨w.heap.size + 1, 0, none⟩ = some (.int .i64 r) ∧ w'.cell? ⟨w.heap.size + 1, 1, none⟩ = some (.int .i64 i) ∧ w'.cell? ⟨w.heap.size + 1, 2, none⟩ = some (.int .i64 o)) (by kernel_rfl) (by kernel_rfl) (⟨Mk.drew1 _, k0, k1, t0, t1, t2⟩) ?_
  change Wk _ _ _ _ 15 0 _
  first | (refine Wk.skip (m := 14) (k := 0) rfl (by rfl) ?_) | (refine Wk.step (m := 14) (k := 0) (v := _) rfl (by rfl) (fun wv hS => by obtain ⟨s0, s1, s2, s3, s4, s5⟩ := hS; go_simp; try with_reducible rfl) ?_)
  try simp only [Act.put, List.getElem_toArray, List.getElem_cons_zero, List.setIfInBounds_toArray, List.set_cons_zero, List.set_cons_succ]
  first | (refine Wk.skip (m := 13) (k := 1) rfl (by rfl) ?_) | (refine Wk.step (m := 13) (k := 1) (v := _) rfl (by rfl) (fun wv hS => by obtain ⟨s0, s1, s2, s3, s4, s5⟩ := hS; go_simp; try with_reducible rfl) ?_)
  try simp only [Act.put, List.getElem_toArray, List.getElem_cons_succ, List.getElem_cons_zero, List.setIfInBounds_toArray, List.set_cons_zero, List.set_cons_succ]
  first | (refine Wk.skip (m := 12) (k := 2) rfl (by rfl) ?_) | (refine Wk.step (m := 12) (k := 2) (v := _) rfl (by rfl) (fun wv hS => by obtain ⟨s0, s1, s2, s3, s4, s5⟩ := hS; go_simp; try with_reducible rfl) ?_)
  try simp only [Act.put, List.getElem_toArray, List.getElem_cons_succ, List.getElem_cons_zero, List.setIfInBounds_toArray, List.set_cons_zero, List.set_cons_succ]
  refine Wk.call (m := 11) (k := 3) (v := .string (asT zs n0 r)) _ _ rfl (by rfl) (fun wv hS => by obtain ⟨s0, s1, s2, s3, s4, s5⟩ := hS; go_simp; first | done | exact ⟨rfl, rfl⟩ | with_reducible rfl) (fun wv hS => ?_) ?_; · obtain ⟨s0, s1, s2, s3, s4, s5⟩ := hS; refine (implFAS a0 a1 n0 c0 n1 c1 B zs r wv (h.mk (M0.trans s0) hB (.inr (Nat.le_refl _))) (Nat.le_trans hB (M0.trans s0).size) hn0 HZ.out h0_r h1_r (tab_mk htab (M0.trans s0))).mono ?_; rintro e w' ⟨he, mm⟩; exact ⟨he, s0.trans mm, mm.cellAt s1, mm.cellAt s2, mm.cellAt s3, mm.cellAt s4, mm.cellAt s5⟩
  try simp only [Act.put, List.getElem_toArray, List.getElem_cons_succ, List.getElem_cons_zero, List.setIfInBounds_toArray, List.set_cons_zero, List.set_cons_succ]
  first | (refine Wk.skip (m := 10) (k := 4) rfl (by rfl) ?_) | (refine Wk.step (m := 10) (k := 4) (v := _) rfl (by rfl) (fun wv hS => by obtain ⟨s0, s1, s2, s3, s4, s5⟩ := hS; go_simp; try with_reducible rfl) ?_)
  try simp only [Act.put, List.getElem_toArray, List.getElem_cons_succ, List.getElem_cons_zero, List.setIfInBounds_toArray, List.set_cons_zero, List.set_cons_succ]
  first | (refine Wk.skip (m := 9) (k := 5) rfl (by rfl) ?_) | (refine Wk.step (m := 9) (k := 5) (v := _) rfl (by rfl) (fun wv hS => by obtain ⟨s0, s1, s2, s3, s4, s5⟩ := hS; go_simp; try with_reducible rfl) ?_)
  try simp only [Act.put, List.getElem_toArray, List.getElem_cons_succ, List.getElem_cons_zero, List.setIfInBounds_toArray, List.set_cons_zero, List.set_cons_succ]
  first | (refine Wk.skip (m := 8) (k := 6) rfl (by rfl) ?_) | (refine Wk.step (m := 8) (k := 6) (v := _) rfl (by rfl) (fun wv hS => by obtain ⟨s0, s1, s2, s3, s4, s5⟩ := hS; go_simp; try with_reducible rfl) ?_)
  try simp only [Act.put, List.getElem_toArray, List.getElem_cons_succ, List.getElem_cons_zero, List.setIfInBounds_toArray, List.set_cons_zero, List.set_cons_succ]
  refine Wk.call (m := 7) (k := 7) (v := .string (tI i)) _ _ rfl (by rfl) (fun wv hS => by obtain ⟨s0, s1, s2, s3, s4, s5⟩ := hS; go_simp; first | done | exact ⟨rfl, rfl⟩ | with_reducible rfl) (fun wv hS => ?_) ?_; · obtain ⟨s0, s1, s2, s3, s4, s5⟩ := hS; refine (implFI i h0_i h1_i wv (tab_mk htab (M0.trans s0))).mono ?_; rintro e w' ⟨he, mm⟩; exact ⟨he, s0.trans mm, mm.cellAt s1, mm.cellAt s2, mm.cellAt s3, mm.cellAt s4, mm.cellAt s5⟩
  try simp only [Act.put, List.getElem_toArray, List.getElem_cons_succ, List.getElem_cons_zero, List.setIfInBounds_toArray, List.set_cons_zero, List.set_cons_succ]
  first | (refine Wk.skip (m := 6) (k := 8) rfl (by rfl) ?_) | (refine Wk.step (m := 6) (k := 8) (v := _) rfl (by rfl) (fun wv hS => by obtain ⟨s0, s1, s2, s3, s4, s5⟩ := hS; go_simp; try with_reducible rfl) ?_)
  try simp only [Act.put, List.getElem_toArray, List.getElem_cons_succ, List.getElem_cons_zero, List.setIfInBounds_toArray, List.set_cons_zero, List.set_cons_succ]
  first | (refine Wk.skip (m := 5) (k := 9) rfl (by rfl) ?_) | (refine Wk.step (m := 5) (k := 9) (v := _) rfl (by rfl) (fun wv hS => by obtain ⟨s0, s1, s2, s3, s4, s5⟩ := hS; go_simp; try with_reducible rfl) ?_)
  try simp only [Act.put, List.getElem_toArray, List.getElem_cons_succ, List.getElem_cons_zero, List.setIfInBounds_toArray, List.set_cons_zero, List.set_cons_succ]
  first | (refine Wk.skip (m := 4) (k := 10) rfl (by rfl) ?_) | (refine Wk.step (m := 4) (k := 10) (v := _) rfl (by rfl) (fun wv hS => by obtain ⟨s0, s1, s2, s3, s4, s5⟩ := hS; go_simp; try with_reducible rfl) ?_)
  try simp only [Act.put, List.getElem_toArray, List.getElem_cons_succ, List.getElem_cons_zero, List.setIfInBounds_toArray, List.set_cons_zero, List.set_cons_succ]
  first | (refine Wk.skip (m := 3) (k := 11) rfl (by rfl) ?_) | (refine Wk.step (m := 3) (k := 11) (v := _) rfl (by rfl) (fun wv hS => by obtain ⟨s0, s1, s2, s3, s4, s5⟩ := hS; go_simp; try with_reducible rfl) ?_)
  try simp only [Act.put, List.getElem_toArray, List.getElem_cons_succ, List.getElem_cons_zero, List.setIfInBounds_toArray, List.set_cons_zero, List.set_cons_succ]
  refine Wk.call (m := 2) (k := 12) (v := .string (tI o)) _ _ rfl (by rfl) (fun wv hS => by obtain ⟨s0, s1, s2, s3, s4, s5⟩ := hS; go_simp; first | done | exact ⟨rfl, rfl⟩ | with_reducible rfl) (fun wv hS => ?_) ?_; · obtain ⟨s0, s1, s2, s3, s4, s5⟩ := hS; refine (implFI o h0_o h1_o wv (tab_mk htab (M0.trans s0))).mono ?_; rintro e w' ⟨he, mm⟩; exact ⟨he, s0.trans mm, mm.cellAt s1, mm.cellAt s2, mm.cellAt s3, mm.cellAt s4, mm.cellAt s5⟩
  try simp only [Act.put, List.getElem_toArray, List.getElem_cons_succ, List.getElem_cons_zero, List.setIfInBounds_toArray, List.set_cons_zero, List.set_cons_succ]
  first | (refine Wk.skip (m := 1) (k := 13) rfl (by rfl) ?_) | (refine Wk.step (m := 1) (k := 13) (v := _) rfl (by rfl) (fun wv hS => by obtain ⟨s0, s1, s2, s3, s4, s5⟩ := hS; go_simp; try with_reducible rfl) ?_)
  try simp only [Act.put, List.getElem_toArray, List.getElem_cons_succ, List.getElem_cons_zero, List.setIfInBounds_toArray, List.set_cons_zero, List.set_cons_succ]
  first | (refine Wk.skip (m := 0) (k := 14) rfl (by rfl) ?_) | (refine Wk.step (m := 0) (k := 14) (v := _) rfl (by rfl) (fun wv hS => by obtain ⟨s0, s1, s2, s3, s4, s5⟩ := hS; go_simp; try with_reducible rfl) ?_)
  try simp only [Act.put, List.getElem_toArray, List.getElem_cons_succ, List.getElem_cons_zero, List.setIfInBounds_toArray, List.set_cons_zero, List.set_cons_succ]
  refine Wk.done fun wE hE => ?_
  clear k0 k1 t0 t1 t2
  obtain ⟨mE, k0, k1, t0, t1, t2⟩ := hE
  go_wp2_with fail
  go_ret
  exact ⟨rfl, M0.trans mE⟩

end Go.Proofs.YthpejolljkbenaaDoor
